import PyProof.Rows.All
import Wide.All
import OpenK.AllK
import Wide.FinOn
import HandS.ForMost
import HandS.Zip
import HandS.TupAny
import KE.KRevSl
import KE.GoesNew
import KE.KDictZip
import HandS.Walk
import HandS.Conv
import HandS.Flow
import HandS.IsInst
import HandS.Wide
import HandS.ForExc
import HandS.ExcInit
import HandS.ExcIs
import HandS.ExcField
import KE.KExcInit
import HandS.Defaults
import HandS.ExcValue
import HandS.SetFor
import KE.SortData
import HandS.Dict
import HandS.Iter
import HandS.Deep
import HandS.CallSlots
import HandS.Style
import HandS.Text
import PyProof.P3In
import HandS.RaiseMore
import HandS.Comp
import HandS.TryOnly
import HandS.WordsExc
import HandS.More
import HandS.Property
import HandS.DictComp
import HandS.Star
import KE.KOpsOwn
import HandS.Codes
import PyProof.Rows.SortStr
import PyProof.Rows.StrMeet
import HandS.Set
import KE.KTryMore
import KE.KDictPairs
import KE.KDictKeyed
import PyProof.InstNe
import PyProof.ListNew
import KE.DataFind
import HandS.ClsMeth
import HandS.FStr
import PyProof.StrLaws
import PyProof.Rows.RegStrFacts
import PyProof.ExcBaseAll.ValueError
import HandS.TupMul
import HandS.SetKeys
import HandS.Gcd
import HandS.WideBits
import KE.KMathGC
import KE.GoesZip
import KE.GoesMore
import PyProof.StrLawsFirst
import PyProof.SumWalkG
import PyProof.ReprRoads
import HandS.FStrTup
import PyProof.TupleOfSeq
import PyProof.CollectStr
import HandS.TupLe
import HandS.RevRange
import PySem.Challenge.RW_countedsteps_k67_whole_told_if_nothing_c
set_option Elab.async false
set_option linter.all false
set_option maxRecDepth 100000
set_option maxHeartbeats 2000000
/-! Rules that the hand layer lacks: the reversed slice, enumerate of a tuple, tuple(zip(..)) -/
namespace CS
open PySem PySem.Spec PyProof.Rows L2
/-! ### x[::-1] -/
theorem adj_back (m : Nat) : Builtin.Slice.sliceAdjust none none (-1) (m : Int) = ((m : Int) - 1, -1) := by
  simp [Builtin.Slice.sliceAdjust]
theorem plc_back (m : Nat) : Builtin.Slice.slicePlaces ((m : Int) - 1) (-1) (-1) = m := by
  unfold Builtin.Slice.slicePlaces
  simp
  omega
theorem fm_same {α β : Type} {f g : α → Option β} : ∀ {l : List α}, (∀ a ∈ l, f a = g a) → l.filterMap f = l.filterMap g
  | [], _ => rfl
  | a :: l, h => by
    have e1 := h a (List.mem_cons_self ..)
    have e2 := fm_same (l := l) fun b hb => h b (List.mem_cons_of_mem _ hb)
    simp only [List.filterMap_cons, e1, e2]
theorem pick_back (its : Array Value) : ((List.range its.size).filterMap fun (j : Nat) => its[((its.size : Int) - 1 + (j : Int) * (-1)).toNat]?) = its.toList.reverse := by
  have q1 : (List.range its.size).filterMap (fun (j : Nat) => its[((its.size : Int) - 1 + (j : Int) * (-1)).toNat]?) = ((List.range its.size).map (fun j => its.size - 1 - j)).filterMap (its[·]?) := by
    rw [List.filterMap_map]
    refine fm_same fun j hj => ?_
    have hj' := List.mem_range.mp hj
    have e : ((its.size : Int) - 1 + (j : Int) * (-1)).toNat = its.size - 1 - j := by omega
    show its[((its.size : Int) - 1 + (j : Int) * (-1)).toNat]? = its[its.size - 1 - j]?
    rw [e]
  rw [q1, PySem.W.krv_range, List.filterMap_reverse, PySem.W.krv_all]
section
variable {prog : Program} {w : World} {A : Around} {E : Value → Shared → Prop} {s : Shared}
theorem app_back {sl : Addr} {k : Tok} {m : Nat} {Q : Int × Int × Nat → Shared → Prop} (hsl : s.heap.IsSliceOf sl .none .none (.int (-1) k)) (hq : Q ((m : Int) - 1, -1, m) s) :
    wpAny (model prog w) A (Builtin.Slice.sliceApplied (.ref sl) (pure (m : Int))) Q E s := by
  obtain ⟨ob, hob, hcl, hdt⟩ := id hsl
  unfold Builtin.Slice.sliceApplied Builtin.Slice.sliceFields
  refine wpAny_bind (wpAny_bind (wpAny_field hob hdt (x := .none) rfl (wpAny_bind (wpAny_field hob hdt (x := .none) rfl (wpAny_bind (wpAny_field hob hdt (x := .int (-1) k) rfl (wpAny_pure ?_)))))))
  refine wpAny_bind (PyProof.Rows.slicePart_int ?_)
  show wpAny _ _ (if ((-1 : Int) == 0) = true then _ else _) _ _ s
  rw [if_neg (by decide)]
  refine wpAny_bind (PyProof.Rows.slicePart_none (wpAny_bind (PyProof.Rows.slicePart_none (wpAny_bind (wpAny_pure ?_)))))
  show wpAny _ _ (match Builtin.Slice.sliceAdjust none none (-1) (m : Int) with | (lo, hi) => pure (lo, (-1 : Int), Builtin.Slice.slicePlaces lo hi (-1))) _ _ s
  rw [adj_back]
  show wpAny _ _ (pure ((m : Int) - 1, (-1 : Int), Builtin.Slice.slicePlaces ((m : Int) - 1) (-1) (-1))) _ _ s
  rw [plc_back]
  exact wpAny_pure hq
theorem tup_back {t sl : Addr} {its : Array Value} {k : Tok} {Q : Value → Shared → Prop} (ht : IsTup s.heap t its) (hsl : s.heap.IsSliceOf sl .none .none (.int (-1) k))
    (hq : Q (.ref s.heap.objs.size) { s with heap := s.heap.push { cls := .type "tuple", data := .seq its.toList.reverse.toArray } }) (hfit : its.size ≤ sizeLine) : wpAny (model prog w) A (getItem (.ref t) (.ref sl)) Q E s := by
  obtain ⟨ob, hob, hcl, hdt⟩ := id hsl
  have hty : s.TypeIs (.ref sl) "slice" := ⟨ob, hob, hcl⟩
  have hfit2 : sizeOk (.seq its.toList.reverse.toArray) := by
    show its.toList.reverse.toArray.size ≤ sizeLine
    rw [List.size_toArray, List.length_reverse, Array.length_toList]
    exact hfit
  unfold getItem
  try with_reducible refine wpAny_holding ?_
  first | refine wpAny_bind (wpAny_pure ?_) | skip
  refine wpAny_bind (wpAny_sequenceKey ht.typeIs (by decide) ?_)
  refine wpAny_bind (wpAny_callSpecial?_slot (name := Str.ofString "__getitem__") ht.typeIs PyProof.Rows.slot_tuple_getitem (wpAny_call_entry PyProof.Rows.slot_tuple_getitem ht.typeIs entry_tuple_getitem ?_ (args_tuple_getitem _ _)))
  show wpAny _ _ (Builtin.Tuple.tupleItemsOf (.ref t) >>= _) _ _ s
  refine wpAny_bind (tupleItemsOf_ ht (wpAny_bind (wpAny_typeOf hty ?_)))
  rw [if_pos (by decide)]
  refine wpAny_bind (app_back hsl ?_)
  have nope : ¬ ((((its.size : Nat) : Int) - 1 == 0 && (-1 : Int) == 1 && its.size == its.size) = true) := by
    intro q
    rw [Bool.and_eq_true, Bool.and_eq_true] at q
    exact absurd (eq_of_beq q.1.2) (by decide)
  show wpAny _ _ (if (((its.size : Nat) : Int) - 1 == 0 && (-1 : Int) == 1 && its.size == its.size) = true then _ else _) _ _ s
  rw [if_neg nope, pick_back]
  first
    | exact wpAny_bind (m := Builtin.Tuple.tupleExact _) (wpAny_newObj_type (wpAny_pure ⟨_, rfl, wpAny_pure hq⟩) hfit2)
    | exact wpAny_bind (m := Builtin.Tuple.tupleExact _) (wpAny_newObj_type (wpAny_bind (wpAny_pure (wpAny_pure ⟨_, rfl, wpAny_pure hq⟩))) hfit2)
    | exact wpAny_bind (wpAny_bind (m := Builtin.Tuple.tupleExact _) (wpAny_newObj_type (wpAny_pure (wpAny_pure ⟨_, rfl, wpAny_pure hq⟩)) hfit2))
    | exact wpAny_bind (wpAny_bind (m := Builtin.Tuple.tupleExact _) (wpAny_newObj_type (wpAny_pure ⟨_, rfl, wpAny_pure hq⟩) hfit2))
end
section
variable {X : Cx} {e st : Expr} {te ts : TE} {p2 pos : Pos}
/-- x[::-1], x a list or a tuple: a new one, turned -/
def tBack (K : PySem.W.Frag) (te ts : TE) : TE := fun σ H Q => te σ H fun x H1 => ts σ H1 fun y H2 => y = .int (-1) ∧ ∃ a xs, x = .ref a ∧ ((SqT K H2 a xs ∧ ∀ p, H2 p = none → Q (.ref p) (upd H2 p (.tup xs.reverse))) ∨ (SqL K H2 a xs ∧ ∀ p, H2 p = none → Q (.ref p) (upd H2 p (.lst xs.reverse))))
theorem vals_rev {xs : List V} {us : List Value} (h : Vals xs us) : Vals xs.reverse us.reverse := by
  induction h with
  | nil => exact .nil
  | cons r t ih =>
    rw [List.reverse_cons, List.reverse_cons]
    exact ih.append (.cons r .nil)
theorem pe_back (he : PE X e te) (hst : PE X st ts) : PE X (.Subscript e (.Slice none none (some st) p2) pos) (tBack X.K te ts) := by
  refine ⟨fun pins s0 σ H0 Q0 I0 hw => ?_⟩
  refine Subscript_ (thn (he.run pins s0 σ H0 _ I0 hw) fun v s1 ⟨x, H1, I1, r1, q1⟩ => ?_)
  refine wpAny_Slice ?_
  rw [evalPart_none]
  refine wpAny_pure (wpAny_pure ?_)
  rw [evalPart_some]
  refine thn (hst.run pins s1 σ H1 _ I1 q1) fun vs s3 ⟨y, H3, I3, r3, q3⟩ => ?_
  obtain ⟨rfl, a, xs, rfl, q⟩ := q3
  obtain ⟨tk, rfl⟩ := r3
  have I4 : Inv X pins σ H3 { s3 with heap := s3.heap.push { cls := .type "slice", data := .fields #[.none, .none, .int (-1) tk] } } := I3.kept (t' := s3.toks) fun b ob z => Heap.get?_push_of_some _ z
  cases r1
  rcases q with ⟨hx, q⟩ | ⟨hx, q⟩
  · obtain ⟨its, rv, pt, hz⟩ := I4.tuple hx
    refine tail_any (ops := [.ref a, .ref s3.heap.objs.size]) pt.typeIs PyProof.Rows.slot_tuple_getitem.lookup (tup_back pt (Heap.IsSliceOf.new ..) ?_ (by rw [List.size_toArray, ← rv.length]; exact hz)) (by with_unfolding_all rfl)
    refine ⟨.ref _, _, I4.laid (t' := s3.toks) (o := .tup xs.reverse) (fun b ob z => Heap.get?_push_of_some _ z) (Nat.le_refl _) ?_, rfl, q _ (I4.hok.fresh (Nat.le_refl _))⟩
    exact ⟨by rw [List.length_reverse]; exact hz, _, vals_rev rv, IsTup.new _ _⟩
  · obtain ⟨its, rv, pt, hz⟩ := I4.list hx
    refine tail_any (ops := [.ref a, .ref s3.heap.objs.size]) pt.isList.typeIs slot_list_getitem.lookup (wpAny_getItem_list_slice pt.isList (Heap.IsSliceOf.new ..) .none .none (.int (-1) tk) (by decide) ?_ (by rw [List.size_toArray, ← rv.length]; exact hz)) (by with_unfolding_all rfl)
    rw [PySem.W.krv_pick]
    refine ⟨.ref _, _, I4.laid (t' := s3.toks) (o := .lst xs.reverse) (fun b ob z => Heap.get?_push_of_some _ z) (Nat.le_refl _) ?_, rfl, q _ (I4.hok.fresh (Nat.le_refl _))⟩
    exact ⟨by rw [List.length_reverse]; exact hz, _, 0, vals_rev rv, Heap.get?_push_size _ rfl⟩
end
end CS
namespace CS
open PySem PySem.Spec PyProof.Rows L2
/-! ### enumerate(x) of anything whose iterator is known -/
end CS
namespace CS
open PySem PySem.Spec PyProof.Rows L2
section
variable {prog : Program} {w : World} {A : Around} {E : Value → Shared → Prop} {s : Shared} {z TI TO T i1 i2 : Addr} {fp1 fp2 : List Addr} {n1 n2 i : Nat} {P1 P2 : Nat → Value → Prop} {St1 St2 : Nat → Heap → Prop} {f : Bool} {oT : Obj}
/-- one more of a zip whose tuple is still held by somebody -/
theorem held_item {Q : Value → Shared → Prop} (S : ZipSep2 z TI TO i1 i2 fp1 fp2) (D1 : Draws prog w A i1 fp1 n1 P1 St1) (D2 : Draws prog w A i2 fp2 n2 P2 St2)
    (hz : IsZipHeld s.heap z TI TO T f) (hT : s.heap.get? T = some oT) (hTI : IsTupOf2 s.heap TI (.ref i1) (.ref i2)) (st1 : St1 i s.heap) (st2 : St2 i s.heap) (lt1 : i < n1) (lt2 : i < n2)
    (hq : ∀ x y h' tk, P1 i x → P2 i y → IsZipHeld h' z TI TO T true → St1 (i + 1) h' → St2 (i + 1) h' → IsTupOf2 h' s.heap.objs.size x y → h'.objs.size = s.heap.objs.size + 1 →
      (∀ c u, c ≠ z → c ≠ i1 → c ≠ i2 → s.heap.get? c = some u → h'.get? c = some u) → Q (.ref s.heap.objs.size) { s with heap := h', toks := tk }) :
    wpAny (model prog w) A (Builtin.«zip.__next__» ⟨[.ref z], []⟩) (fun fin s' => ∃ v, fin = .done (.ret v) ∧ Q v s') E s := by
  obtain ⟨hp, gn, dr, tk0, os⟩ := s
  show wpAny _ _ (field (.ref z) 2 >>= _) _ _ _
  refine wpAny_bind (wpAny_field hz rfl (x := .bool false) rfl ?_)
  show wpAny _ _ (field (.ref z) 3 >>= _) _ _ _
  refine wpAny_bind (wpAny_field hz rfl (x := .ref TI) rfl (wpAny_bind (wpAny_seqItems hTI rfl ?_)))
  show wpAny _ _ (Builtin.SmallTypes.ownedTupleIsFree (.ref z) >>= _) _ _ _
  refine wpAny_bind (wpAny_tupleHeld_zip hz hT fun g1 hz1 hs1 => ?_)
  replace hs1 : Heap.SameBut z hp g1 := hs1
  simp only [Bool.false_eq_true, if_false]
  refine wpAny_bind ?_
  rw [← Array.forIn_toList]
  simp only [List.forIn_cons, List.forIn_nil]
  refine wpAny_bind (wpAny_bind (wpAny_holding ?_))
  show wpAny _ _ (Builtin.SmallTypes.nextOf (.ref i1) >>= _) _ _ ⟨g1, gn, dr, tk0, os⟩
  refine wpAny_bind (D1.item i _ _ _ lt1 (D1.over st1 hs1 S.zf1) fun x g2 tk1 hx sn1 hs2 => wpAny_pure (wpAny_pure ?_))
  replace hs2 : Heap.SameBut i1 g1 g2 := hs2
  refine wpAny_bind (wpAny_bind (wpAny_holding ?_))
  show wpAny _ _ (Builtin.SmallTypes.nextOf (.ref i2) >>= _) _ _ ⟨g2, gn, dr, tk1, os⟩
  refine wpAny_bind (D2.item i _ _ _ lt2 (D2.over (D2.over st2 hs1 S.zf2) hs2 S.sep1_2) fun y g3 tk2 hy sn2 hs3 => wpAny_pure (wpAny_pure (wpAny_pure ?_)))
  replace hs3 : Heap.SameBut i2 g2 g3 := hs3
  show wpAny _ _ (newTuple [x, y] >>= _) _ _ ⟨g3, gn, dr, tk2, os⟩
  refine wpAny_bind (wpAny_newTuple ?_)
  have esz : g3.objs.size = hp.objs.size := by rw [hs3.1, hs2.1, hs1.1]
  have hz3 : IsZipHeld g3 z TI TO T true := hs3.extBut _ _ S.zi2 (hs2.extBut _ _ S.zi1 hz1)
  have kept : ∀ c u, c ≠ z → c ≠ i1 → c ≠ i2 → hp.get? c = some u → g3.get? c = some u := fun c u c1 c2 c3 q => hs3.extBut _ _ c3 (hs2.extBut _ _ c2 (hs1.extBut _ _ c1 q))
  have j1 : St1 (i + 1) g3 := D1.over sn1 hs3 S.sep2_1
  refine wpAny_pure ⟨_, rfl, ?_⟩
  show Q (.ref g3.objs.size) _
  have tp : IsTupOf2 (g3.push { cls := .type "tuple", data := .seq #[x, y] }) g3.objs.size x y := Heap.get?_push_size _ rfl
  have sz4 : (g3.push { cls := .type "tuple", data := .seq #[x, y] }).objs.size = g3.objs.size + 1 := Heap.size_push ..
  rw [esz] at tp sz4 ⊢
  exact hq x y _ tk2 hx hy (Heap.get?_push_of_some _ hz3) (D1.frame _ _ _ j1 fun b _ u q => Heap.get?_push_of_some _ q) (D2.frame _ _ _ sn2 fun b _ u q => Heap.get?_push_of_some _ q) tp sz4 fun c u c1 c2 c3 q => Heap.get?_push_of_some _ (kept c u c1 c2 c3 q)
theorem held_end {Q : Fin → Shared → Prop} (S : ZipSep2 z TI TO i1 i2 fp1 fp2) (D1 : Draws prog w A i1 fp1 n1 P1 St1) (D2 : Draws prog w A i2 fp2 n2 P2 St2)
    (hz : IsZipHeld s.heap z TI TO T f) (hT : s.heap.get? T = some oT) (hTI : IsTupOf2 s.heap TI (.ref i1) (.ref i2)) (st1 : St1 i s.heap) (st2 : St2 i s.heap) (le1 : i ≤ n1) (le2 : i ≤ n2) (fin : i = n1 ∨ i = n2)
    (he : ∀ h' tk e, (∀ c u, c ≠ z → c ≠ i1 → c ≠ i2 → s.heap.get? c = some u → h'.get? c = some u) → (∃ u, h'.get? e = some u ∧ u.cls = .type "StopIteration") → E (.ref e) { s with heap := h', toks := tk }) :
    wpAny (model prog w) A (Builtin.«zip.__next__» ⟨[.ref z], []⟩) Q E s := by
  obtain ⟨hp, gn, dr, tk0, os⟩ := s
  show wpAny _ _ (field (.ref z) 2 >>= _) _ _ _
  refine wpAny_bind (wpAny_field hz rfl (x := .bool false) rfl ?_)
  show wpAny _ _ (field (.ref z) 3 >>= _) _ _ _
  refine wpAny_bind (wpAny_field hz rfl (x := .ref TI) rfl (wpAny_bind (wpAny_seqItems hTI rfl ?_)))
  show wpAny _ _ (Builtin.SmallTypes.ownedTupleIsFree (.ref z) >>= _) _ _ _
  refine wpAny_bind (wpAny_tupleHeld_zip hz hT fun g1 hz1 hs1 => ?_)
  replace hs1 : Heap.SameBut z hp g1 := hs1
  simp only [Bool.false_eq_true, if_false]
  refine wpAny_bind ?_
  rw [← Array.forIn_toList]
  simp only [List.forIn_cons, List.forIn_nil]
  refine wpAny_bind (wpAny_bind (wpAny_holding ?_))
  show wpAny _ _ (Builtin.SmallTypes.nextOf (.ref i1) >>= _) _ _ ⟨g1, gn, dr, tk0, os⟩
  by_cases lt1 : i < n1
  · refine wpAny_bind (D1.item i _ _ _ lt1 (D1.over st1 hs1 S.zf1) fun x g2 tk1 hx sn1 hs2 => wpAny_pure (wpAny_pure ?_))
    replace hs2 : Heap.SameBut i1 g1 g2 := hs2
    have ei : i = n2 := by omega
    refine wpAny_bind (wpAny_bind (wpAny_holding ?_))
    show wpAny _ _ (Builtin.SmallTypes.nextOf (.ref i2) >>= _) _ _ ⟨g2, gn, dr, tk1, os⟩
    refine wpAny_bind (D2.done ⟨g2, gn, dr, tk1, os⟩ _ _ (by rw [← ei]; exact D2.over (D2.over st2 hs1 S.zf2) hs2 S.sep1_2) fun q e hq hE => ?_)
    replace hq : Heap.ExtBut i2 g2 q := hq
    exact he q tk1 e (fun c u c1 c2 c3 r => hq _ _ c3 (hs2.extBut _ _ c2 (hs1.extBut _ _ c1 r))) hE
  · have ei : i = n1 := by omega
    refine wpAny_bind (D1.done ⟨g1, gn, dr, tk0, os⟩ _ _ (by rw [← ei]; exact D1.over st1 hs1 S.zf1) fun q e hq hE => ?_)
    replace hq : Heap.ExtBut i1 g1 q := hq
    exact he q tk0 e (fun c u c1 c2 c3 r => hq _ _ c2 (hs1.extBut _ _ c1 r)) hE
/-- where a zip stands ahead of its i-th turn, if what it gave is kept -/
def ZAt (z TI TO i1 i2 : Addr) (S : Addr) (St1 St2 : Nat → Heap → Prop) (i : Nat) (h : Heap) : Prop :=
  IsTupOf2 h TI (.ref i1) (.ref i2) ∧ St1 i h ∧ St2 i h ∧ ((IsZip h z TI TO .none ∧ ∃ a b, IsTupOf2 h TO a b) ∨ ∃ T f oT, IsZipHeld h z TI TO T f ∧ h.get? T = some oT ∧ T ≠ z ∧ T ≠ i1 ∧ T ≠ i2 ∧ T ≠ S)
theorem z_item {S0 : Addr} {Q : Option Value → Shared → Prop} (S : ZipSep2 z TI TO i1 i2 fp1 fp2) (D1 : Draws prog w A.in1 i1 fp1 n1 P1 St1) (D2 : Draws prog w A.in1 i2 fp2 n2 P2 St2)
    (hz : ZAt z TI TO i1 i2 S0 St1 St2 i s.heap) (hS : S0 < s.heap.objs.size) (lt1 : i < n1) (lt2 : i < n2)
    (hq : ∀ x y h' tk, P1 i x → P2 i y → ZAt z TI TO i1 i2 S0 St1 St2 (i + 1) h' → IsTupOf2 h' s.heap.objs.size x y → h'.objs.size = s.heap.objs.size + 1 →
      (∀ c u, c ≠ z → c ≠ TO → c ≠ i1 → c ≠ i2 → s.heap.get? c = some u → h'.get? c = some u) → Q (some (.ref s.heap.objs.size)) { s with heap := h', toks := tk }) :
    wpAny (model prog w) A (pyNext (.ref z)) Q E s := by
  obtain ⟨hTI, st1, st2, q⟩ := hz
  have lti1 : i1 < s.heap.objs.size := by obtain ⟨_, q⟩ := D1.live _ _ st1; exact Heap.lt_size q
  have lti2 : i2 < s.heap.objs.size := by obtain ⟨_, q⟩ := D2.live _ _ st2; exact Heap.lt_size q
  rcases q with ⟨hz, a, b, hTO⟩ | ⟨T, f, oT, hz, hT, t1, t2, t3, t4⟩
  · have ltz : z < s.heap.objs.size := Heap.lt_size hz
    refine wpAny_pyNext_zipD2_item S D1 D2 hz hTI hTO st1 st2 lt1 lt2 fun x y h' tk p1 p2 b1 b2 d1 d2 b5 b6 b7 => hq x y h' tk p1 p2 ⟨b7 _ _ S.TIz S.TITO S.TIi1 S.TIi2 hTI, d1, d2, .inr ⟨s.heap.objs.size, false, _, b1, b5, ?_⟩⟩ b5 b6 b7
    exact ⟨Nat.ne_of_gt ltz, Nat.ne_of_gt lti1, Nat.ne_of_gt lti2, Nat.ne_of_gt hS⟩
  · have hty : s.TypeIs (.ref z) "zip" := ⟨_, hz, rfl⟩
    unfold pyNext
    exact wpAny_bind (wpAny_attempt (wpAny_callSpecial?_slot (name := Str.ofString "__next__") hty F.slot_zip_next (wpAny_call_entry F.slot_zip_next hty F.entry_zip_next
      (held_item S D1 D2 hz hT hTI st1 st2 lt1 lt2 fun x y h' tk p1 p2 b1 d1 d2 b5 b6 b7 => wpAny_pure (hq x y h' tk p1 p2
        ⟨b7 _ _ S.TIz S.TIi1 S.TIi2 hTI, d1, d2, .inr ⟨T, true, oT, b1, b7 _ _ t1 t2 t3 hT, t1, t2, t3, t4⟩⟩ b5 b6 fun c u c1 _ c3 c4 q => b7 c u c1 c3 c4 q)) (F.args_zip_next_1 _))))
theorem z_end {S0 : Addr} {Q : Option Value → Shared → Prop} (S : ZipSep2 z TI TO i1 i2 fp1 fp2) (D1 : Draws prog w A.in1 i1 fp1 n1 P1 St1) (D2 : Draws prog w A.in1 i2 fp2 n2 P2 St2)
    (hz : ZAt z TI TO i1 i2 S0 St1 St2 i s.heap) (le1 : i ≤ n1) (le2 : i ≤ n2) (fin : i = n1 ∨ i = n2)
    (hq : ∀ h' tk, (∀ c u, c ≠ z → c ≠ TO → c ≠ i1 → c ≠ i2 → s.heap.get? c = some u → h'.get? c = some u) → Q none { s with heap := h', toks := tk }) : wpAny (model prog w) A (pyNext (.ref z)) Q E s := by
  obtain ⟨hTI, st1, st2, q⟩ := hz
  rcases q with ⟨hz, a, b, hTO⟩ | ⟨T, f, oT, hz, hT, t1, t2, t3, t4⟩
  · exact wpAny_pyNext_zipD2_end S D1 D2 hz hTI hTO st1 st2 le1 le2 fin hq
  · have hty : s.TypeIs (.ref z) "zip" := ⟨_, hz, rfl⟩
    unfold pyNext
    refine wpAny_bind (wpAny_attempt (wpAny_callSpecial?_slot (name := Str.ofString "__next__") hty F.slot_zip_next (wpAny_call_entry F.slot_zip_next hty F.entry_zip_next
      (held_end S D1 D2 hz hT hTI st1 st2 le1 le2 fin fun h' tk e hk hE => ?_) (F.args_zip_next_1 _))))
    obtain ⟨u, hu, hcl⟩ := hE
    exact wpAny_bind (wpAny_isInstance (T := "StopIteration") (b := true) ⟨u, hu, hcl⟩ isSubtype_stop (wpAny_pure (hq _ _ fun c v c1 _ c3 c4 q => hk c v c1 c3 c4 q)))
theorem ZAt.through {S0 : Addr} {h h' : Heap} (S : ZipSep2 z TI TO i1 i2 fp1 fp2) (D1 : Draws prog w A i1 fp1 n1 P1 St1) (D2 : Draws prog w A i2 fp2 n2 P2 St2) (n1' : S0 ∉ fp1) (n2' : S0 ∉ fp2) (nT : TI ≠ S0) (nz : z ≠ S0) (nO : TO ≠ S0)
    (hz : ZAt z TI TO i1 i2 S0 St1 St2 i h) (k : ∀ c u, c ≠ S0 → h.get? c = some u → h'.get? c = some u) : ZAt z TI TO i1 i2 S0 St1 St2 i h' := by
  obtain ⟨hTI, st1, st2, q⟩ := hz
  refine ⟨k _ _ nT hTI, D1.frame _ _ _ st1 fun b hb u e => k _ _ (fun z => n1' (z ▸ hb)) e, D2.frame _ _ _ st2 fun b hb u e => k _ _ (fun z => n2' (z ▸ hb)) e, ?_⟩
  rcases q with ⟨hz, a, b, hTO⟩ | ⟨T, f, oT, hz, hT, t1, t2, t3, t4⟩
  · exact .inl ⟨k _ _ nz hz, a, b, k _ _ nO hTO⟩
  · exact .inr ⟨T, f, oT, k _ _ nz hz, k _ _ t4 hT, t1, t2, t3, t4⟩
end
end CS
namespace CS
open PySem PySem.Spec PyProof.Rows L2
theorem zip_nolen : typeLookup (.type "zip") "__len__" = pure none := am_miss_of_fast (by decide +kernel)
theorem zip_nohint : typeLookup (.type "zip") "__length_hint__" = pure none := am_miss_of_fast (by decide +kernel)
/-- the j-th address of as holds the pair of the j-th of xs and the j-th of ys -/
def PairsAt (xs ys : List V) (as : List Addr) (H : Hp) : Prop := ∀ (j : Nat) (a : Addr) (x y : V), as[j]? = some a → xs[j]? = some x → ys[j]? = some y → H a = some (.tup [x, y])
section
variable {X : Cx} {pins : List (Addr × Obj)} {σ : L2.St} {s : Shared} {A : Around} {z TI TO i1 i2 S0 : Addr} {fp1 fp2 : List Addr} {St1 St2 : Nat → Heap → Prop} {xs ys : List V} {its1 its2 : List Value} {n1 n2 n : Nat} {H0 : Hp}
/-- what the loop that collects a zip has reached -/
structure ZGot (X : Cx) (pins : List (Addr × Obj)) (σ : L2.St) (s : Shared) (z TO i1 i2 S0 : Addr) (xs ys : List V) (H0 : Hp) (i : Nat) (h : Heap) (tk : Nat) (Hc : Hp) (acc : Array Value) (c : Nat) (as : List Addr) : Prop where
  inv : Inv X pins σ Hc { s with heap := h, toks := tk }
  lst : h.get? S0 = some { cls := .type "list", dict := none, data := .seq acc c, slots := #[] }
  acc : acc.toList = as.map Value.ref
  len : as.length = i
  fp : ∀ b ∈ [z, TO, i1, i2, S0], FpOk X pins Hc b
  same : Same H0 Hc
  good : PairsAt xs ys as Hc
theorem z_loop {R : Result → Shared → Prop} (S : ZipSep2 z TI TO i1 i2 fp1 fp2) (rx : Vals xs its1) (ry : Vals ys its2)
    (D1 : Draws X.prog X.w A.in1.in1 i1 fp1 xs.length (fun j v => its1[j]? = some v) St1) (D2 : Draws X.prog X.w A.in1.in1 i2 fp2 ys.length (fun j v => its2[j]? = some v) St2)
    (sf1 : S0 ∉ fp1) (sf2 : S0 ∉ fp2) (nT : TI ≠ S0) (nz : z ≠ S0) (nO : TO ≠ S0) (hn : n = min xs.length ys.length) (hfit : n ≤ sizeLine) (res : Value)
    (hR : ∀ h tk Hc acc c as, ZGot X pins σ s z TO i1 i2 S0 xs ys H0 n h tk Hc acc c as → R (.ok (.ret res)) { s with heap := h, toks := tk }) :
    ∀ (k i : Nat) (h : Heap) (tk : Nat) (Hc : Hp) (acc : Array Value) (c : Nat) (as : List Addr), n - i = k → i ≤ n → ZGot X pins σ s z TO i1 i2 S0 xs ys H0 i h tk Hc acc c as → ZAt z TI TO i1 i2 S0 St1 St2 i h → (∀ b ∈ [z, TO, i1, i2, S0], b < h.objs.size) →
    codeAny (model X.prog X.w) A (.builtin "list.extend.loop" ⟨[.ref S0, .ref z, res], []⟩) R { s with heap := h, toks := tk } := by
  intro k
  induction k with
  | zero =>
    intro i h tk Hc acc c as ek hi G zat low
    have ein : i = n := by omega
    subst ein
    refine codeAny_builtin F.entry_extend_loop ?_
    rw [Around.under_plainId F.plain_extend_loop _]
    show wpAny _ A.in1 (pyNext (.ref z) >>= _) _ _ _
    refine wpAny_bind (z_end S D1 D2 zat (by omega) (by omega) (by omega) fun h' tk' hk => ?_)
    have hS : z ≠ S0 ∧ i1 ≠ S0 ∧ i2 ≠ S0 := ⟨nz, fun q => sf1 (q ▸ S.mem1), fun q => sf2 (q ▸ S.mem2)⟩
    refine wpAny_pure (hR h' tk' Hc acc c as ⟨?_, hk _ _ nz.symm nO.symm hS.2.1.symm hS.2.2.symm G.lst, G.acc, G.len, G.fp, G.same, G.good⟩)
    exact G.inv.turnedL (s := { s with heap := h, toks := tk }) (t' := tk') (ch := [z, TO, i1, i2, S0]) (fun b u hb q => hk b u (fun e => hb (by simp [e])) (fun e => hb (by simp [e])) (fun e => hb (by simp [e])) (fun e => hb (by simp [e])) q) G.fp
  | succ k ih =>
    intro i h tk Hc acc c as ek hi G zat low
    have hS : z ≠ S0 ∧ i1 ≠ S0 ∧ i2 ≠ S0 := ⟨nz, fun q => sf1 (q ▸ S.mem1), fun q => sf2 (q ▸ S.mem2)⟩
    have hSlt : S0 < h.objs.size := Heap.lt_size G.lst
    refine codeAny_builtin F.entry_extend_loop ?_
    rw [Around.under_plainId F.plain_extend_loop _]
    show wpAny _ A.in1 (pyNext (.ref z) >>= _) _ _ _
    refine wpAny_bind (z_item (s := { s with heap := h, toks := tk }) S D1 D2 zat hSlt (by omega) (by omega) fun u v h' tk' hu hv zat' tp hsz hk => ?_)
    obtain ⟨x, hx, rxu⟩ : ∃ x, xs[i]? = some x ∧ RelV x u := by
      have hlt : i < xs.length := by omega
      obtain ⟨u', e1, e2⟩ := rx.get (List.getElem?_eq_getElem hlt)
      rw [e1] at hu
      cases hu
      exact ⟨_, List.getElem?_eq_getElem hlt, e2⟩
    obtain ⟨y, hy, ryv⟩ : ∃ y, ys[i]? = some y ∧ RelV y v := by
      have hlt : i < ys.length := by omega
      obtain ⟨u', e1, e2⟩ := ry.get (List.getElem?_eq_getElem hlt)
      rw [e1] at hv
      cases hv
      exact ⟨_, List.getElem?_eq_getElem hlt, e2⟩
    have hS' := hk _ _ nz.symm nO.symm hS.2.1.symm hS.2.2.symm G.lst
    have hT0 : Hc h.objs.size = none := G.inv.hok.fresh (Nat.le_refl _)
    have nw : ObjOk X.prog X.w (upd Hc h.objs.size (.tup [x, y])) h' h.objs.size (.tup [x, y]) := ⟨by show 2 ≤ sizeLine; decide, [u, v], .cons rxu (.cons ryv .nil), ⟨_, tp, rfl, _, rfl⟩⟩
    have I1 : Inv X pins σ (upd Hc h.objs.size (.tup [x, y])) { s with heap := h', toks := tk' } :=
      G.inv.turnedNew (s := { s with heap := h, toks := tk }) (t' := tk') (ch := [z, TO, i1, i2, S0]) (fun b q hb e => hk b q (fun e => hb (by simp [e])) (fun e => hb (by simp [e])) (fun e => hb (by simp [e])) (fun e => hb (by simp [e])) e) G.fp (Nat.le_refl _) nw
    have fp2' : ∀ b ∈ [z, TO, i1, i2, S0], FpOk X pins (upd Hc h.objs.size (.tup [x, y])) b := fun b hb => by
      obtain ⟨f0, fr⟩ := G.fp b hb
      refine ⟨?_, fr⟩
      have hlt : b ≠ h.objs.size := Nat.ne_of_lt (low b hb)
      rw [upd_ne hlt]
      exact f0
    show wpAny _ A.in1 (updateSeq S0 (·.push (.ref h.objs.size)) >>= _) _ _ _
    have esz : acc.size = i := by rw [← Array.length_toList, G.acc, List.length_map, G.len]
    refine wpAny_bind (wpAny_updateSeq (s := { s with heap := h', toks := tk' }) hS' rfl (wpAny_pure ⟨plainId_quiet F.plain_extend_loop _, ?_⟩) (by rw [esz]; omega) (by show (acc.push _).size ≤ sizeLine + 1; rw [Array.size_push, esz]; omega))
    have oth : ∀ b q, b ≠ S0 → h'.get? b = some q → (h'.update S0 (Obj.mapSeq (·.push (Value.ref h.objs.size)))).get? b = some q := fun b q hb e => (Heap.get?_update_other _ _ (Ne.symm hb)).trans e
    refine ih (i + 1) _ tk' (upd Hc h.objs.size (.tup [x, y])) (acc.push (.ref h.objs.size)) _ (as ++ [h.objs.size]) (by omega) (by omega) ⟨?_, Heap.get?_update_self _ hS' rfl, ?_, ?_, fp2', ?_, ?_⟩ (ZAt.through S D1 D2 sf1 sf2 nT nz nO zat' oth) (fun b hb => by
      have q := low b hb
      rw [(Heap.SameBut.update h' S0 _).1, hsz]
      exact Nat.lt_succ_of_lt q)
    · exact I1.turnedL (s := { s with heap := h', toks := tk' }) (t' := tk') (ch := [z, TO, i1, i2, S0]) (fun b q hb e => oth b q (fun e => hb (by simp [e])) e) fp2'
    · rw [Array.toList_push, G.acc, List.map_append]
      rfl
    · rw [List.length_append, G.len]
      rfl
    · exact fun b q e => by rw [upd_ne (ne_of_none (G.same b q e) hT0)]; exact G.same b q e
    · intro j a x' y' ha hx' hy'
      by_cases hj : j < i
      · have ha' : as[j]? = some a := by rw [List.getElem?_append_left (by rw [G.len]; exact hj)] at ha; exact ha
        have q := G.good j a x' y' ha' hx' hy'
        rw [upd_ne (ne_of_none q hT0)]
        exact q
      · have ej : j = i := by
          have q := (List.getElem?_eq_some_iff.mp ha).1
          rw [List.length_append, G.len, List.length_singleton] at q
          omega
        subst ej
        rw [List.getElem?_append_right (by rw [G.len]; exact Nat.le_refl _), G.len, Nat.sub_self] at ha
        have ea : h.objs.size = a := Option.some.inj ha
        rw [hx] at hx'
        rw [hy] at hy'
        cases hx'
        cases hy'
        rw [← ea]
        exact upd_same
end
end CS
namespace CS
open PySem PySem.Spec PyProof.Rows L2
section
variable {X : Cx}
theorem lt_of_tuple {s : Shared} {a : Addr} {its : Array Value} (p : IsTup s.heap a its) : a < s.heap.objs.size := by
  obtain ⟨u, hu, _⟩ := p
  exact Heap.lt_size hu
theorem lt_of_plain {s : Shared} {a : Addr} {its : Array Value} (p : PlainL s.heap a its) : a < s.heap.objs.size := p.lt
end
end CS
namespace K67
open PySem PySem.Spec PyProof.Rows L2 CS
def top (i : Nat) : Stmt := PySem.Challenge.pw_countedsteps_k67_whole_told_if_nothing_c.main.body.getD i (.Pass ⟨0, 0, 0, 0⟩)
abbrev sBox : Stmt := top 12
abbrev sTake : Stmt := top 13
abbrev sCells : Stmt := top 14
abbrev sSame : Stmt := top 18
abbrev sLaw : Stmt := top 30
abbrev clsBody (st : Stmt) : List Stmt := match st with | .ClassDef _ _ _ b _ _ _ _ _ _ _ => b | _ => []
/-! ### heaps and lists -/
theorem same_upd {H : Hp} {p : Addr} {o : HO} (h : H p = none) : Same H (upd H p o) := fun b x e => by
  rw [upd_ne (ne_of_none e h)]
  exact e
theorem sqT_same {K : PySem.W.Frag} {H H' : Hp} {a : Addr} {xs : List V} (e : Same H H') (h : SqT K H a xs) : SqT K H' a xs := by
  rcases h with (h | ⟨o, h⟩) | h
  · exact .inl (.inl (e _ _ h))
  · exact .inl (.inr ⟨o, e _ _ h⟩)
  · exact .inr h
/-- a tuple or a list of texts -/
def Jr (K : PySem.W.Frag) (H : Hp) (a : Addr) (ss : List Str) : Prop := SqT K H a (ss.map V.str) ∨ SqL K H a (ss.map V.str)
theorem Jr.keep {K : PySem.W.Frag} {H H' : Hp} {a : Addr} {ss : List Str} (h : Jr K H a ss) (s : Same H H') : Jr K H' a ss := by
  rcases h with h | h
  · exact .inl (sqT_same s h)
  · exact .inr (s.seq h)
end K67
namespace K67
open PySem PySem.Spec PyProof.Rows L2 CS
/-- all but b is as it was -/
def Keep (b : Addr) (H H' : Hp) : Prop := ∀ c o, c ≠ b → H c = some o → H' c = some o
theorem Keep.refl (b : Addr) (H : Hp) : Keep b H H := fun _ _ _ e => e
theorem Keep.trans {b : Addr} {H H1 H2 : Hp} (x : Keep b H H1) (y : Keep b H1 H2) : Keep b H H2 := fun c o n e => y c o n (x c o n e)
theorem Keep.upd {b : Addr} (H : Hp) (o : HO) : Keep b H (L2.upd H b o) := fun c u n e => by rw [upd_ne n]; exact e
theorem Keep.sqL {K : PySem.W.Frag} {b a : Addr} {H H' : Hp} {xs : List V} (x : Keep b H H') (n : a ≠ b) (h : SqL K H a xs) : SqL K H' a xs := by
  rcases h with (h | ⟨o, h⟩) | h
  · exact .inl (.inl (x _ _ n h))
  · exact .inl (.inr ⟨o, x _ _ n h⟩)
  · exact .inr h
theorem b01 (c : Bool) : 0 ≤ (if c = true then (1 : Int) else 0) ∧ (if c = true then (1 : Int) else 0) ≤ 1 := by cases c <;> decide
theorem abs0 (i : Int) : 0 ≤ (if i < 0 then -i else i) := by split <;> omega
theorem mul01 (i : Int) (c : Bool) : CMul i (if c = true then (1 : Int) else 0) := by
  have q := b01 c
  exact .inr ⟨by omega, by omega⟩
theorem dv64 (i : Int) : CDivN i 64 := ⟨by decide, by decide⟩
theorem dvM (i : Int) : CDivN i 1000003 := ⟨by decide, by decide⟩
section
variable {P : Program} {w : World} {K : PySem.W.Frag} {mg : Str → Option Value} {base : Heap}
/-! ### the box of draws -/
/-- a box at b: what is left of the number, the seed, how often it was asked -/
def BoxAt (H : Hp) (b : Addr) (n : Nat) : Prop := ∃ A B C : Int, H b = some (.lst [.int A, .int B, .int C]) ∧ 0 ≤ A ∧ 0 ≤ B ∧ B < 2 ^ 62 ∧ 0 ≤ C ∧ C ≤ n
def spBox (K : PySem.W.Frag) : Sp := fun vs H Q _ => ∃ (a : Addr) (ns : List Int) (k : Nat), vs = [.ref a, .int (k : Nat)] ∧ SqL K H a (ns.map V.int) ∧ k < ns.length ∧ ns.length ≤ 1000 ∧ ∀ (H' : Hp) (p : Addr), Same H H' → H p = none → BoxAt H' p 0 → Q (.ref p) H'
theorem scBox : FnScope ["_law_script", "_law_k", "_law_cell"] ["_law_script", "_law_k"] (defScope sBox) := ⟨rfl, rfl, rfl, by decide +kernel, rfl, by decide +kernel, by decide +kernel⟩
theorem ok_box {f : Addr} {fd : FuncData} {k : Nat} (F : Fun K "_law_box" "_law_box" sBox f fd) (ml : mg "len" = none) (ma : mg "abs" = none) (mi : mg "int" = none) : FnOk P w K mg base CX0 (k + 1) f fd ["_law_script", "_law_k"] (spBox K) := by
  refine F.ok scBox (fun vs H Q E h => ?_) (fun cdv A outer s H vs Q E hr h => ?_)
  · obtain ⟨a, ns, k, rfl, _⟩ := h
    rfl
  · obtain ⟨a, ns, k, rfl, hS, hk, h1, q⟩ := h
    refine ⟨_, pss_cons (ps_set (i := 2) scBox.nd rfl (.inl rfl) (pe_ifExp (pt_cmpR op_lt (pv 1) (pe_callB call_len_seq (by rfl) ml PySem.boot_len (pa_cons (pv 0) pa_nil)) (nomark _)) (pe_ix ix_list (pv 0) (pv 1) (fun _ _ => rfl)) pe_int))
      (pss_one (ps_ret (pe_lst (pa_cons (pe_op op_mul (pe_callB call_abs (by rfl) ma (by decide +kernel) (pa_cons (pv 2) pa_nil)) (pe_callTy call_int1 (by rfl) mi (by decide +kernel) (pa_cons (pe_cmpR op_ge (pe_callB call_abs (by rfl) ma (by decide +kernel) (pa_cons (pv 2) pa_nil)) (pe_op op_pow pe_int pe_int) (nomark _)) pa_nil)))
        (pa_cons (pe_op op_add (pe_op op_add (pe_op op_modN (pe_callTy call_int1 (by rfl) mi (by decide +kernel) (pa_cons (pv 2) pa_nil)) pe_int) (pe_op op_mul pe_int (pv 1))) pe_int) (pa_cons pe_int pa_nil)))))), ?_⟩
    have hx : (ns.map V.int)[k]? = some (.int ns[k]) := by rw [List.getElem?_map, List.getElem?_eq_getElem hk]; rfl
    have hd : decide ((k : Int) < ((ns.map V.int).length : Nat)) = true := decide_eq_true (by rw [List.length_map]; omega)
    refine ⟨.int (k : Nat), rfl, .ref a, rfl, a, _, rfl, .inl hS, _, _, rfl, rfl, _, rfl, ?_⟩
    rw [hd]
    refine ⟨.ref a, rfl, .int (k : Nat), rfl, a, _, _, _, rfl, rfl, hS, atI_nat hx, ?_⟩
    have e1 := Int.fmod_nonneg_of_pos ns[k] (b := 2305843009213693951) (by decide)
    have e2 := Int.fmod_lt_of_pos ns[k] (b := 2305843009213693951) (by decide)
    refine ⟨.int ns[k], rfl, _, rfl, .int ns[k], rfl, _, rfl, 10, 18, rfl, rfl, ⟨by decide, by decide, by decide⟩, _, _, rfl, rfl, .inr ⟨_, rfl, _, _, rfl, rfl, mul01 _ _, ?_⟩⟩
    refine ⟨.int ns[k], rfl, .inl ⟨_, rfl, _, _, rfl, rfl, (by show (2305843009213693951 : Int) ≠ 0; decide), _, rfl, _, _, rfl, rfl, .inl (by decide), _, _, rfl, rfl, _, _, rfl, rfl, ?_⟩⟩
    refine ⟨by show 3 ≤ sizeLine; decide, fun p np => q _ p (same_upd np) np ?_⟩
    refine ⟨_, _, 0, upd_same, Int.mul_nonneg (abs0 _) (b01 _).1, ?_, ?_, Int.le_refl 0, Int.le_refl 0⟩
    · have : (0 : Int) ≤ k := Int.natCast_nonneg k
      omega
    · have : (k : Int) < 1000 := by omega
      omega
/-! ### a draw -/
def spTake : Sp := fun vs H Q _ => ∃ (b : Addr) (n : Nat) (m : Int), vs = [.ref b, .int m] ∧ BoxAt H b n ∧ n ≤ 1000000 ∧ 0 < m ∧ m < 2 ^ 200 ∧ ∀ (H' : Hp) (r : Int), Keep b H H' → BoxAt H' b (n + 1) → 0 ≤ r → r < m → Q (.int r) H'
theorem scTake : FnScope ["_law_box_here", "_law_below", "_law_digit_so", "_law_once", "_law_odd", "_law_twice"] ["_law_box_here", "_law_below"] (defScope sTake) := ⟨rfl, rfl, rfl, by decide +kernel, rfl, by decide +kernel, by decide +kernel⟩
theorem ok_take {f : Addr} {fd : FuncData} {k : Nat} (F : Fun K "_law_take" "_law_take" sTake f fd) (mi : mg "int" = none) : FnOk P w K mg base CX0 (k + 1) f fd ["_law_box_here", "_law_below"] spTake := by
  refine F.ok scTake (fun vs H Q E h => ?_) (fun cdv A outer s H vs Q E hr h => ?_)
  · obtain ⟨b, n, m, rfl, _⟩ := h
    rfl
  · obtain ⟨b, n, m, rfl, ⟨A, B, C, hb, hA, hB, hB2, hC, hC2⟩, hn, hm, hm2, q⟩ := h
    refine ⟨_, pss_cons (ps_if (pt_cmpR op_gt (pe_ix ix_list (pv 0) pe_int (fun _ _ => rfl)) pe_int (nomark _))
        (pss_cons (ps_set (i := 2) scTake.nd rfl (.inl rfl) (pe_op op_modN (pe_callTy call_int1 (by rfl) mi (by decide +kernel) (pa_cons (pe_ix ix_list (pv 0) pe_int (fun _ _ => rfl)) pa_nil)) (pv 1)))
          (pss_cons (ps_asg (pe_op op_fdivW (pe_ix ix_list (pv 0) pe_int (fun _ _ => rfl)) (pv 1)) (pg_sub (pv 0) pe_int set_list)) (pss_one (ps_ret (pv 2))))) pss_nil)
      (pss_cons (ps_asg (pe_op op_add (pe_ix ix_list (pv 0) pe_int (fun _ _ => rfl)) pe_int) (pg_sub (pv 0) pe_int set_list))
      (pss_cons (ps_set (i := 3) scTake.nd rfl (.inl rfl) (pe_op op_modN (pe_callTy call_int1 (by rfl) mi (by decide +kernel) (pa_cons (pe_op op_mul (pe_op op_add (pe_ix ix_list (pv 0) pe_int (fun _ _ => rfl)) (pe_op op_mul pe_int (pe_ix ix_list (pv 0) pe_int (fun _ _ => rfl)))) (pe_op op_add pe_int (pe_ix ix_list (pv 0) pe_int (fun _ _ => rfl)))) pa_nil)) pe_int))
      (pss_cons (ps_set (i := 4) scTake.nd rfl (.inl rfl) (pe_op op_add (pe_op op_modN (pe_callTy call_int1 (by rfl) mi (by decide +kernel) (pa_cons (pv 3) pa_nil)) pe_int) pe_int))
      (pss_cons (ps_set (i := 5) scTake.nd rfl (.inl rfl) (pe_op op_modN (pe_callTy call_int1 (by rfl) mi (by decide +kernel) (pa_cons (pe_op op_mul (pe_op op_add (pe_op op_add (pv 3) (pe_ix ix_list (pv 0) pe_int (fun _ _ => rfl))) (pe_op op_fdivN (pe_ix ix_list (pv 0) pe_int (fun _ _ => rfl)) pe_int)) (pv 4)) pa_nil)) pe_int))
      (pss_one (ps_ret (pe_op op_modN (pe_callTy call_int1 (by rfl) mi (by decide +kernel) (pa_cons (pe_op op_fdivN (pe_op op_modN (pe_callTy call_int1 (by rfl) mi (by decide +kernel) (pa_cons (pe_op op_add (pe_op op_mul (pv 5) pe_int) (pv 3)) pa_nil)) pe_int) pe_int) pa_nil)) (pv 1)))))))), ?_⟩
    refine ⟨.ref b, rfl, b, _, 0, .int A, rfl, rfl, SqL.of hb, atI_nat (j := 0) rfl, _, _, rfl, rfl, _, rfl, ?_⟩
    refine ite2 (fun c => ?_) (fun c => ?_)
    · have hg : 0 < A := of_decide_eq_true c
      have r0 := Int.fmod_nonneg_of_pos A hm
      have r1 := Int.fmod_lt_of_pos A hm
      have d0 : 0 ≤ A / m := Int.ediv_nonneg hA (Int.le_of_lt hm)
      refine ⟨.ref b, rfl, b, _, 0, .int A, rfl, rfl, SqL.of hb, atI_nat (j := 0) rfl, .inl ⟨A, rfl, .int m, rfl, A, m, rfl, rfl, by omega, ?_⟩⟩
      refine ⟨.ref b, rfl, b, _, 0, .int A, rfl, rfl, SqL.of hb, atI_nat (j := 0) rfl, .int m, rfl, A, m, rfl, rfl, wide_div hm (b := 200) (by omega) (by decide) (by decide), ?_⟩
      refine ⟨.ref b, rfl, b, _, 0, 0, rfl, rfl, hb, rfl, ?_⟩
      refine ⟨_, rfl, ?_⟩
      exact q _ _ (Keep.upd H _) ⟨_, B, C, upd_same, d0, hB, hB2, hC, by omega⟩ r0 r1
    · refine ⟨.ref b, rfl, b, _, 2, .int C, rfl, rfl, SqL.of hb, atI_nat (j := 2) rfl, _, _, rfl, rfl, ?_⟩
      refine ⟨.ref b, rfl, b, _, 2, 2, rfl, rfl, hb, rfl, ?_⟩
      have hb2 : SqL K (upd H b (.lst [.int A, .int B, .int (C + 1)])) b [.int A, .int B, .int (C + 1)] := SqL.of upd_same
      have i1 : atI [V.int A, V.int B, V.int (C + 1)] 1 = some (V.int B) := atI_nat (j := 1) rfl
      have i2 : atI [V.int A, V.int B, V.int (C + 1)] 2 = some (V.int (C + 1)) := atI_nat (j := 2) rfl
      refine ⟨.ref b, rfl, b, _, 1, .int B, rfl, rfl, hb2, i1, .ref b, rfl, b, _, 2, .int (C + 1), rfl, rfl, hb2, i2, _, _, rfl, rfl, .inl (by decide), _, _, rfl, rfl, .ref b, rfl, b, _, 2, .int (C + 1), rfl, rfl, hb2, i2, _, _, rfl, rfl,
        _, _, rfl, rfl, .inr (by omega), .inl ⟨_, rfl, _, _, rfl, rfl, (by show (2147483647 : Int) ≠ 0; decide), ?_⟩⟩
      have o0 := Int.fmod_nonneg_of_pos ((B + 48271 * (C + 1)) * (39373 + (C + 1))) (b := 2147483647) (by decide)
      have o1 := Int.fmod_lt_of_pos ((B + 48271 * (C + 1)) * (39373 + (C + 1))) (b := 2147483647) (by decide)
      dsimp only
      revert o0 o1
      generalize Int.fmod ((B + 48271 * (C + 1)) * (39373 + (C + 1))) 2147483647 = o
      intro o0 o1
      refine ⟨.int o, rfl, .inl ⟨_, rfl, _, _, rfl, rfl, (by show (40009 : Int) ≠ 0; decide), _, _, rfl, rfl, ?_⟩⟩
      have v0 := Int.fmod_nonneg_of_pos o (b := 40009) (by decide)
      have v1 := Int.fmod_lt_of_pos o (b := 40009) (by decide)
      dsimp only
      revert v0 v1
      generalize Int.fmod o 40009 = v
      intro v0 v1
      refine ⟨.int o, rfl, .ref b, rfl, b, _, 2, .int (C + 1), rfl, rfl, hb2, i2, _, _, rfl, rfl, .ref b, rfl, b, _, 1, .int B, rfl, rfl, hb2, i1, _, _, rfl, rfl, dvM _, _, _, rfl, rfl, .int (v + 7), rfl, _, _, rfl, rfl, .inr (by omega),
        .inl ⟨_, rfl, _, _, rfl, rfl, (by show (2147483629 : Int) ≠ 0; decide), ?_⟩⟩
      refine ⟨.int _, rfl, _, _, rfl, rfl, .inr (by decide), .int o, rfl, _, _, rfl, rfl, .inl ⟨_, rfl, _, _, rfl, rfl, (by show (2147483587 : Int) ≠ 0; decide), _, _, rfl, rfl, dv64 _, .inl ⟨_, rfl, .int m, rfl, _, _, rfl, rfl, (by omega), ?_⟩⟩⟩
      exact q _ _ (Keep.upd H _) ⟨A, B, C + 1, upd_same, hA, hB, hB2, by omega, by omega⟩ (Int.fmod_nonneg_of_pos _ hm) (Int.fmod_lt_of_pos _ hm)
end
end K67
namespace K67
open PySem PySem.Spec PyProof.Rows L2 CS
theorem BoxAt.same {H H' : Hp} {b : Addr} {n : Nat} (h : BoxAt H b n) (s : Same H H') : BoxAt H' b n := by
  obtain ⟨A, B, C, e, r⟩ := h
  exact ⟨A, B, C, s _ _ e, r⟩
end K67
namespace K67
open PySem PySem.Spec PyProof.Rows L2 CS RZ
/-! ### same -/
def okD : Nat → PyData → Prop
  | 0, _ => False
  | _ + 1, .int _ => True
  | _ + 1, .str _ => True
  | _ + 1, .bool _ => True
  | _ + 1, .none => True
  | n + 1, .list ds => ds.length ≤ 1000 ∧ ∀ d ∈ ds, okD n d
  | n + 1, .tuple ds => ds.length ≤ 1000 ∧ ∀ d ∈ ds, okD n d
  | _ + 1, _ => False
mutual
theorem dp_same {K : PySem.W.Frag} {H H' : Hp} (s : Same H H') : ∀ {v : V} {d : PyData}, Dp K H v d → Dp K H' v d
  | _, _, .non => .non
  | _, _, .bl b => .bl b
  | _, _, .int i => .int i
  | _, _, .str x => .str x
  | _, _, .lst q r => .lst (s.seq q) (dp_sameAll s r)
  | _, _, .tup q r => .tup (sqT_same s q) (dp_sameAll s r)
theorem dp_sameAll {K : PySem.W.Frag} {H H' : Hp} (s : Same H H') : ∀ {vs : List V} {ds : List PyData}, DpAll K H vs ds → DpAll K H' vs ds
  | _, _, .nil => .nil
  | _, _, .cons q r => .cons (dp_same s q) (dp_sameAll s r)
end
theorem dpAll_len {K : PySem.W.Frag} {H : Hp} : ∀ {ds : List PyData} {vs : List V}, DpAll K H vs ds → vs.length = ds.length
  | _, _, .nil => rfl
  | _, _, .cons _ r => congrArg (· + 1) (dpAll_len r)
theorem dpAll_at {K : PySem.W.Frag} {H : Hp} : ∀ {ds : List PyData} {vs : List V}, DpAll K H vs ds → ∀ {i : Nat} {v : V}, vs[i]? = some v → ∃ d, ds[i]? = some d ∧ Dp K H v d
  | _, _, .nil, i, _, h => by cases h
  | _, _, .cons q r, 0, _, h => by cases h; exact ⟨_, rfl, q⟩
  | _, _, .cons q r, i + 1, v, h => dpAll_at r (i := i) h
theorem tyL {K : PySem.W.Frag} {H : Hp} {a : Addr} {xs : List V} (h : SqL K H a xs) : TyX K H (.ref a) (.type "list") := by
  rcases h with (h | ⟨o, h⟩) | ⟨o, its, n, h, c, _⟩
  · exact .base (.lst h)
  · exact .base (.frz h)
  · exact .kList h c
theorem tyT {K : PySem.W.Frag} {H : Hp} {a : Addr} {xs : List V} (h : SqT K H a xs) : TyX K H (.ref a) (.type "tuple") := by
  rcases h with (h | ⟨o, h⟩) | ⟨o, its, n, h, c, _⟩
  · exact .base (.tup h)
  · exact .fTuple h
  · exact .kTuple h c
theorem walk_zipT {K : PySem.W.Frag} {a b : Addr} {xs ys : List V} {n : Nat} (hn : n = min xs.length ys.length) : Walk (ItzT K a b) n (fun H => SqT K H a xs ∧ SqT K H b ys) (YPair (fun i => xs[i]?) (fun i => ys[i]?)) := by
  subst hn
  refine ⟨fun i H hi q => ?_, fun H q => ⟨xs, ys, q.1, q.2, by omega⟩, fun i H v H' hi q y => ?_⟩
  · have l1 : i < xs.length := by omega
    have l2 : i < ys.length := by omega
    exact ⟨xs, ys, xs[i], ys[i], q.1, q.2, by simp [l1], by simp [l2]⟩
  · obtain ⟨T, x, z, e1, e2, e3, e4, e5⟩ := y
    exact ⟨T, x, z, e1, e2, e3, e4 xs q.1, e5 ys q.2⟩
section
variable {P : Program} {w : World} {K : PySem.W.Frag} {mg : Str → Option Value} {base : Heap}
def spSame (K : PySem.W.Frag) (n : Nat) : Sp := fun vs H Q _ => ∃ (x y : V) (d : PyData), vs = [x, y] ∧ Dp K H x d ∧ Dp K H y d ∧ okD n d ∧ ∀ H' : Hp, Same H H' → Q (.bl true) H'
/-- what the top says of the built-ins that same asks -/
structure SmT (mg : Str → Option Value) : Prop where
  is : mg "isinstance" = none
  li : mg "list" = none
  tu : mg "tuple" = none
  le : mg "len" = none
  al : mg "all" = none
  zi : mg "zip" = none
  bo : mg "bool" = none
  st : mg "str" = none
  int : mg "int" = none
abbrev nSame : List Str := ["_law_got", "_law_due", "_law_mine", "_law_its"]
theorem scSame : FnScope nSame ["_law_got", "_law_due"] (defScope sSame) := ⟨rfl, rfl, rfl, by decide +kernel, rfl, by decide +kernel, by decide +kernel⟩
theorem same_none {f : Addr} {fd : FuncData} : FnOk P w K mg base CX0 0 f fd ["_law_got", "_law_due"] (spSame K 0) := by
  have no : ∀ vs H Q E, ¬ spSame K 0 vs H Q E := fun vs H Q E h => by
    obtain ⟨_, _, d, _, _, _, h, _⟩ := h
    cases d <;> exact h
  exact ⟨fun vs H Q E h => absurd h (no vs H Q E), fun A outer s H args us vs Q E _ _ _ _ h => absurd h (no vs H Q E)⟩
theorem isi_one {t c : String} {b : Bool} (h : kitB t c = some b) : PySem.W.kitOne K (.type t) (.type c) = some b := kit_ty h
theorem any_ff {t a b : String} (h1 : kitB t a = some false) (h2 : kitB t b = some false) : PySem.W.kitAny K (.type t) [.type a, .type b] = some false :=
  kitAny_cons (kit_ty h1) (fun _ => kitAny_cons (kit_ty h2) (fun _ => kitAny_nil) fun z => nomatch z) fun z => nomatch z
theorem any_t {t a b : String} (h1 : kitB t a = some true) : PySem.W.kitAny K (.type t) [.type a, .type b] = some true := kitAny_cons (kit_ty h1) (fun z => nomatch z) fun _ => rfl
theorem any_ft {t a b : String} (h1 : kitB t a = some false) (h2 : kitB t b = some true) : PySem.W.kitAny K (.type t) [.type a, .type b] = some true :=
  kitAny_cons (kit_ty h1) (fun _ => kitAny_cons (kit_ty h2) (fun z => nomatch z) fun _ => rfl) fun _ => rfl
theorem all_yes : ∀ n : Nat, (List.replicate n true).all id = true
  | 0 => rfl
  | n + 1 => by
    rw [List.replicate_succ, List.all_cons, all_yes n]
    rfl
theorem ok_same {n : Nat} {f : Addr} {fd : FuncData} (F : Fun K "_law_same" "_law_same" sSame f fd) (G : FnOk P w K mg base CX0 n f fd ["_law_got", "_law_due"] (spSame K n)) (bG : Binds K fd ["_law_got", "_law_due"] []) (mG : mg "_law_same" = some (.ref f)) (T : SmT mg) :
    FnOk P w K mg base CX0 (n + 1) f fd ["_law_got", "_law_due"] (spSame K (n + 1)) := by
  refine F.ok scSame (fun vs H Q E h => ?_) (fun cdv A outer s H vs Q E hr h => ?_)
  · obtain ⟨x, y, d, rfl, _⟩ := h
    rfl
  · obtain ⟨x, y, d, rfl, hx, hy, hd, q⟩ := h
    refine ⟨_, pss_cons (ps_if (pt_val (pe_callB call_isiT (by rfl) T.is (by decide +kernel) (pa_cons (pv 1) (pa_cons (pe_tup (pa_cons (pe_bltn (v := .ty "list") (by rfl) T.li (by decide +kernel) rfl) (pa_cons (pe_bltn (v := .ty "tuple") (by rfl) T.tu (by decide +kernel) rfl) pa_nil))) pa_nil))))
        (pss_cons (ps_if (PW.pt (pw_or (pt_cmpR op_ne (pe_callB call_isi (by rfl) T.is (by decide +kernel) (pa_cons (pv 0) (pa_cons (pe_bltn (v := .ty "list") (by rfl) T.li (by decide +kernel) rfl) pa_nil))) (pe_callB call_isi (by rfl) T.is (by decide +kernel) (pa_cons (pv 1) (pa_cons (pe_bltn (v := .ty "list") (by rfl) T.li (by decide +kernel) rfl) pa_nil))) (nomark _))
            (pw_or1 (pt_cmpR op_ne (pe_callB call_isi (by rfl) T.is (by decide +kernel) (pa_cons (pv 0) (pa_cons (pe_bltn (v := .ty "tuple") (by rfl) T.tu (by decide +kernel) rfl) pa_nil))) (pe_callB call_isi (by rfl) T.is (by decide +kernel) (pa_cons (pv 1) (pa_cons (pe_bltn (v := .ty "tuple") (by rfl) T.tu (by decide +kernel) rfl) pa_nil))) (nomark _)))))
          (pss_one (ps_ret (pe_bl))) pss_nil)
        (pss_one (ps_ret (pe_and (pe_cmpR op_eq (pe_callB call_len_seq (by rfl) T.le PySem.boot_len (pa_cons (pv 0) pa_nil)) (pe_callB call_len_seq (by rfl) T.le PySem.boot_len (pa_cons (pv 1) pa_nil)) (nomark _))
          (pe_one (pe_callB (cr_all rfl) (by rfl) T.al (by decide +kernel) (pa_cons (pe_lc (own := [("_law_mine", 2), ("_law_its", 3)]) (g := gTup K 2 (gCons (gName 2) (gCons (gName 3) gNil))) (by rfl) scSame.nd (pi_zipA (by rfl) T.zi (pa_cons (pv 0) (pa_cons (pv 1) pa_nil)))
            (blkOk_by (own := [("_law_mine", 2), ("_law_its", 3)]) (N := nSame) (sc := defScope sSame) (by decide +kernel))
            (fun _ _ _ _ _ => pg_tup rfl (pgs_cons (pg_name (i := 2) scSame.nd rfl (Or.inl rfl) (.inr rfl)) (pgs_cons (pg_name (i := 3) scSame.nd rfl (Or.inl rfl) (.inr rfl)) pgs_nil))) (fun _ _ _ _ _ => pts_nil)
            (fun _ _ _ _ _ => pe_call G hr (by rfl) mG F.kp bG .nil pass0 (pa_cons (pv 2) (pa_cons (pv 3) pa_nil)))) pa_nil))))))) pss_nil)
      (pss_cons (ps_if (PW.pt (pw_or (pt_cmpR op_isN (pv 1) pe_non (nomark _)) (pw_or1 (pt_val (pe_callB call_isiT (by rfl) T.is (by decide +kernel) (pa_cons (pv 1) (pa_cons (pe_tup (pa_cons (pe_bltn (v := .ty "bool") (by rfl) T.bo (by decide +kernel) rfl) (pa_cons (pe_bltn (v := .ty "str") (by rfl) T.st (by decide +kernel) rfl) pa_nil))) pa_nil)))))))
        (pss_one (ps_ret (pe_and (pe_cmpR op_eq (pv 0) (pv 1) (nomark _)) (pe_and (pe_cmpR op_eq (pe_callB call_isi (by rfl) T.is (by decide +kernel) (pa_cons (pv 0) (pa_cons (pe_bltn (v := .ty "bool") (by rfl) T.bo (by decide +kernel) rfl) pa_nil))) (pe_callB call_isi (by rfl) T.is (by decide +kernel) (pa_cons (pv 1) (pa_cons (pe_bltn (v := .ty "bool") (by rfl) T.bo (by decide +kernel) rfl) pa_nil))) (nomark _))
          (pe_one (pe_cmpR op_eq (pe_cmpR op_isN (pv 0) pe_non (nomark _)) (pe_cmpR op_isN (pv 1) pe_non (nomark _)) (nomark _))))))) pss_nil)
      (pss_one (ps_ret (pe_and (pe_callB call_isi (by rfl) T.is (by decide +kernel) (pa_cons (pv 0) (pa_cons (pe_bltn (v := .ty "int") (by rfl) T.int (by decide +kernel) rfl) pa_nil)))
        (pe_and (pe_not (pe_callB call_isi (by rfl) T.is (by decide +kernel) (pa_cons (pv 0) (pa_cons (pe_bltn (v := .ty "bool") (by rfl) T.bo (by decide +kernel) rfl) pa_nil)))) (pe_one (pe_cmpR op_eq (pv 0) (pv 1) (nomark _)))))))), ?_⟩
    have two : 2 ≤ sizeLine := by decide
    cases d with
    | int i =>
      cases hx
      cases hy
      refine ⟨.int i, rfl, two, fun p np => ⟨_, p, _, _, _, false, rfl, upd_same, .cons (.ty _) (.cons (.ty _) .nil), .base (.int i), any_ff (by decide +kernel) (by decide +kernel), _, rfl, ?_⟩⟩
      refine ite2 (fun z => absurd z Bool.false_ne_true) (fun _ => ?_)
      refine ⟨.int i, rfl, rfl, _, rfl, ?_⟩
      refine ite2 (fun z => absurd (of_decide_eq_true z) (fun e => by cases e)) (fun _ => ?_)
      refine ⟨.int i, rfl, two, fun p2 np2 => ⟨_, p2, _, _, _, false, rfl, upd_same, .cons (.ty _) (.cons (.ty _) .nil), .base (.int i), any_ff (by decide +kernel) (by decide +kernel), _, rfl, ?_⟩⟩
      refine ite2 (fun z => absurd z Bool.false_ne_true) (fun _ => ?_)
      refine ⟨.int i, rfl, _, _, _, _, true, rfl, .ty _, .base (.int i), isi_one (by decide +kernel), _, rfl, ?_⟩
      refine ite2 (fun _ => ?_) (fun z => absurd rfl z)
      refine ⟨.int i, rfl, _, _, _, _, false, rfl, .ty _, .base (.int i), isi_one (by decide +kernel), _, rfl, _, rfl, ?_⟩
      refine ite2 (fun _ => ?_) (fun z => absurd rfl z)
      refine ⟨.int i, rfl, .int i, rfl, rfl, ?_⟩
      have e : decide (V.int i = V.int i) = true := decide_eq_true rfl
      rw [e]
      exact q _ ((same_upd np).trans (same_upd np2))
    | str z =>
      cases hx
      cases hy
      refine ⟨.str z, rfl, two, fun p np => ⟨_, p, _, _, _, false, rfl, upd_same, .cons (.ty _) (.cons (.ty _) .nil), .base (.str z), any_ff (by decide +kernel) (by decide +kernel), _, rfl, ?_⟩⟩
      refine ite2 (fun z => absurd z Bool.false_ne_true) (fun _ => ?_)
      refine ⟨.str z, rfl, rfl, _, rfl, ?_⟩
      refine ite2 (fun z => absurd (of_decide_eq_true z) (fun e => by cases e)) (fun _ => ?_)
      refine ⟨.str z, rfl, two, fun p2 np2 => ⟨_, p2, _, _, _, true, rfl, upd_same, .cons (.ty _) (.cons (.ty _) .nil), .base (.str z), any_ft (by decide +kernel) (by decide +kernel), _, rfl, ?_⟩⟩
      refine ite2 (fun _ => ?_) (fun z => absurd rfl z)
      refine ⟨.str z, rfl, .str z, rfl, rfl, _, rfl, ?_⟩
      refine ite2 (fun _ => ?_) (fun e => absurd (decide_eq_true rfl) e)
      refine ⟨.str z, rfl, _, _, _, _, false, rfl, .ty _, .base (.str z), isi_one (by decide +kernel), .str z, rfl, _, _, _, _, false, rfl, .ty _, .base (.str z), isi_one (by decide +kernel), rfl, _, rfl, ?_⟩
      refine ite2 (fun _ => ?_) (fun e => absurd rfl e)
      refine ⟨.str z, rfl, rfl, .str z, rfl, rfl, rfl, ?_⟩
      have e : decide (V.bl (decide (V.str z = V.non)) = V.bl (decide (V.str z = V.non))) = true := decide_eq_true rfl
      rw [e]
      exact q _ ((same_upd np).trans (same_upd np2))
    | bool z =>
      cases hx
      cases hy
      refine ⟨.bl z, rfl, two, fun p np => ⟨_, p, _, _, _, false, rfl, upd_same, .cons (.ty _) (.cons (.ty _) .nil), .base (.bl z), any_ff (by decide +kernel) (by decide +kernel), _, rfl, ?_⟩⟩
      refine ite2 (fun z => absurd z Bool.false_ne_true) (fun _ => ?_)
      refine ⟨.bl z, rfl, rfl, _, rfl, ?_⟩
      refine ite2 (fun z => absurd (of_decide_eq_true z) (fun e => by cases e)) (fun _ => ?_)
      refine ⟨.bl z, rfl, two, fun p2 np2 => ⟨_, p2, _, _, _, true, rfl, upd_same, .cons (.ty _) (.cons (.ty _) .nil), .base (.bl z), any_t (by decide +kernel), _, rfl, ?_⟩⟩
      refine ite2 (fun _ => ?_) (fun z => absurd rfl z)
      refine ⟨.bl z, rfl, .bl z, rfl, rfl, _, rfl, ?_⟩
      refine ite2 (fun _ => ?_) (fun e => absurd (decide_eq_true rfl) e)
      refine ⟨.bl z, rfl, _, _, _, _, true, rfl, .ty _, .base (.bl z), isi_one (by decide +kernel), .bl z, rfl, _, _, _, _, true, rfl, .ty _, .base (.bl z), isi_one (by decide +kernel), rfl, _, rfl, ?_⟩
      refine ite2 (fun _ => ?_) (fun e => absurd rfl e)
      refine ⟨.bl z, rfl, rfl, .bl z, rfl, rfl, rfl, ?_⟩
      have e : decide (V.bl (decide (V.bl z = V.non)) = V.bl (decide (V.bl z = V.non))) = true := decide_eq_true rfl
      rw [e]
      exact q _ ((same_upd np).trans (same_upd np2))
    | none =>
      cases hx
      cases hy
      refine ⟨.non, rfl, two, fun p np => ⟨_, p, _, _, _, false, rfl, upd_same, .cons (.ty _) (.cons (.ty _) .nil), .base .non, any_ff (by decide +kernel) (by decide +kernel), _, rfl, ?_⟩⟩
      refine ite2 (fun z => absurd z Bool.false_ne_true) (fun _ => ?_)
      refine ⟨.non, rfl, rfl, _, rfl, ?_⟩
      refine ite2 (fun _ => ?_) (fun z => absurd (decide_eq_true rfl) z)
      refine ⟨.non, rfl, .non, rfl, rfl, _, rfl, ?_⟩
      refine ite2 (fun _ => ?_) (fun e => absurd (decide_eq_true rfl) e)
      refine ⟨.non, rfl, _, _, _, _, false, rfl, .ty _, .base .non, isi_one (by decide +kernel), .non, rfl, _, _, _, _, false, rfl, .ty _, .base .non, isi_one (by decide +kernel), rfl, _, rfl, ?_⟩
      refine ite2 (fun _ => ?_) (fun e => absurd rfl e)
      refine ⟨.non, rfl, rfl, .non, rfl, rfl, rfl, ?_⟩
      have e : decide (V.bl (decide (V.non = V.non)) = V.bl (decide (V.non = V.non))) = true := decide_eq_true rfl
      rw [e]
      exact q _ (same_upd np)
    | list ds =>
      obtain ⟨hlen, hds⟩ := hd
      cases hx with
      | lst hxs hxa =>
      cases hy with
      | lst hys hya =>
      rename_i a xs b ys
      have lx := dpAll_len hxa
      have ly := dpAll_len hya
      refine ⟨.ref b, rfl, two, fun p np => ⟨_, p, _, _, _, true, rfl, upd_same, .cons (.ty _) (.cons (.ty _) .nil), tyL ((same_upd np).seq hys), any_t (by decide +kernel), _, rfl, ?_⟩⟩
      refine ite2 (fun _ => ?_) (fun z => absurd rfl z)
      have s1 : Same H (upd H p (.tup [.ty "list", .ty "tuple"])) := same_upd np
      have hxs1 := (s1).seq hxs
      have hys1 := (s1).seq hys
      refine ⟨.ref a, rfl, _, _, _, _, true, rfl, .ty _, tyL hxs1, isi_one (by decide +kernel), .ref b, rfl, _, _, _, _, true, rfl, .ty _, tyL hys1, isi_one (by decide +kernel), rfl, _, rfl, ?_⟩
      refine ite2 (fun c => by rw [decide_eq_true rfl] at c; cases c) (fun _ => ?_)
      refine ⟨.ref a, rfl, _, _, _, _, false, rfl, .ty _, tyL hxs1, isi_one (by decide +kernel), .ref b, rfl, _, _, _, _, false, rfl, .ty _, tyL hys1, isi_one (by decide +kernel), rfl, _, rfl, ?_⟩
      refine ite2 (fun c => by rw [decide_eq_true rfl] at c; cases c) (fun _ => ?_)
      refine ⟨.ref a, rfl, a, _, rfl, .inl hxs1, .ref b, rfl, b, _, rfl, .inl hys1, rfl, _, rfl, ?_⟩
      refine ite2 (fun _ => ?_) (fun z => absurd (decide_eq_true (congrArg V.int (by rw [lx, ly]))) z)
      refine ⟨.ref a, rfl, .ref b, rfl, a, b, xs, ys, rfl, .inl ⟨hxs1, hys1, fun D nD => lc_it (walk_zip (K := K) (a := a) (b := b) (xs := xs) (ys := ys) rfl)
        (fun i H' => Same (upd H p (.tup [.ty "list", .ty "tuple"])) H' ∧ H' D = some (.lst ((List.replicate i true).map V.bl))) ⟨same_upd nD, upd_same⟩ (fun i H' _ z => ⟨(z.1).seq hxs1, (z.1).seq hys1⟩) ?_ ?_⟩⟩
      · rintro i v H2 H3 hi ⟨s2, eD⟩ ⟨T1, x1, y1, rfl, nT, rfl, hx1, hy1⟩
        obtain ⟨d1, e1, r1⟩ := dpAll_at hxa hx1
        obtain ⟨d2, e2, r2⟩ := dpAll_at hya hy1
        have ed : d1 = d2 := by
          rw [e1] at e2
          exact Option.some.inj e2
        subst ed
        have s3 : Same (upd H p (.tup [.ty "list", .ty "tuple"])) (upd H2 T1 (.tup [x1, y1])) := s2.trans (same_upd nT)
        have hi' : i < 1000 := by omega
        refine ⟨T1, [x1, y1], rfl, SqT.of upd_same, rfl, x1, [y1], rfl, y1, [], rfl, rfl, ?_⟩
        refine ⟨rfl, ?_⟩
        unfold tYes
        refine ite2 (fun _ => ?_) (fun z => absurd rfl z)
        refine ⟨x1, rfl, y1, rfl, x1, y1, d1, rfl, dp_same (s1.trans s3) r1, dp_same (s1.trans s3) r2, hds d1 (List.mem_of_getElem? e1), fun H4 s4 => ?_⟩
        have eD4 : H4 D = some (.lst ((List.replicate i true).map V.bl)) := s4 _ _ (by rw [upd_ne (ne_of_none eD nT)]; exact eD)
        refine ⟨_, eD4, ?_, fun c o e => ?_, ?_⟩
        · rw [List.length_map, List.length_replicate]
          exact small1000 (Nat.le_of_lt hi')
        · rw [upd_ne (ne_of_none e nD)]
          exact s4 _ _ (s3 _ _ e)
        · rw [upd_same, List.replicate_succ', List.map_append]
          rfl
      · rintro H2 ⟨s2, eD⟩
        refine ⟨D, _, rfl, SqL.of eD, ?_⟩
        rw [all_yes]
        exact q _ (s1.trans s2)
    | tuple ds =>
      obtain ⟨hlen, hds⟩ := hd
      cases hx with
      | tup hxs hxa =>
      cases hy with
      | tup hys hya =>
      rename_i a xs b ys
      have lx := dpAll_len hxa
      have ly := dpAll_len hya
      refine ⟨.ref b, rfl, two, fun p np => ⟨_, p, _, _, _, true, rfl, upd_same, .cons (.ty _) (.cons (.ty _) .nil), tyT (sqT_same (same_upd np) hys), any_ft (by decide +kernel) (by decide +kernel), _, rfl, ?_⟩⟩
      refine ite2 (fun _ => ?_) (fun z => absurd rfl z)
      have s1 : Same H (upd H p (.tup [.ty "list", .ty "tuple"])) := same_upd np
      have hxs1 := sqT_same (s1) hxs
      have hys1 := sqT_same (s1) hys
      refine ⟨.ref a, rfl, _, _, _, _, false, rfl, .ty _, tyT hxs1, isi_one (by decide +kernel), .ref b, rfl, _, _, _, _, false, rfl, .ty _, tyT hys1, isi_one (by decide +kernel), rfl, _, rfl, ?_⟩
      refine ite2 (fun c => by rw [decide_eq_true rfl] at c; cases c) (fun _ => ?_)
      refine ⟨.ref a, rfl, _, _, _, _, true, rfl, .ty _, tyT hxs1, isi_one (by decide +kernel), .ref b, rfl, _, _, _, _, true, rfl, .ty _, tyT hys1, isi_one (by decide +kernel), rfl, _, rfl, ?_⟩
      refine ite2 (fun c => by rw [decide_eq_true rfl] at c; cases c) (fun _ => ?_)
      refine ⟨.ref a, rfl, a, _, rfl, .inr hxs1, .ref b, rfl, b, _, rfl, .inr hys1, rfl, _, rfl, ?_⟩
      refine ite2 (fun _ => ?_) (fun z => absurd (decide_eq_true (congrArg V.int (by rw [lx, ly]))) z)
      refine ⟨.ref a, rfl, .ref b, rfl, a, b, xs, ys, rfl, .inr ⟨hxs1, hys1, fun D nD => lc_it (walk_zipT (K := K) (a := a) (b := b) (xs := xs) (ys := ys) rfl)
        (fun i H' => Same (upd H p (.tup [.ty "list", .ty "tuple"])) H' ∧ H' D = some (.lst ((List.replicate i true).map V.bl))) ⟨same_upd nD, upd_same⟩ (fun i H' _ z => ⟨sqT_same (z.1) hxs1, sqT_same (z.1) hys1⟩) ?_ ?_⟩⟩
      · rintro i v H2 H3 hi ⟨s2, eD⟩ ⟨T1, x1, y1, rfl, nT, rfl, hx1, hy1⟩
        obtain ⟨d1, e1, r1⟩ := dpAll_at hxa hx1
        obtain ⟨d2, e2, r2⟩ := dpAll_at hya hy1
        have ed : d1 = d2 := by
          rw [e1] at e2
          exact Option.some.inj e2
        subst ed
        have s3 : Same (upd H p (.tup [.ty "list", .ty "tuple"])) (upd H2 T1 (.tup [x1, y1])) := s2.trans (same_upd nT)
        have hi' : i < 1000 := by omega
        refine ⟨T1, [x1, y1], rfl, SqT.of upd_same, rfl, x1, [y1], rfl, y1, [], rfl, rfl, ?_⟩
        refine ⟨rfl, ?_⟩
        unfold tYes
        refine ite2 (fun _ => ?_) (fun z => absurd rfl z)
        refine ⟨x1, rfl, y1, rfl, x1, y1, d1, rfl, dp_same (s1.trans s3) r1, dp_same (s1.trans s3) r2, hds d1 (List.mem_of_getElem? e1), fun H4 s4 => ?_⟩
        have eD4 : H4 D = some (.lst ((List.replicate i true).map V.bl)) := s4 _ _ (by rw [upd_ne (ne_of_none eD nT)]; exact eD)
        refine ⟨_, eD4, ?_, fun c o e => ?_, ?_⟩
        · rw [List.length_map, List.length_replicate]
          exact small1000 (Nat.le_of_lt hi')
        · rw [upd_ne (ne_of_none e nD)]
          exact s4 _ _ (s3 _ _ e)
        · rw [upd_same, List.replicate_succ', List.map_append]
          rfl
      · rintro H2 ⟨s2, eD⟩
        refine ⟨D, _, rfl, SqL.of eD, ?_⟩
        rw [all_yes]
        exact q _ (s1.trans s2)
    | _ => exact absurd hd id
end
end K67
namespace K67
open PySem PySem.Spec PyProof.Rows L2 CS
/-- what stood at first stands, and all of H2 but l -/
def KeepTo (H H2 : Hp) (l : Addr) (H' : Hp) : Prop := Same H H' ∧ Keep l H2 H'
theorem cut3 (ns : List Int) : cutV (ns.map V.int) (some 3) (some 63) = ((ns.drop (min 3 ns.length)).take (min 63 ns.length - min 3 ns.length)).map V.int := by
  unfold cutV
  rw [show HT.sIx (ns.map V.int).length 0 (some 3) = min 3 (ns.map V.int).length from HT.sIx_nat _ 0 3, show HT.sIx (ns.map V.int).length (ns.map V.int).length (some 63) = min 63 (ns.map V.int).length from HT.sIx_nat _ _ 63, List.length_map, List.map_take, List.map_drop]
theorem cut0 (ns : List Int) : cutV (ns.map V.int) none (some 3) = (ns.take (min 3 ns.length)).map V.int := by
  unfold cutV
  rw [show HT.sIx (ns.map V.int).length 0 none = 0 from HT.sIx_none _ _, show HT.sIx (ns.map V.int).length (ns.map V.int).length (some 3) = min 3 (ns.map V.int).length from HT.sIx_nat _ _ 3, List.length_map, List.map_take]
  rfl
section
variable {P : Program} {w : World} {K : PySem.W.Frag} {mg : Str → Option Value} {base : Heap}
def spCells (K : PySem.W.Frag) : Sp := fun vs H Q _ => ∃ (a : Addr) (ns : List Int), vs = [.ref a, .int 3] ∧ SqL K H a (ns.map V.int) ∧ ns.length ≤ 63 ∧
  ∀ (H' : Hp) (p : Addr) (ms : List Int), Same H H' → H p = none → H' p = some (.lst (ms.map V.int)) → 1 ≤ ms.length → ms.length ≤ 3 → Q (.ref p) H'
theorem scCells : FnScope ["_law_script", "_law_most_so", "_law_cells_here", "_law_k", "_law_cell", "_law_at_so"] ["_law_script", "_law_most_so"] (defScope sCells) := ⟨rfl, rfl, rfl, by decide +kernel, rfl, by decide +kernel, by decide +kernel⟩
theorem ok_cells {f : Addr} {fd : FuncData} {k : Nat} (F : Fun K "_law_cells" "_law_cells" sCells f fd) (mL : mg "list" = none) (mE : mg "enumerate" = none) (mi : mg "int" = none) : FnOk P w K mg base CX0 (k + 1) f fd ["_law_script", "_law_most_so"] (spCells K) := by
  refine F.ok scCells (fun vs H Q E h => ?_) (fun cdv A outer s H vs Q E hr h => ?_)
  · obtain ⟨a, ns, rfl, _⟩ := h
    rfl
  · obtain ⟨a, ns, rfl, hS, hn, q⟩ := h
    refine ⟨_, pss_cons (ps_set (i := 2) scCells.nd rfl (.inl rfl) (pe_orT (pe_callTy call_list_of (by rfl) mL (by decide +kernel) (pa_cons (pe_slice sl_list (pv 0) po_none (po_some (pv 1))) pa_nil)) (pe_one (pe_lst (pa_cons pe_int pa_nil)))))
      (pss_cons (ps_for PassesOwn.never rfl (pi_enum (by rfl) mE (pa_cons (pe_slice sl_list (pv 0) (po_some (pv 1)) (po_some pe_int)) pa_nil))
          (pg_tup rfl (pgs_cons (pg_name (i := 3) scCells.nd rfl (.inl rfl)) (pgs_cons (pg_name (i := 4) scCells.nd rfl (.inl rfl)) pgs_nil)))
        (pss_cons (ps_set (i := 5) scCells.nd rfl (.inl rfl) (pe_op op_modN (pe_callTy call_int1 (by rfl) mi (by decide +kernel) (pa_cons (pv 3) pa_nil)) (pv 1)))
          (pss_one (ps_asg (pe_op op_add (pe_ix ix_list (pv 2) (pv 5) (fun _ _ => rfl)) (pe_op op_mul (pv 4) (pe_op op_add (pv 3) pe_int))) (pg_sub (pv 2) (pv 5) set_list)))))
      (pss_one (ps_ret (pv 2)))), ?_⟩
    refine ⟨.ref a, rfl, .int 3, rfl, 3, rfl, a, ns.map V.int, rfl, hS, fun c nc => ?_⟩
    rw [cut0]
    refine ⟨c, _, rfl, .inl (SqL.of upd_same), fun l nl0 => ?_⟩
    have s0 : Same H (upd (upd H c (.lst ((ns.take (min 3 ns.length)).map V.int))) l (.lst ((ns.take (min 3 ns.length)).map V.int))) := (same_upd nc).trans (same_upd nl0)
    have nlH : H l = none := (same_upd nc).free nl0
    have hl1 : (ns.take (min 3 ns.length)).length = min 3 ns.length := by
      rw [List.length_take]
      omega
    refine ⟨_, .inl ⟨_, SqL.of upd_same, rfl⟩, ?_⟩
    refine ite2 (fun c1 => ?_) (fun c1 => ?_)
    · have hpos : 0 < ns.length := by
        cases ns with
        | nil => cases c1
        | cons x r => exact Nat.succ_pos _
      have e1 : (upd (upd H c (.lst ((ns.take (min 3 ns.length)).map V.int))) l (.lst ((ns.take (min 3 ns.length)).map V.int))) l = some (.lst ((ns.take (min 3 ns.length)).map V.int)) := upd_same
      generalize upd (upd H c (.lst ((ns.take (min 3 ns.length)).map V.int))) l (.lst ((ns.take (min 3 ns.length)).map V.int)) = H1 at s0 e1
      generalize ns.take (min 3 ns.length) = ms at e1 hl1
      have s1 := s0
      have nl := nlH
      have m1 : 1 ≤ ms.length := by omega
      have m3 : ms.length ≤ 3 := by omega
      have h3 : 3 < ns.length → ms.length = 3 := fun _ => by omega
      refine ⟨.ref a, rfl, .int 3, rfl, 3, rfl, 63, rfl, a, ns.map V.int, rfl, s1.seq hS, fun c2 nc2 => ?_⟩
      rw [cut3]
      have s2 : Same H (upd H1 c2 (.lst (((ns.drop (min 3 ns.length)).take (min 63 ns.length - min 3 ns.length)).map V.int))) := s1.trans (same_upd nc2)
      have ncl : c2 ≠ l := fun z => by
        rw [z, e1] at nc2
        cases nc2
      have hC : SqL K (upd H1 c2 (.lst (((ns.drop (min 3 ns.length)).take (min 63 ns.length - min 3 ns.length)).map V.int))) c2 (((ns.drop (min 3 ns.length)).take (min 63 ns.length - min 3 ns.length)).map V.int) := SqL.of upd_same
      have eL : (upd H1 c2 (.lst (((ns.drop (min 3 ns.length)).take (min 63 ns.length - min 3 ns.length)).map V.int))) l = some (.lst (ms.map V.int)) := by
        rw [upd_ne ncl.symm]
        exact e1
      have hlenr : ((ns.drop (min 3 ns.length)).take (min 63 ns.length - min 3 ns.length)).length = min 63 ns.length - min 3 ns.length := by
        rw [List.length_take, List.length_drop]
        omega
      generalize ((ns.drop (min 3 ns.length)).take (min 63 ns.length - min 3 ns.length)) = rest at s2 hC eL hlenr
      generalize upd H1 c2 (.lst (rest.map V.int)) = H2 at s2 hC eL
      refine ⟨c2, rest.map V.int, rfl, hC, for_it (walk_enum (K := K) (a := c2) (xs := rest.map V.int)) (fun i σ H' => ∃ (y3 y4 y5 : Option V) (zs : List Int), σ = [some (.ref a), some (.int 3), some (.ref l), y3, y4, y5] ∧ KeepTo H H2 l H' ∧ H' l = some (.lst (zs.map V.int)) ∧ zs.length = ms.length)
        ⟨none, none, none, ms, rfl, ⟨s2, fun _ _ _ e => e⟩, eL, rfl⟩ (fun i σ H' _ z => by
          obtain ⟨_, _, _, _, _, kk, _, _⟩ := z
          exact Keep.sqL (b := l) kk.2 ncl hC) ?_ ?_⟩
      · rintro i v σ H3 H4 hi ⟨y3, y4, y5, zs, rfl, kk, e3, hzl⟩ ⟨T, x, y, rfl, nT, rfl, hx, hy⟩
        cases hx
        replace hy : (rest.map V.int)[i]? = some y := hy
        rw [List.getElem?_map] at hy
        rw [List.length_map, hlenr] at hi
        cases e : rest[i]? with
        | none =>
          rw [e] at hy
          cases hy
        | some u =>
          rw [e] at hy
          cases hy
          have hz3 : zs.length = 3 := by rw [hzl]; exact h3 (by omega)
          have f0 := Int.fmod_nonneg_of_pos (i : Int) (b := 3) (by decide)
          have f1 := Int.fmod_lt_of_pos (i : Int) (b := 3) (by decide)
          have nlT : l ≠ T := ne_of_none e3 nT
          have e3T : (upd H3 T (.tup [.int (i : Nat), .int u])) l = some (.lst (zs.map V.int)) := by
            rw [upd_ne nlT]
            exact e3
          refine ⟨T, [.int (i : Nat), .int u], rfl, SqT.of upd_same, rfl, .int (i : Nat), [.int u], rfl, .int u, [], rfl, rfl, ?_⟩
          refine ⟨.int (i : Nat), rfl, .inl ⟨_, rfl, .int 3, rfl, _, _, rfl, rfl, (by show (3 : Int) ≠ 0; decide), ?_⟩⟩
          have hj : (Int.fmod (i : Int) 3).toNat < zs.length := by omega
          have hat : atI (zs.map V.int) (Int.fmod (i : Int) 3) = some (.int zs[(Int.fmod (i : Int) 3).toNat]) := by
            have za := atI_nat (j := (Int.fmod (i : Int) 3).toNat) (xs := zs.map V.int) (v := .int zs[(Int.fmod (i : Int) 3).toNat]) (by rw [List.getElem?_map, List.getElem?_eq_getElem hj]; rfl)
            rw [show (((Int.fmod (i : Int) 3).toNat : Nat) : Int) = Int.fmod (i : Int) 3 by omega] at za
            exact za
          refine ⟨.ref l, rfl, .int _, rfl, l, _, _, _, rfl, rfl, SqL.of e3T, hat, .int u, rfl, .int (i : Nat), rfl, _, _, rfl, rfl, _, _, rfl, rfl, .inr (by omega), _, _, rfl, rfl, ?_⟩
          refine ⟨.ref l, rfl, .int _, rfl, l, _, _, (Int.fmod (i : Int) 3).toNat, rfl, rfl, e3T, ?_, ?_⟩
          · unfold ixN
            rw [List.length_map, if_pos f0, if_pos (by omega)]
          · refine ⟨_, _, _, zs.set (Int.fmod (i : Int) 3).toNat (zs[(Int.fmod (i : Int) 3).toNat] + u * ((i : Int) + 2)), rfl, ⟨fun c o ec => ?_, fun c o nc ec => ?_⟩, ?_, ?_⟩
            · have q3 := kk.1 _ _ ec
              have ncl3 : c ≠ l := ne_of_none ec nl
              rw [upd_ne ncl3, upd_ne (ne_of_none q3 nT)]
              exact q3
            · have q3 := kk.2 _ _ nc ec
              rw [upd_ne nc, upd_ne (ne_of_none q3 nT)]
              exact q3
            · rw [upd_same, List.map_set]
            · rw [List.length_set]
              exact hzl
      · rintro σ H3 ⟨y3, y4, y5, zs, rfl, kk, e3, hzl⟩
        exact ⟨.ref l, rfl, q H3 l zs kk.1 nl e3 (by omega) (by omega)⟩
    · have hnil : ns.length = 0 := by
        cases ns with
        | nil => rfl
        | cons x r =>
          exfalso
          apply c1
          show (!(((x :: r).take (min 3 (r.length + 1))).map V.int).isEmpty) = true
          rw [show min 3 (r.length + 1) = (min 2 r.length) + 1 by omega]
          rfl
      refine ⟨(by show 1 ≤ sizeLine; decide), fun l2 nl2 => ?_⟩
      have s1 := s0.trans (same_upd (o := .lst [.int 0]) nl2)
      have nl : H l2 = none := s0.free nl2
      have e1 : (upd (upd (upd H c (.lst ((ns.take (min 3 ns.length)).map V.int))) l (.lst ((ns.take (min 3 ns.length)).map V.int))) l2 (.lst [.int 0])) l2 = some (.lst (([0] : List Int).map V.int)) := upd_same
      generalize upd (upd (upd H c (.lst ((ns.take (min 3 ns.length)).map V.int))) l (.lst ((ns.take (min 3 ns.length)).map V.int))) l2 (.lst [.int 0]) = H1 at s1 e1
      generalize l2 = l at nl e1
      generalize ems : ([0] : List Int) = ms at e1
      have m1 : 1 ≤ ms.length := by rw [← ems]; decide
      have m3 : ms.length ≤ 3 := by rw [← ems]; decide
      have h3 : 3 < ns.length → ms.length = 3 := fun z => by omega
      refine ⟨.ref a, rfl, .int 3, rfl, 3, rfl, 63, rfl, a, ns.map V.int, rfl, s1.seq hS, fun c2 nc2 => ?_⟩
      rw [cut3]
      have s2 : Same H (upd H1 c2 (.lst (((ns.drop (min 3 ns.length)).take (min 63 ns.length - min 3 ns.length)).map V.int))) := s1.trans (same_upd nc2)
      have ncl : c2 ≠ l := fun z => by
        rw [z, e1] at nc2
        cases nc2
      have hC : SqL K (upd H1 c2 (.lst (((ns.drop (min 3 ns.length)).take (min 63 ns.length - min 3 ns.length)).map V.int))) c2 (((ns.drop (min 3 ns.length)).take (min 63 ns.length - min 3 ns.length)).map V.int) := SqL.of upd_same
      have eL : (upd H1 c2 (.lst (((ns.drop (min 3 ns.length)).take (min 63 ns.length - min 3 ns.length)).map V.int))) l = some (.lst (ms.map V.int)) := by
        rw [upd_ne ncl.symm]
        exact e1
      have hlenr : ((ns.drop (min 3 ns.length)).take (min 63 ns.length - min 3 ns.length)).length = min 63 ns.length - min 3 ns.length := by
        rw [List.length_take, List.length_drop]
        omega
      generalize ((ns.drop (min 3 ns.length)).take (min 63 ns.length - min 3 ns.length)) = rest at s2 hC eL hlenr
      generalize upd H1 c2 (.lst (rest.map V.int)) = H2 at s2 hC eL
      refine ⟨c2, rest.map V.int, rfl, hC, for_it (walk_enum (K := K) (a := c2) (xs := rest.map V.int)) (fun i σ H' => ∃ (y3 y4 y5 : Option V) (zs : List Int), σ = [some (.ref a), some (.int 3), some (.ref l), y3, y4, y5] ∧ KeepTo H H2 l H' ∧ H' l = some (.lst (zs.map V.int)) ∧ zs.length = ms.length)
        ⟨none, none, none, ms, rfl, ⟨s2, fun _ _ _ e => e⟩, eL, rfl⟩ (fun i σ H' _ z => by
          obtain ⟨_, _, _, _, _, kk, _, _⟩ := z
          exact Keep.sqL (b := l) kk.2 ncl hC) ?_ ?_⟩
      · rintro i v σ H3 H4 hi ⟨y3, y4, y5, zs, rfl, kk, e3, hzl⟩ ⟨T, x, y, rfl, nT, rfl, hx, hy⟩
        cases hx
        replace hy : (rest.map V.int)[i]? = some y := hy
        rw [List.getElem?_map] at hy
        rw [List.length_map, hlenr] at hi
        cases e : rest[i]? with
        | none =>
          rw [e] at hy
          cases hy
        | some u =>
          rw [e] at hy
          cases hy
          have hz3 : zs.length = 3 := by rw [hzl]; exact h3 (by omega)
          have f0 := Int.fmod_nonneg_of_pos (i : Int) (b := 3) (by decide)
          have f1 := Int.fmod_lt_of_pos (i : Int) (b := 3) (by decide)
          have nlT : l ≠ T := ne_of_none e3 nT
          have e3T : (upd H3 T (.tup [.int (i : Nat), .int u])) l = some (.lst (zs.map V.int)) := by
            rw [upd_ne nlT]
            exact e3
          refine ⟨T, [.int (i : Nat), .int u], rfl, SqT.of upd_same, rfl, .int (i : Nat), [.int u], rfl, .int u, [], rfl, rfl, ?_⟩
          refine ⟨.int (i : Nat), rfl, .inl ⟨_, rfl, .int 3, rfl, _, _, rfl, rfl, (by show (3 : Int) ≠ 0; decide), ?_⟩⟩
          have hj : (Int.fmod (i : Int) 3).toNat < zs.length := by omega
          have hat : atI (zs.map V.int) (Int.fmod (i : Int) 3) = some (.int zs[(Int.fmod (i : Int) 3).toNat]) := by
            have za := atI_nat (j := (Int.fmod (i : Int) 3).toNat) (xs := zs.map V.int) (v := .int zs[(Int.fmod (i : Int) 3).toNat]) (by rw [List.getElem?_map, List.getElem?_eq_getElem hj]; rfl)
            rw [show (((Int.fmod (i : Int) 3).toNat : Nat) : Int) = Int.fmod (i : Int) 3 by omega] at za
            exact za
          refine ⟨.ref l, rfl, .int _, rfl, l, _, _, _, rfl, rfl, SqL.of e3T, hat, .int u, rfl, .int (i : Nat), rfl, _, _, rfl, rfl, _, _, rfl, rfl, .inr (by omega), _, _, rfl, rfl, ?_⟩
          refine ⟨.ref l, rfl, .int _, rfl, l, _, _, (Int.fmod (i : Int) 3).toNat, rfl, rfl, e3T, ?_, ?_⟩
          · unfold ixN
            rw [List.length_map, if_pos f0, if_pos (by omega)]
          · refine ⟨_, _, _, zs.set (Int.fmod (i : Int) 3).toNat (zs[(Int.fmod (i : Int) 3).toNat] + u * ((i : Int) + 2)), rfl, ⟨fun c o ec => ?_, fun c o nc ec => ?_⟩, ?_, ?_⟩
            · have q3 := kk.1 _ _ ec
              have ncl3 : c ≠ l := ne_of_none ec nl
              rw [upd_ne ncl3, upd_ne (ne_of_none q3 nT)]
              exact q3
            · have q3 := kk.2 _ _ nc ec
              rw [upd_ne nc, upd_ne (ne_of_none q3 nT)]
              exact q3
            · rw [upd_same, List.map_set]
            · rw [List.length_set]
              exact hzl
      · rintro σ H3 ⟨y3, y4, y5, zs, rfl, kk, e3, hzl⟩
        exact ⟨.ref l, rfl, q H3 l zs kk.1 nl e3 (by omega) (by omega)⟩
end
end K67
namespace K67
open PySem PySem.Spec PyProof.Rows L2 CS RZ
section
variable {P : Program} {w : World} {K : PySem.W.Frag} {mg : Str → Option Value} {base : Heap}
def spRight : Sp := fun vs H Q _ => ∃ (b : Addr) (n : Nat), vs = [.ref b] ∧ BoxAt H b n ∧ n ≤ 500000 ∧ ∀ (H' : Hp) (n' : Nat), Keep b H H' → BoxAt H' b n' → n' ≤ n + 3000 → Q (.bl true) H'
def spHand : Sp := fun vs H Q _ => vs = [] ∧ ∀ H' : Hp, Same H H' → Q (.bl true) H'
def spLaw (K : PySem.W.Frag) : Sp := fun vs H Q _ => ∃ (a : Addr) (ns : List Int), vs = [.ref a] ∧ SqL K H a (ns.map V.int) ∧ ns.length ≤ 63 ∧ ∀ H', Q (.bl true) H'
abbrev nLaw : List Str := ["_law_script", "_law_cells_here", "_law_k", "_law_box_here", "_law_turn"]
theorem scLaw : FnScope nLaw ["_law_script"] (defScope sLaw) := ⟨rfl, rfl, rfl, by decide +kernel, rfl, by decide +kernel, by decide +kernel⟩
theorem ok_law {f gh gc gr gb : Addr} {fd dh dc dr db : FuncData} {k : Nat} (F : Fun K "law" "law" sLaw f fd)
    (Gh : FnOk P w K mg base CX0 k gh dh [] spHand) (bh : Binds K dh [] []) (kh : PySem.W.keepIn K (.ref gh) = true) (mh : mg "_law_by_hand_right" = some (.ref gh))
    (Gc : FnOk P w K mg base CX0 k gc dc ["_law_script", "_law_most_so"] (spCells K)) (bc : Binds K dc ["_law_script", "_law_most_so"] []) (kc : PySem.W.keepIn K (.ref gc) = true) (mc : mg "_law_cells" = some (.ref gc))
    (Gr : FnOk P w K mg base CX0 k gr dr ["_law_box_here"] spRight) (br : Binds K dr ["_law_box_here"] []) (kr : PySem.W.keepIn K (.ref gr) = true) (mR : mg "_law_right" = some (.ref gr))
    (Gb : FnOk P w K mg base CX0 k gb db ["_law_script", "_law_k"] (spBox K)) (bb : Binds K db ["_law_script", "_law_k"] []) (kb : PySem.W.keepIn K (.ref gb) = true) (mb : mg "_law_box" = some (.ref gb)) (mr : mg "range" = none) (ma : mg "all" = none) (ml : mg "len" = none) :
    FnOk P w K mg base CX0 (k + 1) f fd ["_law_script"] (spLaw K) := by
  refine F.ok scLaw (fun vs H Q E h => ?_) (fun cdv A outer s H vs Q E hr h => ?_)
  · obtain ⟨a, ns, rfl, _⟩ := h
    rfl
  · obtain ⟨a, ns, rfl, hS, hn, q⟩ := h
    refine ⟨_, pss_cons (ps_set (i := 1) scLaw.nd rfl (.inl rfl) (pe_call Gc hr (by rfl) mc kc bc .nil pass0 (pa_cons (pv 0) (pa_cons pe_int pa_nil))))
      (pss_cons (ps_if (pt_not (pt_val (pe_call0 Gh hr (by rfl) mh kh bh .nil pass0))) (pss_one (ps_ret pe_bl)) pss_nil)
      (pss_cons (ps_for PassesOwn.never rfl (pi_range1 (by rfl) mr (pa_cons (pe_callB call_len_seq (by rfl) ml PySem.boot_len (pa_cons (pv 1) pa_nil)) pa_nil)) (pg_name (i := 2) scLaw.nd rfl (.inl rfl))
        (pss_cons (ps_set (i := 3) scLaw.nd rfl (.inr rfl) (pe_call Gb hr (by rfl) mb kb bb .nil pass0 (pa_cons (pv 1) (pa_cons (pv 2) pa_nil))))
        (pss_one (ps_if (pt_not (pt_val (pe_callB (cr_all rfl) (by rfl) ma (by decide +kernel) (pa_cons (pe_lc (own := [("_law_turn", 4)]) (g := gName 4) (by rfl) scLaw.nd (pi_range1 (by rfl) mr (pa_cons pe_int pa_nil))
          (blkOk_by (own := [("_law_turn", 4)]) (N := nLaw) (sc := defScope sLaw) (by decide +kernel)) (fun _ _ _ _ _ => pg_name (i := 4) scLaw.nd rfl (Or.inl rfl) (.inr rfl)) (fun _ _ _ _ _ => pts_nil)
          (fun _ _ _ _ _ => pe_call Gr hr (by rfl) mR kr br .nil pass0 (pa_cons (pv 3) pa_nil))) pa_nil)))) (pss_one (ps_ret pe_bl)) pss_nil))))
      (pss_one (ps_ret pe_bl)))), ?_⟩
    refine ⟨.ref a, rfl, a, ns, rfl, hS, hn, fun H2 p ms s2 _ e2 m1 m3 => ?_⟩
    refine ⟨rfl, fun H3 s3 => ⟨_, rfl, ?_⟩⟩
    refine ite2 (fun z => by cases z) (fun _ => ?_)
    refine ⟨.ref p, rfl, p, _, rfl, .inl (SqL.of (s3 _ _ e2)), _, rfl, (by rw [List.length_map]; omega), (by rw [List.length_map]; omega), for_range (fun i σ H' => ∃ (y2 y3 : Option V), σ = [some (.ref a), some (.ref p), y2, y3, none] ∧ H' p = some (.lst (ms.map V.int))) ⟨none, none, rfl, s3 _ _ e2⟩ ?_ ?_⟩
    · rintro i σ H4 hi ⟨y2, y3, rfl, e4⟩
      rw [List.length_map] at hi
      have hi' : i < ms.length := by omega
      refine ⟨.ref p, rfl, .int (0 + (i : Nat)), rfl, p, ms, i, (by rw [Int.zero_add]; rfl), SqL.of e4, hi', by omega, fun H5 b s5 nb b5 => ?_⟩
      have npb : p ≠ b := ne_of_none e4 nb
      refine ⟨8, rfl, by decide, by decide, fun D nD => lc_range (fun j H' => ∃ n : Nat, BoxAt H' b n ∧ n ≤ 3000 * j ∧ H' p = some (.lst (ms.map V.int)) ∧ H' D = some (.lst ((List.replicate j true).map V.bl))) ⟨0, b5.same (same_upd nD), by omega, ?_, upd_same⟩ ?_ ?_⟩
      · rw [upd_ne (ne_of_none (s5 _ _ e4) nD)]
        exact s5 _ _ e4
      · rintro j H6 hj ⟨n, b6, hn6, e6, eD⟩
        have hj5 : j < 8 := hj
        have npD : p ≠ D := ne_of_none (s5 _ _ e4) nD
        obtain ⟨bA, bB, bC, eb, _⟩ := b5
        have nDb : D ≠ b := fun z => by rw [z, eb] at nD; cases nD
        refine ⟨rfl, ?_⟩
        unfold tYes
        refine ite2 (fun _ => ?_) (fun z => absurd rfl z)
        refine ⟨.ref b, rfl, b, n, rfl, b6, by omega, fun H7 n7 k7 b7 h7 => ?_⟩
        refine ⟨_, k7 _ _ nDb eD, ?_, n7, ?_, by omega, ?_, ?_⟩
        · rw [List.length_map, List.length_replicate]
          exact small1000 (by omega)
        · obtain ⟨A7, B7, C7, e7, r7⟩ := b7
          exact ⟨A7, B7, C7, by rw [upd_ne (Ne.symm nDb)]; exact e7, r7⟩
        · rw [upd_ne npD]
          exact k7 _ _ npb e6
        · rw [upd_same, List.replicate_succ', List.map_append]
          rfl
      · rintro H6 ⟨n, b6, hn6, e6, eD⟩
        refine ⟨D, _, rfl, SqL.of eD, _, rfl, ?_⟩
        rw [all_yes]
        refine ite2 (fun z => by cases z) (fun _ => ?_)
        exact ⟨_, _, rfl, e6⟩
    · rintro σ H4 ⟨y2, y3, rfl, e4⟩
      exact q H4
end
end K67
/-! an error that is caught and used behind its except clause: it is tracked like any other object -/
namespace CS
open PySem PySem.Spec PyProof.Rows L2
/-- at a: an error of the class cls, its dict at d -/
def XO (cls : Value) (d : Option Addr) (a : Addr) : HO := .ext fun h => ∃ (ob : Obj) (ws : Array Value), h.get? a = some ob ∧ Zc cls d ob ∧ ob.data = .fields ws
theorem xo_put {P : Program} {w : World} {H : Hp} {h : Heap} {a : Addr} {cls : Value} {d : Option Addr} {ob : Obj} {ws : Array Value} (e : h.get? a = some ob) (z : Zc cls d ob) (q : ob.data = .fields ws) : ObjOk P w H h a (XO cls d a) :=
  ⟨⟨ob, ws, e, z, q⟩, ⟨ob, e⟩, fun _ _ hx hk => by
    obtain ⟨u, v, p, r⟩ := hx
    exact ⟨u, v, hk u p, r⟩⟩
theorem xo_take {P : Program} {w : World} {H : Hp} {h : Heap} {a : Addr} {cls : Value} {d : Option Addr} (hk : HOk P w H h) (e : H a = some (XO cls d a)) : ∃ (ob : Obj) (ws : Array Value), h.get? a = some ob ∧ Zc cls d ob ∧ ob.data = .fields ws := by
  have x : ObjOk P w H h a (.ext fun h => ∃ (ob : Obj) (ws : Array Value), h.get? a = some ob ∧ Zc cls d ob ∧ ob.data = .fields ws) := hk a _ e
  exact x.1
section
variable {X : Cx} {pins : List (Addr × Obj)} {σ : L2.St} {H : Hp} {s : Shared} {a : Addr} {ob : Obj} {cls : Value} {d : Option Addr} {ws : Array Value}
/-- an error that is pinned may be tracked, if it is new -/
theorem track (I : Inv X pins σ H s) (he : s.heap.get? a = some ob) (na : H a = none) (nl : a ≠ X.env.locals) (nf : a ∉ X.fs) (hz : Zc cls d ob) (hd : ob.data = .fields ws) (n0 : X.s_0.heap.get? a = none) (np : ∀ p ∈ X.pn ++ pins, p.1 ≠ a) : Inv X pins σ (upd H a (XO cls d a)) s := by
  have away : ∀ {b : Addr} {o : HO}, H b = some o → b ≠ a := fun hb z => by
    rw [z, na] at hb
    cases hb
  have old : ∀ {b : Addr} {o : Obj}, X.s_0.heap.get? b = some o → b ≠ a := fun hb z => by
    rw [z, n0] at hb
    cases hb
  refine ⟨I.ok, I.os, I.bare, ⟨I.base.keep, I.base.slot, ?_, I.base.there, ?_, ?_, ?_⟩, I.loc, I.cell, ?_, ?_, ?_, ?_, I.len⟩
  · intro b o hb hn hx
    rw [upd_ne (old hb)]
    exact I.base.free b o hb hn hx
  · intro b xs hb
    have z := I.base.tups b xs hb
    rw [upd_ne (away z)]
    exact z
  · intro b o u hb
    have z := I.base.frzs b o u hb
    rw [upd_ne (away z)]
    exact z
  · intro b ps hb
    obtain ⟨more, z⟩ := I.base.tbls b ps hb
    refine ⟨more, ?_⟩
    rw [upd_ne (away z)]
    exact z
  · rw [upd_ne (Ne.symm nl)]
    exact I.free
  · intro x c hc
    obtain ⟨v, o, ho, hv⟩ := I.cell x c hc
    rw [upd_ne fun z => ?_]
    · exact I.freeC x c hc
    · rw [z, he] at ho
      cases ho
      rw [hd] at hv
      cases hv
  · intro p hp
    obtain ⟨q1, q2, q3⟩ := I.pin p hp
    refine ⟨q1, ?_, q3⟩
    rw [upd_ne (np p hp)]
    exact q2
  · intro b u hb
    by_cases c : b = a
    · subst c
      rw [upd_same] at hb
      cases hb
      exact xo_put he hz hd
    · rw [upd_ne c] at hb
      exact (I.hok b u hb).stay (fun _ _ _ r => r) (fun c2 r => by rw [upd_ne (away r)]; exact r) (fun c2 xs r => by rw [upd_ne (away r)]; exact r)
end
theorem again {X : Cx} {pins : List (Addr × Obj)} {σ : L2.St} {H : Hp} {s : Shared} {a : Addr} (I : Inv X pins σ H s) : Inv (X.suite a (X.pn ++ pins)) [] σ H s :=
  ⟨I.ok.suite _ _, I.os, I.bare, I.base, I.loc, I.cell, I.free, I.freeC, fun p hp => I.pin p (by rw [List.append_nil] at hp; exact hp), I.hok, I.len⟩
theorem behind {X : Cx} {pins : List (Addr × Obj)} {σ : L2.St} {H : Hp} {s : Shared} {a : Addr} (I : Inv (X.suite a (X.pn ++ pins)) [] σ H s) (ok : X.Ok) : Inv X pins σ H s :=
  ⟨ok, I.os, I.bare, I.base, I.loc, I.cell, I.free, I.freeC, fun p hp => I.pin p (by rw [List.append_nil]; exact hp), I.hok, I.len⟩
end CS
set_option maxHeartbeats 4000000
/-! isinstance and the fields of an error that is tracked -/
namespace PySem.W
open PySem PySem.Spec PySem.Calls PyProof.Rows
section
variable {prog : Program} {w : World} {A : Around} {E : Value → Shared → Prop} {s : Shared} {K : Frag} {x D : Addr} {ox : Obj} {od : Option Obj}
/-- what the class D says of its instances' __class__ -/
structure CsxC (K : Frag) (D : Addr) : Prop where
  hg : findIn K (.ref D) "__getattribute__" = some (some (.builtin "BaseException.__getattribute__"))
  hk : findIn K (.ref D) "__getattr__" = some none
  hs : subIn K (.ref D) (.type "BaseException") = some true
  hd : hasDictIn K D = true
  ha : findIn K (.ref D) "__class__" = some (some (.builtin "object.__class__"))
  hn : specialIn K (.builtin "object.__class__") "__get__" = some (some (.builtin "getset_descriptor.__get__"))
  ht : takesIn K (.builtin "object.__class__") = some true
  hm : mroIn K D (.type "object") = some true
end
end PySem.W
namespace CS
open PySem PySem.Spec PyProof.Rows L2
/-- e.f, e a tracked error -/
def tXoF (K : PySem.W.Frag) (f : Str) (te : TE) : TE := fun σ H Q => te σ H fun x H1 => ∃ (a C dd : Addr) (fs : List (Str × V)) (v : V), x = .ref a ∧ H1 a = some (XO (.ref C) (some dd) a) ∧ H1 dd = some (.xd fs) ∧ XfC K C ∧ PySem.W.findIn K (.ref C) f = some none ∧ fs.lookup f = some v ∧ Q v H1
theorem pe_xof {X : Cx} {e : Expr} {te : TE} {pos : Pos} {f : Str} (he : PE X e te) (hb : attributeBase e f X.env (eval e X.env) = eval e X.env := by rfl) : PE X (.Attribute e f pos) (tXoF X.K f te) := by
  constructor
  intro pins s σ H Q I h
  refine attr_of hb (thn (he.run pins s σ H _ I h) fun u t r => ?_)
  obtain ⟨x, H1, J, rx, a, C, dd, fs, v, rfl, ea, ed, T, no, lk, q⟩ := r
  cases rx
  obtain ⟨oe, ws, ho, hz, hw⟩ := xo_take J.hok ea
  have x : ObjOk X.prog X.w H1 t.heap dd (.xd fs) := J.hok dd _ ed
  obtain ⟨mA, hn, hr⟩ := x
  obtain ⟨od, hd, look⟩ := lookIn_ns hn
  obtain ⟨y, hy, ry⟩ := RelO.some_of (v := v) (o := mA f) (by rw [← lk]; exact hr f)
  have at_ : PySem.W.InstAt t.heap a oe C (some od) := ⟨ho, hz.1, by unfold PySem.W.notCls; rw [hw] <;> trivial, by rw [hz.2]; exact hd⟩
  exact HandSPX.exc_get J.kIn at_ T.ga T.gg T.exC (PySem.W.findObj_own T.hdC no rfl (by rw [look, hy])) (handed_of ry) ⟨v, H1, J.tok _, ry, q⟩
end CS
set_option maxHeartbeats 4000000
/-! an own error class called by keywords alone -/
namespace PySem
end PySem
set_option maxHeartbeats 4000000
/-! own errors whose __init__ stores fields, as values; over ValueError or LookupError -/
namespace PySem
namespace CSE
open PySem.W PySem.Calls PyProof.Rows PySem.HandSPX
section
open Builtin Builtin.ObjectAttr
variable {prog : Program} {w : World} {A : Around} {E : Value → Shared → Prop} {R : Result → Shared → Prop} {hp : Heap} {g : Array GenState} {d : Drawn} {t : Nat} {os : OsState} {K : W.Frag} {B : String} {bm : List Value}
theorem taker_none {C : Addr} {nm : Str} (h : W.findIn K (.ref C) nm = some none) : W.takerIn K C nm = some none := by
  unfold W.takerIn
  rw [h]
  rfl
theorem first_store {nm : Str} {tk : Tok} {v : Value} {x C : Addr} {fv : Array Value} (SF : StoreFacts B bm "object.__setattr__" "object") (X : K.In hp) (hx : hp.get? x = some { cls := .ref C, data := .fields fv }) (over : W.excOver K C bm = true) (hh : W.hasDictIn K C = true) (no : W.findIn K (.ref C) nm = some none)
    (fin : ∀ h' tk' dx, (∀ b o, b ≠ x → hp.get? b = some o → h'.get? b = some o) → hp.objs.size ≤ dx → dx ≠ x → h'.get? x = some { cls := .ref C, dict := some dx, data := .fields fv } → h'.Ns1 dx (fun y => if y = nm then some v else none) → R (.ok (.ret .none)) ⟨h', g, d, tk', os⟩) :
    codeAny (model prog w) A (.call (.builtin "object.__setattr__") ⟨[.ref x, .str nm tk, v], []⟩) R ⟨hp, g, d, t, os⟩ := by
  have inst : W.InstAt hp x { cls := .ref C, data := .fields fv } C none := ⟨hx, rfl, rfl, trivial⟩
  refine W.osa_openX (s := ⟨hp, g, d, t, os⟩) SF X inst over (taker_none no) fun b => ?_
  obtain ⟨cd, hc, hd⟩ := any_some hh
  have known : W.Looks (model prog w) hp (classData C) cd := W.looks_clsIn X hc
  have far : x ≠ hp.objs.size := Nat.ne_of_lt (Heap.lt_size hx)
  show wpAny _ _ (storeInOwnDict (.ref x) (.ref C) (.str nm tk) nm v b) _ _ _
  obtain ⟨n1, n2, n3, n4, n5, has, n6, n7, n8, n9, n0⟩ := cd
  dsimp only at hd
  subst hd
  unfold storeInOwnDict ownDictForStores
  repeat (first | with_reducible refine HandSPX.store_in_new ?_ ?_ | with_reducible refine known.at ?_ | with_reducible refine wpAny_loadPart_at hx ?_ | wp_step)
  · exact ⟨_, #[], _, (Heap.get?_update_ne _ _ _ _ far.symm).trans (Heap.get?_push_at rfl rfl), rfl, fun e he => absurd he (by simp), fun _ => rfl⟩
  · intro h' tk' named same
    have here : (hp.push { cls := .type "dict", data := .dict #[] }).get? x = some { cls := .ref C, data := .fields fv } := Heap.get?_push_of_some _ hx
    refine fin h' tk' hp.objs.size (fun b o hb ho => ?_) (Nat.le_refl _) far.symm ((same.2 x far).trans (Heap.get?_update_self _ here rfl)) named
    have old : b ≠ hp.objs.size := Nat.ne_of_lt (Heap.lt_size ho)
    exact (same.2 b old).trans ((Heap.get?_update_ne _ _ _ _ hb).trans (Heap.get?_push_of_some _ ho))
theorem next_store {nm : Str} {tk : Tok} {v : Value} {x C dx : Addr} {fv : Array Value} {m0 : Str → Option Value} {nl : List Str} (SF : StoreFacts B bm "object.__setattr__" "object") (X : K.In hp) (hx : hp.get? x = some { cls := .ref C, dict := some dx, data := .fields fv }) (hn : hp.Ns1 dx m0) (hw : Within m0 nl) (hz : nl.length ≤ 1000)
    (over : W.excOver K C bm = true) (hh : W.hasDictIn K C = true) (no : W.findIn K (.ref C) nm = some none) (fin : ∀ h' tk', (∀ b o, b ≠ dx → hp.get? b = some o → h'.get? b = some o) → h'.Ns1 dx (fun y => if y = nm then some v else m0 y) → R (.ok (.ret .none)) ⟨h', g, d, tk', os⟩) :
    codeAny (model prog w) A (.call (.builtin "object.__setattr__") ⟨[.ref x, .str nm tk, v], []⟩) R ⟨hp, g, d, t, os⟩ := by
  obtain ⟨oD, _, _, hoD, _, _⟩ := hn.count hw
  have inst : W.InstAt hp x { cls := .ref C, dict := some dx, data := .fields fv } C (some oD) := ⟨hx, rfl, rfl, hoD⟩
  refine W.osa_openX (s := ⟨hp, g, d, t, os⟩) SF X inst over (taker_none no) fun b => ?_
  obtain ⟨cd, hc, hd⟩ := any_some hh
  have known : W.Looks (model prog w) hp (classData C) cd := W.looks_clsIn X hc
  show wpAny _ _ (storeInOwnDict (.ref x) (.ref C) (.str nm tk) nm v b) _ _ _
  obtain ⟨n1, n2, n3, n4, n5, has, n6, n7, n8, n9, n0⟩ := cd
  dsimp only at hd
  subst hd
  unfold storeInOwnDict ownDictForStores
  repeat (first | with_reducible refine PySem.OEX.store_in_old hn hw hz ?_ | with_reducible refine known.at ?_ | with_reducible refine wpAny_loadPart_at hx ?_ | wp_step)
  intro h' tk' named same
  exact fin h' tk' (fun b o hb ho => (same.2 b hb).trans ho) named
end
end CSE
end PySem
namespace CS
open PySem PySem.Spec PyProof.Rows L2
/-- what the written part says of an own error class whose __init__ stores fields -/
structure OxC (K : PySem.W.Frag) (C fI : Addr) : Prop where
  base : ∃ (B newId initId : String) (bm : List Value), ExcBaseFacts B newId initId bm ∧ StoreFacts B bm "object.__setattr__" "object" ∧ PySem.W.excOver K C bm = true ∧ ∃ nm q N bs sn sub ab col dd k0 k1 k2 k3 k5, K.lookup C = some (excClassObj nm q C N bs bm true sn sub ab col dd k0 k1 k2 k3 k5 newId)
  sa : PySem.W.findIn K (.ref C) "__setattr__" = some (some (.builtin "object.__setattr__"))
  hd : PySem.W.hasDictIn K C = true
  kC : PySem.W.keepIn K (.ref C) = true
  iC : PySem.W.findIn K (.ref C) "__init__" = some (some (.ref fI))
  tI : PySem.W.typeIn K (.ref fI) = some (.type "function")
section
variable {X : Cx} {pins : List (Addr × Obj)} {σ : L2.St} {H : Hp} {s : Shared} {a C fI dx : Addr} {f : Str} {y : V} {u : Value} {fs : List (Str × V)} {Q : Unit → Shared → Prop} {E : Value → Shared → Prop} {A : Around}
theorem ox_new (T : OxC X.K C fI) (I : Inv X pins σ H s) (e : H a = some (exo a C none)) (no : PySem.W.findIn X.K (.ref C) f = some none) (ry : RelV y u)
    (k : ∀ dx s', H dx = none → dx ≠ a → Inv X pins σ (upd (upd H dx (exd dx [(f, y)])) a (exo a C (some dx))) s' → Q () s') : wpAny (model X.prog X.w) A (setAttr (.ref a) f u) Q E s := by
  obtain ⟨B, newId, initId, bm, _, SF, over, _⟩ := T.base
  obtain ⟨t1, ho⟩ := exo_at I.hok e
  obtain ⟨hp, g, d, t, os⟩ := s
  refine PySem.W.set_plain I.kIn (ox := { cls := .ref C, dict := none, data := .fields #[.ref t1, .none, .none, .none, .bool false, .none] }) (od := none) ⟨ho, rfl, rfl, trivial⟩ T.sa ?_
  refine PySem.CSE.first_store SF I.kIn ho over T.hd no fun h' tk' dx keep beyond apart hx named => ?_
  have fresh : H dx = none := I.hok.fresh beyond
  have older : ∀ {b : Addr} {o : Obj}, hp.get? b = some o → b ≠ dx := fun {b o} z => Nat.ne_of_lt (Nat.lt_of_lt_of_le (Heap.lt_size z) beyond)
  have notA : ∀ {b : Addr}, H b = none → b ≠ a := fun {b} n z => by
    rw [z, e] at n
    cases n
  refine k dx _ fresh apart (I.un (t' := tk') ⟨fun b o z n _ _ => keep b o (notA n) z, fun b o z n _ _ => ⟨o.slots, keep b o (notA n) z⟩, fun b o z n _ => ?_, fun b o z _ => ?_, fun b xs z => ?_, fun b o v z => ?_, fun b ps z => ⟨#[], ?_⟩⟩ fun b o z => ?_)
  · rw [upd_ne (notA n), upd_ne (older z)]
    exact n
  · by_cases c : b = a
    · rw [c]
      exact ⟨_, hx⟩
    · exact ⟨o, keep b o c z⟩
  · rw [upd_ne (at_ne e z exo_tup), upd_ne (ne_of_none z fresh)]
    exact z
  · rw [upd_ne (at_ne e z exo_frz), upd_ne (ne_of_none z fresh)]
    exact z
  · rw [upd_ne (at_ne e z exo_tbl), upd_ne (ne_of_none z fresh), z]
    simp
  · by_cases c : b = a
    · subst c
      rw [upd_same] at z
      cases z
      exact exo_ok hx
    · rw [upd_ne c] at z
      by_cases c2 : b = dx
      · subst c2
        rw [upd_same] at z
        cases z
        exact exd_ok named (relO_put (fs := []) ry fun _ => True.intro)
      · rw [upd_ne c2] at z
        refine (I.hok b o z).stay (fun c3 v hc r => keep c3 v ?_ r) (fun c3 hc => ?_) fun c3 xs hc => ?_
        · rcases hc with hc | hc
          · rw [hc]
            exact c
          · exact at_ne e hc exo_own
        · rw [upd_ne (at_ne e hc exo_own), upd_ne (ne_of_none hc fresh)]
          exact hc
        · rw [upd_ne (at_ne e hc exo_tup), upd_ne (ne_of_none hc fresh)]
          exact hc
theorem ox_old (T : OxC X.K C fI) (I : Inv X pins σ H s) (e : H a = some (exo a C (some dx))) (ed : H dx = some (exd dx fs)) (hl : fs.length ≤ 900) (no : PySem.W.findIn X.K (.ref C) f = some none) (ry : RelV y u)
    (k : ∀ s', Inv X pins σ (upd H dx (exd dx ((f, y) :: fs))) s' → Q () s') : wpAny (model X.prog X.w) A (setAttr (.ref a) f u) Q E s := by
  obtain ⟨B, newId, initId, bm, _, SF, over, _⟩ := T.base
  obtain ⟨t1, ho⟩ := exo_at I.hok e
  obtain ⟨mA, named, rel⟩ := exd_at I.hok ed
  have inside := within_of rel
  obtain ⟨hp, g, d, t, os⟩ := s
  obtain ⟨oD, _, _, hoD, _, _⟩ := named.count inside
  refine PySem.W.set_plain I.kIn (ox := { cls := .ref C, dict := some dx, data := .fields #[.ref t1, .none, .none, .none, .bool false, .none] }) (od := some oD) ⟨ho, rfl, rfl, hoD⟩ T.sa ?_
  refine PySem.CSE.next_store SF I.kIn ho named inside (by rw [List.length_map]; omega) over T.hd no fun h' tk' keep named' => ?_
  have there : ∃ o, h'.get? dx = some o := by
    obtain ⟨o, _, _, z, _⟩ := named'
    exact ⟨o, z⟩
  exact k _ (I.write (t' := tk') (x := dx) (e := dx) (o := exd dx ((f, y) :: fs)) (by rw [ed]; exact True.intro) (.inl rfl) keep there (exd_ok named' (relO_put ry rel)))
/-- self.f = e -/
def tOx (K : PySem.W.Frag) (f : Str) (to te : TE) : TS := fun D σ H => te σ H fun y H1 => to σ H1 fun x H2 => ∃ a C fI : Addr, x = .ref a ∧ OxC K C fI ∧ PySem.W.findIn K (.ref C) f = some none ∧
  ((H2 a = some (exo a C none) ∧ ∀ dx, H2 dx = none → dx ≠ a → D.nx σ (upd (upd H2 dx (exd dx [(f, y)])) a (exo a C (some dx)))) ∨ ∃ (dx : Addr) (fs : List (Str × V)), H2 a = some (exo a C (some dx)) ∧ H2 dx = some (exd dx fs) ∧ fs.length ≤ 900 ∧ D.nx σ (upd H2 dx (exd dx ((f, y) :: fs))))
theorem ps_ox {o e : Expr} {to te : TE} {p' pos : Pos} (ho : PE X o to) (he : PE X e te) (hs : swapsWith e (some (.Attribute o f p')) pos.line X.env = pure false := by rfl) : PS X (.Assign [.Attribute o f p'] e pos) (tOx X.K f to te) := by
  constructor
  intro pins s σ H D I h
  refine plainObj_wpAny_Assign_Attribute (thn (he.run pins s σ H _ I h) (fun v t ⟨y, H1, J1, ry, q1⟩ => ?_)) hs
  refine thn (ho.run pins t σ H1 _ J1 q1) fun w t2 ⟨x, H2, J2, rx, a, C, fI, ex, T, no, way⟩ => ?_
  subst ex
  cases rx
  rcases way with ⟨ea, q⟩ | ⟨dx, fs, ea, ed, hl, q⟩
  · exact ox_new T J2 ea no ry fun dx t3 n ne J => ⟨σ, _, J, q dx n ne⟩
  · exact ox_old T J2 ea ed hl no ry fun t3 J => ⟨σ, _, J, q⟩
end
end CS
set_option maxHeartbeats 4000000
namespace CS
open PySem PySem.Spec PyProof.Rows L2
/-! ### C(e, ..), C(k = e, ..): an error as a value -/
end CS
namespace CS
open PySem PySem.Spec PySem.Calls PyProof.Rows
/-! ### sorted of a tuple -/
section
variable {prog : Program} {w : World} {A : Around} {E : Value → Shared → Prop} {s : Shared}
theorem gather_tup {q : Addr} {ws : List Value} {o : Obj} {n : Nat} {R : List Value → Shared → Prop} (e1 : s.heap.get? q = some o) (e2 : o.cls = .type "tuple") (e3 : o.data = .seq ws.toArray n) (hz : ws.length ≤ sizeLine)
    (k : R ws { s with heap := (s.heap.push (seqObj "list" #[] 0)).update s.heap.objs.size (Obj.mapSeq (· ++ ws.toArray)) }) : wpAny (model prog w) A (collect (.ref q)) R E s := by
  have f1 : (s.heap.push (seqObj "list" #[] 0)).get? q = some o := Heap.get?_push_of_some _ e1
  have f2 : (s.heap.push (seqObj "list" #[] 0)).get? s.heap.objs.size = some (seqObj "list" #[] 0) := Heap.get?_push_size _ rfl
  unfold collect
  refine wpAny_bind (wpAny_runValue (codeAny_builtin entry_proto_collect' ?_))
  show wpAny _ _ (newList [] >>= fun l => PySem.again (.builtin "list.__iadd__" ⟨[l, .ref q], []⟩)) _ _ s
  refine wpAny_bind (wpAny_newList ?_)
  refine wpAny_pure ⟨Code.quiet_builtin _ (by decide +kernel), codeAny_builtin entry_list_iadd' ?_⟩
  show wpAny _ _ (Builtin.List.listExtendWith (.ref s.heap.objs.size) (.ref q) (.ref s.heap.objs.size)) _ _ { s with heap := s.heap.push (seqObj "list" #[] 0) }
  unfold Builtin.List.listExtendWith
  refine wpAny_bind (wpAny_typeOf (T := "tuple") ⟨o, f1, e2⟩ ?_)
  have tt : (Value.type "tuple" == Value.type "tuple") = true := by rfl
  rw [if_pos (by rw [tt]; simp)]
  refine wpAny_bind (listItems_at f1 e3 ?_)
  refine wpAny_bind (listItems_at (xs := #[]) (n := 0) f2 rfl ?_)
  rw [if_neg (by simp)]
  refine wpAny_bind (listUpdate_at (xs := #[]) (n := 0) f2 rfl ?_ (Nat.zero_le _) ?_)
  · refine wpAny_pure ?_
    refine wpAny_bind (wpAny_load (get?_update_seq f2 _) ?_)
    show wpAny _ _ (pure ((#[] : Array Value) ++ ws.toArray).toList) R E _
    have e : ((#[] : Array Value) ++ ws.toArray).toList = ws := by simp
    rw [e]
    exact wpAny_pure k
  · show (#[] ++ ws.toArray).size ≤ sizeLine + 1
    simp only [Array.size_append, List.size_toArray, List.length_nil]
    omega
theorem sorted_tup_by {q : Addr} {ws : List Value} {o : Obj} {n : Nat} {R : Value → Shared → Prop} (e1 : s.heap.get? q = some o) (e2 : o.cls = .type "tuple") (e3 : o.data = .seq ws.toArray n) (hz : ws.length ≤ sizeLine)
    (inner : ∀ E' : Value → Shared → Prop, wpAny (model prog w) A.in1.in1 (Builtin.«list.sort» ⟨[.ref (s.heap.objs.size + 1)], []⟩) (fun f s' => f = .done (.ret .none) ∧ R (.ref (s.heap.objs.size + 1)) s') E' { s with heap := PySem.W.copyHeap s.heap ws }) :
    wpAny (model prog w) A (call (.builtin "sorted") [.ref q]) R E s := by
  refine call_function_entry kind_sorted plain_sorted entry_sorted (args_sorted1 _) ?_
  unfold Builtin.«sorted»
  refine wpAny_bind (m := checkCount "sorted" 1 1 _) (wpAny_pure ?_)
  refine wpAny_bind (gather_tup e1 e2 e3 hz ?_)
  refine wpAny_bind (wpAny_newList ?_ hz)
  have sz : ((s.heap.push (seqObj "list" #[] 0)).update s.heap.objs.size (Obj.mapSeq (· ++ ws.toArray))).objs.size = s.heap.objs.size + 1 := by
    rw [Heap.size_update, size_push']
  show wpAny _ _ _ _ _ { s with heap := PySem.W.copyHeap s.heap ws }
  rw [sz]
  refine wpAny_bind (wpAny_holding (wpAny_call_entry slot_list_sort ⟨_, PySem.W.copyHeap_at s.heap ws, rfl⟩ entry_list_sort ?g (args_list_sort _)))
  case g =>
    show wpAny (model prog w) A.in1.in1 (Builtin.«list.sort» ⟨[.ref (s.heap.objs.size + 1)], []⟩) _ _ _
    refine wpAny_mono (inner _) (fun f s' hf => ?_) fun _ _ e => e
    obtain ⟨rfl, hq⟩ := hf
    exact ⟨_, rfl, wpAny_pure ⟨_, rfl, hq⟩⟩
theorem sorted_tup_data {β : Type} {q : Addr} {ws : List Value} {o : Obj} {n : Nat} {bs : List β} {enc : β → PyData} {T : Value → β → Prop} {R : Value → Shared → Prop} (e1 : s.heap.get? q = some o) (e2 : o.cls = .type "tuple") (e3 : o.data = .seq ws.toArray n)
    (e : PySem.W.EachIs T ws bs) (er : PySem.W.EachIs (fun v b => ∃ as, Reads s.heap v (enc b) as) ws bs) (hal : PySem.W.AllAlike (bs.map enc)) (hk : PySem.W.Sortable (bs.map enc)) (hL : bs.length ≤ sizeLine) (hu : ∀ b, b ∈ bs → A.units + 2 + (enc b).depth < cLine)
    (k : ∀ out, out.length = bs.length → PySem.W.EachIs T out (bs.mergeSort (PySem.W.dataLe false enc)) → R (.ref (s.heap.objs.size + 1)) { s with heap := sortedAll s.heap ws (List.toArray out) }) :
    wpAny (model prog w) A (call (.builtin "sorted") [.ref q]) R E s := by
  have hL2 : ws.length ≤ sizeLine := by
    rw [e.length]
    exact hL
  have er2 : PySem.W.EachIs (fun v b => ∃ as, Reads (PySem.W.sortingHeap (PySem.W.copyHeap s.heap ws) (s.heap.objs.size + 1) ws) v (enc b) as) ws bs := er.mono fun _ _ h => by
    obtain ⟨as, r⟩ := h
    exact ⟨as, PyProof.Rows.Reads.keeps (fun _ _ => PySem.W.sorting_copy_old) r⟩
  have S := PySem.W.SortsAt.data (prog := prog) (w := w) (A := A.in1.in1) (s := { s with heap := PySem.W.sortingHeap (PySem.W.copyHeap s.heap ws) (s.heap.objs.size + 1) ws }) (PySem.W.each_map (R := fun v d => ∃ as, Reads (PySem.W.sortingHeap (PySem.W.copyHeap s.heap ws) (s.heap.objs.size + 1) ws) v d as) enc er2) hal hk (PySem.W.bound_map hu)
  refine sorted_tup_by e1 e2 e3 hL2 fun E' => ?_
  refine PySem.W.list_sort_vals (s := { s with heap := PySem.W.copyHeap s.heap ws }) (PySem.W.copyHeap_at s.heap ws) S hL2 ⟨rfl, ?_⟩
  exact k _ (by rw [PySem.W.sortVals_length false rfl]; exact e.length) (PySem.W.sortVals_data false e er2 hal)
end
end CS
namespace CS
open PySem PySem.Spec PyProof.Rows L2
/-! ### sorted of a list of data -/
def ordD (z y : V × PyData) : Bool := PySem.W.dataLe false (fun b : V × PyData => b.2) z y
def rSortedD (K : PySem.W.Frag) : List V → Hp → VK → Prop := fun vs H Q => ∃ (a : Addr) (zs : List (V × PyData)), vs = [V.ref a] ∧ (SqL K H a (zs.map Prod.fst) ∨ SqT K H a (zs.map Prod.fst)) ∧ (∀ z ∈ zs, Dp K H z.1 z.2) ∧ PySem.W.AllAlike (zs.map Prod.snd) ∧ PySem.W.Sortable (zs.map Prod.snd) ∧ (∀ z ∈ zs, z.2.depth ≤ 60) ∧
  ∀ p, H p = none → Q (.ref p) (upd H p (.lst ((zs.mergeSort ordD).map Prod.fst)))
theorem each_of_vals {α β : Type} {R : Value → α → Prop} (f : α → V) (hR : ∀ b u, RelV (f b) u → R u b) : ∀ {bs : List α} {us : List Value}, Vals (bs.map f) us → PySem.W.EachIs R us bs
  | [], [], .nil => .nil
  | b :: bs, u :: us, .cons h t => .cons (hR b u h) (each_of_vals (β := β) f hR t)
theorem vals_of_each {α : Type} (f : α → V) : ∀ {bs : List α} {us : List Value}, PySem.W.EachIs (fun u b => RelV (f b) u) us bs → Vals (bs.map f) us
  | [], [], .nil => .nil
  | _ :: _, _ :: _, .cons h t => .cons h (vals_of_each f t)
section
variable {X : Cx}
theorem cr_sortedDt (hu : X.A.units + 64 < cLine) : CallR X (.builtin "sorted") (rSortedD X.K) := by
  intro pins s σ H vs us Q I r h
  obtain ⟨a, zs, rfl, hs, hd, hal, hso, hdp, q⟩ := h
  obtain ⟨u, rfl, ru⟩ := vals1 r
  obtain rfl : u = Value.ref a := ru
  have each : ∀ its : List Value, Vals (zs.map Prod.fst) its → PySem.W.EachIs (fun u (b : V × PyData) => RelV b.1 u) its zs ∧ PySem.W.EachIs (fun u (b : V × PyData) => ∃ as, Reads s.heap u b.2 as) its zs := by
    intro its rv
    have e1 : PySem.W.EachIs (fun u (b : V × PyData) => RelV b.1 u) its zs := each_of_vals (β := Unit) Prod.fst (fun b u h => h) rv
    have aux : ∀ (zs : List (V × PyData)) (its : List Value), (∀ z ∈ zs, Dp X.K H z.1 z.2) → PySem.W.EachIs (fun u (b : V × PyData) => RelV b.1 u) its zs → PySem.W.EachIs (fun u (b : V × PyData) => ∃ as, Reads s.heap u b.2 as) its zs := by
      intro zs
      induction zs with
      | nil =>
        intro its _ e
        cases e
        exact .nil
      | cons z zs ih =>
        intro its hd e
        cases e with
        | cons h t => exact .cons (Dp.reads I _ _ _ (hd z (List.mem_cons_self ..)) h) (ih _ (fun y hy => hd y (List.mem_cons_of_mem _ hy)) t)
    exact ⟨e1, aux zs its hd e1⟩
  have fin : ∀ its out : List Value, zs.length ≤ sizeLine → PySem.W.EachIs (fun u (b : V × PyData) => RelV b.1 u) out (zs.mergeSort (PySem.W.dataLe false fun b : V × PyData => b.2)) → EP X pins σ Q (.ref (s.heap.objs.size + 1)) { s with heap := sortedAll s.heap its (List.toArray out) } := by
    intro its out hL eo
    obtain ⟨n, hn⟩ := sortedAll_at s.heap its (List.toArray out)
    have nf : H (s.heap.objs.size + 1) = none := I.hok.fresh (Nat.le_succ _)
    have hv : Vals ((zs.mergeSort ordD).map Prod.fst) out := vals_of_each Prod.fst eo
    refine ⟨.ref (s.heap.objs.size + 1), upd H (s.heap.objs.size + 1) (.lst ((zs.mergeSort ordD).map Prod.fst)), I.laid (t' := s.toks) (fun b o e => sortedAll_old e) (Nat.le_succ _) ⟨?_, out, n, hv, hn⟩, rfl, q _ nf⟩
    rw [List.length_map, List.length_mergeSort]
    exact hL
  rcases hs with hs | hs
  · obtain ⟨its, rv, hl, hz⟩ := I.list hs
    obtain ⟨e1, e2⟩ := each its rv
    have hL : zs.length ≤ sizeLine := by
      rw [← e1.length, ← rv.length]
      exact hz
    refine PySem.W.sorted_data (enc := fun b : V × PyData => b.2) hl.isList e1 e2 hal hso hL (fun b hb => ?_) fun out ho eo => fin its out hL eo
    have := hdp b hb
    omega
  · obtain ⟨its, rv, pl, hz⟩ := I.tuple hs
    obtain ⟨e1, e2⟩ := each its rv
    obtain ⟨o, g1, g2, n, g3⟩ := pl
    have hL : zs.length ≤ sizeLine := by
      rw [← e1.length, ← rv.length]
      exact hz
    refine sorted_tup_data (enc := fun b : V × PyData => b.2) g1 g2 g3 e1 e2 hal hso hL (fun b hb => ?_) fun out ho eo => fin its out hL eo
    have := hdp b hb
    omega
end
/-! ### pairs of texts -/
def tx (p : Str × Str) : PyData := .tuple [.str p.1, .str p.2]
theorem tx_alike (l : List (Str × Str)) : PySem.W.AllAlike (l.map tx) := PySem.W.AllAlike.of fun b b' => by
  simp [tx, PySem.W.alike, PySem.W.alikeAll]
theorem tx_sortable (l : List (Str × Str)) : PySem.W.Sortable (l.map tx) := PySem.W.Sortable.tuples fun b => ⟨_, _, rfl⟩
def leP (p q : Str × Str) : Bool := PySem.W.dataLe false tx p q
theorem leP_total : PySem.W.TotalLe leP := PySem.W.sortLe_total (listOrd itemOrd) false fun b => PySem.W.keyToks (tx b)
theorem eqv_str (a b : Str) : PyData.eqv (.str a) (.str b) = decide (a = b) := by
  simp only [PyData.eqv]
  exact Bool.beq_eq_decide_eq a b
theorem lt_str_anti {a b : Str} (h1 : PySem.W.dataLt (.str a) (.str b) = false) (h2 : PySem.W.dataLt (.str b) (.str a) = false) : a = b := by
  rw [PySem.W.dataLt_str, decide_eq_false_iff_not] at h1 h2
  exact PySem.W.str_of_cps (List.le_antisymm (List.not_lt.mp h2) (List.not_lt.mp h1))
theorem leP_anti {p q : Str × Str} (h1 : leP p q = true) (h2 : leP q p = true) : p = q := by
  obtain ⟨a, b⟩ := p
  obtain ⟨c, d⟩ := q
  have g1 : PySem.W.dataLt (tx (c, d)) (tx (a, b)) = false := by
    have : (!PySem.W.dataLt (tx (c, d)) (tx (a, b))) = true := h1
    simpa using this
  have g2 : PySem.W.dataLt (tx (a, b)) (tx (c, d)) = false := by
    have : (!PySem.W.dataLt (tx (a, b)) (tx (c, d))) = true := h2
    simpa using this
  have al : ∀ x y : Str, PySem.W.alike (.str x) (.str y) = true := fun x y => by simp [PySem.W.alike]
  unfold tx at g1 g2
  rw [PySem.W.dataLt_pair (al _ _) (al _ _), eqv_str, eqv_str] at g1 g2
  by_cases e1 : a = c
  · subst e1
    rw [if_pos (decide_eq_true rfl)] at g1 g2
    by_cases e2 : b = d
    · rw [e2]
    · rw [if_neg (by simpa using fun z => e2 z.symm)] at g1
      rw [if_neg (by simpa using e2)] at g2
      exact absurd (lt_str_anti g2 g1) e2
  · rw [if_neg (by simpa using fun z => e1 z.symm)] at g1
    rw [if_neg (by simpa using e1)] at g2
    exact absurd (lt_str_anti g2 g1) e1
end CS
namespace RM
open PySem PySem.Spec PyProof.Rows L2 CS RZ
/-! ### values as data: dicts, objects, errors and the box of draws are marked dicts -/
abbrev D := PyData
def boxD : D := .dict [(.none, .none)]
def dK (kvs : List (D × D)) : D := .dict ((.none, .bool false) :: kvs)
def dT (kvs : List (D × D)) : D := .dict ((.none, .bool true) :: kvs)
def obj (c : Nat) (fs : List (D × D)) : D := .dict ((.none, .int (c : Nat)) :: fs)
def exc (c : Nat) (fs : List (D × D)) : D := .dict ((.none, .list [.int (c : Nat)]) :: fs)
def kD : L2.Key → D
  | .inl i => .int i
  | .inr s => .str s
/-- the program's classes, by number; the box -/
structure Tab where
  K : PySem.W.Frag
  cls : Nat → Addr
  bx : Option Addr
/-- a tuple's place: one that is not empty stands in the heap -/
def TpH (T : Tab) (H : Hp) (a : Addr) (xs : List V) : Prop := SqT T.K H a xs ∧ (xs ≠ [] → H a = some (.tup xs))
theorem tph_in {T : Tab} {H : Hp} {a : Addr} {xs : List V} (h : H a = some (.tup xs)) : TpH T H a xs := ⟨.inl (.inl h), fun _ => h⟩
mutual
inductive Is (T : Tab) (H : Hp) : V → D → Prop
  | non : Is T H .non .none
  | bl (b : Bool) : Is T H (.bl b) (.bool b)
  | int (i : Int) : Is T H (.int i) (.int i)
  | str (x : Str) : Is T H (.str x) (.str x)
  | lst {a : Addr} {xs : List V} {ds : List D} : H a = some (.lst xs) → IsL T H xs ds → Is T H (.ref a) (.list ds)
  | tup {a : Addr} {xs : List V} {ds : List D} : TpH T H a xs → IsL T H xs ds → Is T H (.ref a) (.tuple ds)
  | box {a : Addr} : T.bx = some a → Is T H (.ref a) (.dict [(.none, .none)])
  | dk {a : Addr} {kvs : List (L2.Key × V)} {ks : List (D × D)} : Rd H a (.dK kvs) → IsK T H kvs ks → Is T H (.ref a) (.dict ((.none, .bool false) :: ks))
  | dt {a : Addr} {kvs : List (List L2.Key × V)} {ks : List (D × D)} : Rd H a (.dT kvs) → IsT T H kvs ks → Is T H (.ref a) (.dict ((.none, .bool true) :: ks))
  | obj {a dx : Addr} {c : Nat} {us : List (Str × V)} {fs : List (D × D)} : H a = some (.ins (T.cls c) dx us) → H dx = some (.own a) → IsF T H us fs → Is T H (.ref a) (.dict ((.none, .int (c : Nat)) :: fs))
  | exc {a dd : Addr} {c : Nat} {us : List (Str × V)} {fs : List (D × D)} : H a = some (XO (.ref (T.cls c)) (some dd) a) → H dd = some (.xd us) → IsF T H us fs → Is T H (.ref a) (.dict ((.none, .list [.int (c : Nat)]) :: fs))
  | exn {a : Addr} {c : Nat} : H a = some (XO (.ref (T.cls c)) none a) → Is T H (.ref a) (.dict ((.none, .list [.int (c : Nat)]) :: []))
inductive IsL (T : Tab) (H : Hp) : List V → List D → Prop
  | nil : IsL T H [] []
  | cons {v : V} {vs : List V} {d : D} {ds : List D} : Is T H v d → IsL T H vs ds → IsL T H (v :: vs) (d :: ds)
inductive IsK (T : Tab) (H : Hp) : List (L2.Key × V) → List (D × D) → Prop
  | nil : IsK T H [] []
  | cons {k : L2.Key} {v : V} {vs : List (L2.Key × V)} {d : D} {ds : List (D × D)} : Is T H v d → IsK T H vs ds → IsK T H ((k, v) :: vs) ((kD k, d) :: ds)
inductive IsT (T : Tab) (H : Hp) : List (List L2.Key × V) → List (D × D) → Prop
  | nil : IsT T H [] []
  | cons {k : List L2.Key} {v : V} {vs : List (List L2.Key × V)} {d : D} {ds : List (D × D)} : Is T H v d → IsT T H vs ds → IsT T H ((k, v) :: vs) ((.tuple (k.map kD), d) :: ds)
inductive IsF (T : Tab) (H : Hp) : List (Str × V) → List (D × D) → Prop
  | nil : IsF T H [] []
  | cons {f : Str} {v : V} {vs : List (Str × V)} {d : D} {ds : List (D × D)} : Is T H v d → IsF T H vs ds → IsF T H ((f, v) :: vs) ((.str f, d) :: ds)
end
section
variable {T : Tab} {H H' : Hp}
theorem rd_same {a : Addr} {u : HO} (s : Same H H') (h : Rd H a u) : Rd H' a u := by
  rcases h with h | ⟨o, h⟩
  · exact .inl (s _ _ h)
  · exact .inr ⟨o, s _ _ h⟩
theorem sqt_same {K : PySem.W.Frag} {a : Addr} {xs : List V} (e : Same H H') (h : SqT K H a xs) : SqT K H' a xs := by
  rcases h with h | h
  · exact .inl (rd_same e h)
  · exact .inr h
mutual
theorem Is.same (s : Same H H') : ∀ {v : V} {d : D}, Is T H v d → Is T H' v d
  | _, _, .non => .non
  | _, _, .bl b => .bl b
  | _, _, .int i => .int i
  | _, _, .str x => .str x
  | _, _, .lst h r => .lst (s _ _ h) (IsL.same s r)
  | _, _, .tup h r => .tup ⟨sqt_same s h.1, fun n => s _ _ (h.2 n)⟩ (IsL.same s r)
  | _, _, .box h => .box h
  | _, _, .dk h r => .dk (rd_same s h) (IsK.same s r)
  | _, _, .dt h r => .dt (rd_same s h) (IsT.same s r)
  | _, _, .obj h1 h2 r => .obj (s _ _ h1) (s _ _ h2) (IsF.same s r)
  | _, _, .exc h1 h2 r => .exc (s _ _ h1) (s _ _ h2) (IsF.same s r)
  | _, _, .exn h => .exn (s _ _ h)
theorem IsL.same (s : Same H H') : ∀ {v : List V} {d : List D}, IsL T H v d → IsL T H' v d
  | _, _, .nil => .nil
  | _, _, .cons h r => .cons (Is.same s h) (IsL.same s r)
theorem IsK.same (s : Same H H') : ∀ {v : List (L2.Key × V)} {d : List (D × D)}, IsK T H v d → IsK T H' v d
  | _, _, .nil => .nil
  | _, _, .cons h r => .cons (Is.same s h) (IsK.same s r)
theorem IsT.same (s : Same H H') : ∀ {v : List (List L2.Key × V)} {d : List (D × D)}, IsT T H v d → IsT T H' v d
  | _, _, .nil => .nil
  | _, _, .cons h r => .cons (Is.same s h) (IsT.same s r)
theorem IsF.same (s : Same H H') : ∀ {v : List (Str × V)} {d : List (D × D)}, IsF T H v d → IsF T H' v d
  | _, _, .nil => .nil
  | _, _, .cons h r => .cons (Is.same s h) (IsF.same s r)
end
/-! data without marked dicts -/
mutual
def plain : D → Bool
  | .list ds => plains ds
  | .tuple ds => plains ds
  | .dict _ => false
  | _ => true
def plains : List D → Bool
  | [] => true
  | d :: ds => plain d && plains ds
end
mutual
theorem Is.dp : ∀ {v : V} {d : D}, Is T H v d → plain d = true → Dp T.K H v d
  | _, _, .non, _ => .non
  | _, _, .bl b, _ => .bl b
  | _, _, .int i, _ => .int i
  | _, _, .str x, _ => .str x
  | _, _, .lst h r, p => .lst (SqL.of h) (IsL.dp r p)
  | _, _, .tup h r, p => .tup h.1 (IsL.dp r p)
  | _, _, .box _, p => by cases p
  | _, _, .dk _ _, p => by cases p
  | _, _, .dt _ _, p => by cases p
  | _, _, .obj _ _ _, p => by cases p
  | _, _, .exc _ _ _, p => by cases p
  | _, _, .exn _, p => by cases p
theorem IsL.dp : ∀ {v : List V} {d : List D}, IsL T H v d → plains d = true → DpAll T.K H v d
  | _, _, .nil, _ => .nil
  | _, _, .cons h r, p => .cons (Is.dp h (Bool.and_eq_true_iff.mp p).1) (IsL.dp r (Bool.and_eq_true_iff.mp p).2)
end
theorem IsL.length : ∀ {v : List V} {d : List D}, IsL T H v d → v.length = d.length
  | _, _, .nil => rfl
  | _, _, .cons _ r => by rw [List.length_cons, List.length_cons, r.length]
theorem IsL.get : ∀ {v : List V} {d : List D}, IsL T H v d → ∀ {i : Nat} {x : D}, d[i]? = some x → ∃ y, v[i]? = some y ∧ Is T H y x
  | _, _, .nil, _, _, e => by cases e
  | _, _, .cons h r, 0, _, e => by cases e; exact ⟨_, rfl, h⟩
  | _, _, .cons h r, i + 1, x, e => by
    obtain ⟨y, e1, e2⟩ := r.get (i := i) (x := x) e
    exact ⟨y, e1, e2⟩
theorem IsL.append : ∀ {v w : List V} {d e : List D}, IsL T H v d → IsL T H w e → IsL T H (v ++ w) (d ++ e)
  | _, _, _, _, .nil, s => s
  | _, _, _, _, .cons h r, s => .cons h (r.append s)
theorem IsL.take : ∀ {v : List V} {d : List D} (n : Nat), IsL T H v d → IsL T H (v.take n) (d.take n)
  | _, _, 0, _ => .nil
  | _, _, _ + 1, .nil => .nil
  | _, _, n + 1, .cons h r => .cons h (r.take n)
theorem IsL.drop : ∀ {v : List V} {d : List D} (n : Nat), IsL T H v d → IsL T H (v.drop n) (d.drop n)
  | _, _, 0, r => r
  | _, _, _ + 1, .nil => .nil
  | _, _, n + 1, .cons _ r => r.drop n
theorem IsL.set {x : V} {y : D} (hx : Is T H x y) : ∀ {v : List V} {d : List D} (n : Nat), IsL T H v d → IsL T H (v.set n x) (d.set n y)
  | _, _, _, .nil => .nil
  | _, _, 0, .cons _ t => .cons hx t
  | _, _, i + 1, .cons q t => .cons q (IsL.set hx i t)
theorem IsL.eraseIdx : ∀ {v : List V} {d : List D} (n : Nat), IsL T H v d → IsL T H (v.eraseIdx n) (d.eraseIdx n)
  | _, _, _, .nil => .nil
  | _, _, 0, .cons _ t => t
  | _, _, i + 1, .cons q t => .cons q (IsL.eraseIdx i t)
theorem IsL.reverse : ∀ {v : List V} {d : List D}, IsL T H v d → IsL T H v.reverse d.reverse
  | _, _, .nil => .nil
  | _, _, .cons h r => by
    rw [List.reverse_cons, List.reverse_cons]
    exact (IsL.reverse r).append (.cons h .nil)
end
end RM
namespace RM
open PySem PySem.Spec PyProof.Rows L2 CS RZ
/-- the box of draws at b: what is left of the number, the seed, how often it was asked -/
def BoxAt (H : Hp) (b : Addr) (n : Nat) : Prop := ∃ A B C : Int, H b = some (.lst [.int A, .int B, .int C]) ∧ 0 ≤ A ∧ 0 ≤ B ∧ B < 2 ^ 62 ∧ 0 ≤ C ∧ C ≤ n
/-- a def's activation: the classes and the box, the addresses hidden from its values, the heap at its entry -/
structure Ctx where
  T : Tab
  Z : Addr → Prop
  H0 : Hp
  slf : Option Addr := none
  B : Hp := fun _ => none
/-- a marked object -/
def isObjD : D → Bool
  | .dict ((.none, .int _) :: _) => true
  | _ => false
/-- a slot: a value, or a list, a dict, an object that this frame alone knows -/
inductive Sl where
  | v (d : D)
  | own (d : D)
abbrev En := List (Option Sl)
abbrev Ow := Nat → Option Addr
def now : Ow := fun _ => none
open Classical in
noncomputable def hid (C : Ctx) (O : Ow) (H : Hp) : Hp := fun a => if C.Z a ∨ ∃ i, O i = some a then none else H a
inductive OwnAt (T : Tab) (Hh H : Hp) (p : Addr) : D → Prop
  | lst {xs : List V} {ds : List D} : H p = some (.lst xs) → IsL T Hh xs ds → OwnAt T Hh H p (.list ds)
  | dk {kvs : List (L2.Key × V)} {ks : List (D × D)} : H p = some (.dK kvs) → IsK T Hh kvs ks → OwnAt T Hh H p (.dict ((.none, .bool false) :: ks))
  | dt {kvs : List (List L2.Key × V)} {ks : List (D × D)} : H p = some (.dT kvs) → IsT T Hh kvs ks → OwnAt T Hh H p (.dict ((.none, .bool true) :: ks))
  | obj {dx : Addr} {c : Nat} {us : List (Str × V)} {fs : List (D × D)} : H p = some (.ins (T.cls c) dx us) → Hh dx = some (.own p) → IsF T Hh us fs → OwnAt T Hh H p (.dict ((.none, .int (c : Nat)) :: fs))
theorem OwnAt.some {T : Tab} {Hh H : Hp} {p : Addr} {d : D} (h : OwnAt T Hh H p d) : ∃ o, H p = some o := by
  cases h with
  | lst h _ => exact ⟨_, h⟩
  | dk h _ => exact ⟨_, h⟩
  | dt h _ => exact ⟨_, h⟩
  | obj h _ _ => exact ⟨_, h⟩
theorem OwnAt.same {T : Tab} {Hh H Hh' H' : Hp} {p : Addr} {d : D} (h : OwnAt T Hh H p d) (s : Same Hh Hh') (e : H' p = H p) : OwnAt T Hh' H' p d := by
  cases h with
  | lst h r => exact .lst (e.trans h) (r.same s)
  | dk h r => exact .dk (e.trans h) (r.same s)
  | dt h r => exact .dt (e.trans h) (r.same s)
  | obj h h2 r => exact .obj (e.trans h) (s _ _ h2) (r.same s)
theorem OwnAt.notup {T : Tab} {Hh H : Hp} {p : Addr} {d : D} (h : OwnAt T Hh H p d) (xs : List V) : H p ≠ Option.some (HO.tup xs) := fun z => by
  cases h with
  | lst h _ => rw [h] at z; cases z
  | dk h _ => rw [h] at z; cases z
  | dt h _ => rw [h] at z; cases z
  | obj h _ _ => rw [h] at z; cases z
structure Ev (C : Ctx) (ρ : En) (n : Nat) (σ : L2.St) (H : Hp) (O : Ow) : Prop where
  len : ρ.length = σ.length
  val : ∀ (i : Nat) (d : D), ρ[i]? = some (some (Sl.v d)) → ∃ v, σ[i]? = some (some v) ∧ Is C.T (hid C O H) v d
  own : ∀ (i : Nat) (d : D), ρ[i]? = some (some (Sl.own d)) → ∃ p, O i = some p ∧ σ[i]? = some (some (.ref p)) ∧ OwnAt C.T (hid C O H) H p d
  only : ∀ (i : Nat) (p : Addr), O i = some p → (∃ d, ρ[i]? = some (some (Sl.own d))) ∧ C.H0 p = none
  inj : ∀ (i j : Nat) (p : Addr), O i = some p → O j = some p → i = j
  zs : ∀ a, C.Z a → ∃ o, C.H0 a = some o
  zt : ∀ a xs, C.Z a → C.H0 a ≠ some (.tup xs)
  keep : ∀ a o, C.H0 a = some o → C.T.bx ≠ some a → H a = some o
  box : ∀ b, C.T.bx = some b → C.Z b ∧ BoxAt H b n
  slf : ∀ (p : Addr), C.slf = some p → ∀ (i : Nat) (q : Addr) (d : D), O i = some q → ρ[i]? = some (some (Sl.own d)) → isObjD d = true → q = p
  vis : Same C.B (hid C O H)
section
variable {C : Ctx} {ρ : En} {n : Nat} {σ : L2.St} {H H' : Hp} {O : Ow}
theorem hid_some {a : Addr} {o : HO} (h : hid C O H a = some o) : H a = some o ∧ ¬ C.Z a ∧ ∀ i, O i ≠ some a := by
  unfold hid at h
  split at h
  · cases h
  · rename_i q
    exact ⟨h, fun z => q (.inl z), fun i z => q (.inr ⟨i, z⟩)⟩
theorem hid_of {a : Addr} {o : HO} (h : H a = some o) (z : ¬ C.Z a) (q : ∀ i, O i ≠ some a) : hid C O H a = some o := by
  unfold hid
  rw [if_neg]
  · exact h
  · rintro (w | ⟨i, w⟩)
    · exact z w
    · exact q i w
theorem hid_le : Same (hid C O H) H := fun a o h => (hid_some h).1
theorem hid_same (s : Same H H') : Same (hid C O H) (hid C O H') := fun a o h => by
  obtain ⟨h1, h2, h3⟩ := hid_some h
  exact hid_of (s _ _ h1) h2 h3
/-- all but the box is kept -/
def Kb (T : Tab) (H H' : Hp) : Prop := ∀ a o, H a = some o → T.bx ≠ some a → H' a = some o
theorem Kb.of_same {T : Tab} (s : Same H H') : Kb T H H' := fun a o h _ => s a o h
theorem Kb.refl {T : Tab} : Kb T H H := fun a o h _ => h
theorem Kb.trans {T : Tab} {H1 H2 H3 : Hp} (a : Kb T H1 H2) (b : Kb T H2 H3) : Kb T H1 H3 := fun x o h n => b x o (a x o h n) n
theorem Ev.nbx (E : Ev C ρ n σ H O) {i : Nat} {p : Addr} (h : O i = some p) : C.T.bx ≠ some p := fun z => by
  have h1 := (E.only i p h).2
  obtain ⟨o, h2⟩ := E.zs p (E.box p z).1
  rw [h1] at h2
  cases h2
theorem Ev.hidKb (E : Ev C ρ n σ H O) (s : Kb C.T H H') : Same (hid C O H) (hid C O H') := fun a o h => by
  obtain ⟨h1, h2, h3⟩ := hid_some h
  exact hid_of (s _ _ h1 fun z => h2 (E.box a z).1) h2 h3
theorem Ev.extB {n' : Nat} (E : Ev C ρ n σ H O) (s : Kb C.T H H') (hb : ∀ b, C.T.bx = some b → BoxAt H' b n') : Ev C ρ n' σ H' O where
  len := E.len
  val := fun i d e => let ⟨v, h1, h2⟩ := E.val i d e; ⟨v, h1, h2.same (E.hidKb s)⟩
  own := fun i d e => by
    obtain ⟨p, h1, h2, h3⟩ := E.own i d e
    obtain ⟨o, ho⟩ := h3.some
    exact ⟨p, h1, h2, h3.same (E.hidKb s) ((s _ _ ho (E.nbx h1)).trans ho.symm)⟩
  only := E.only
  inj := E.inj
  zs := E.zs
  zt := E.zt
  keep := fun a o h z => s _ _ (E.keep a o h z) z
  box := fun b h => ⟨(E.box b h).1, hb b h⟩
  slf := E.slf
  vis := E.vis.trans (E.hidKb s)
theorem BoxAt.same {b : Addr} (h : BoxAt H b n) (s : Same H H') : BoxAt H' b n := let ⟨A, B, C, e, r⟩ := h; ⟨A, B, C, s _ _ e, r⟩
theorem Ev.ext (E : Ev C ρ n σ H O) (s : Same H H') : Ev C ρ n σ H' O := E.extB (Kb.of_same s) fun b h => (E.box b h).2.same s
/-- a new address is nobody's -/
theorem Ev.fresh (E : Ev C ρ n σ H O) {p : Addr} (h : H p = none) : ¬ C.Z p ∧ (∀ i, O i ≠ some p) ∧ C.H0 p = none ∧ C.T.bx ≠ some p := by
  have h3 : C.T.bx ≠ some p := fun z => by
    obtain ⟨_, A, B, D, e, _⟩ := E.box p z
    rw [h] at e
    cases e
  have h4 : C.H0 p = none := by
    cases q : C.H0 p with
    | none => rfl
    | some o =>
      have := E.keep p o q h3
      rw [h] at this
      cases this
  refine ⟨fun z => ?_, fun i z => ?_, h4, h3⟩
  · obtain ⟨o, e⟩ := E.zs p z
    rw [h4] at e
    cases e
  · obtain ⟨⟨d, e⟩, _⟩ := E.only i p z
    obtain ⟨q, h1, _, h5⟩ := E.own i d e
    rw [z] at h1
    cases h1
    obtain ⟨o, ho⟩ := h5.some
    rw [h] at ho
    cases ho
theorem same_new {p : Addr} {o : HO} (h : H p = none) : Same H (upd H p o) := fun b x e => by
  rw [upd_ne (ne_of_none e h)]
  exact e
theorem Ev.new (E : Ev C ρ n σ H O) {p : Addr} {o : HO} (h : H p = none) : Ev C ρ n σ (upd H p o) O ∧ Same (hid C O H) (hid C O (upd H p o)) ∧ hid C O (upd H p o) p = some o := by
  have s := same_new (o := o) h
  obtain ⟨h1, h2, _⟩ := E.fresh h
  exact ⟨E.ext s, hid_same s, hid_of upd_same h1 h2⟩
/-- the slots of values -/
theorem lt_of_get {α : Type} {l : List α} {i : Nat} {x : α} (e : l[i]? = some x) : i < l.length := (List.getElem?_eq_some_iff.mp e).1
open Classical in
noncomputable def cutO (O : Ow) (i : Nat) : Ow := fun j => if j = i then none else O j
theorem cutO_some {i j : Nat} {p : Addr} (h : cutO O i j = some p) : j ≠ i ∧ O j = some p := by
  unfold cutO at h
  split at h
  · cases h
  · rename_i q
    exact ⟨q, h⟩
theorem hid_cut {i : Nat} : Same (hid C O H) (hid C (cutO O i) H) := fun a o h => by
  obtain ⟨h1, h2, h3⟩ := hid_some h
  exact hid_of h1 h2 fun j z => h3 j (cutO_some z).2
/-- a value is stored -/
theorem Ev.set (E : Ev C ρ n σ H O) {i : Nat} {v : V} {d : D} (hd : Is C.T (hid C O H) v d) : Ev C (ρ.set i (some (Sl.v d))) n (σ.set i (some v)) H (cutO O i) ∧ Same (hid C O H) (hid C (cutO O i) H) := by
  refine ⟨⟨?_, ?_, ?_, ?_, ?_, E.zs, E.zt, E.keep, E.box, fun p hp j q d h1 h2 h3 => (by
    obtain ⟨c, h1⟩ := cutO_some h1
    rw [List.getElem?_set_ne (Ne.symm c)] at h2
    exact E.slf p hp j q d h1 h2 h3), E.vis.trans hid_cut⟩, hid_cut⟩
  · rw [List.length_set, List.length_set, E.len]
  · intro j e h
    by_cases c : j = i
    · subst c
      have hl := lt_of_get h
      rw [List.length_set] at hl
      rw [List.getElem?_set_self hl] at h
      cases h
      rw [List.getElem?_set_self (by rw [← E.len]; exact hl)]
      exact ⟨v, rfl, hd.same hid_cut⟩
    · rw [List.getElem?_set_ne (Ne.symm c)] at h ⊢
      obtain ⟨u, h1, h2⟩ := E.val j e h
      exact ⟨u, h1, h2.same hid_cut⟩
  · intro j e h
    by_cases c : j = i
    · subst c
      have hl := lt_of_get h
      rw [List.length_set] at hl
      rw [List.getElem?_set_self hl] at h
      cases h
    · rw [List.getElem?_set_ne (Ne.symm c)] at h ⊢
      obtain ⟨p, h1, h2, h3⟩ := E.own j e h
      refine ⟨p, ?_, h2, h3.same hid_cut rfl⟩
      unfold cutO
      rw [if_neg c]
      exact h1
  · intro j p h
    obtain ⟨c, h⟩ := cutO_some h
    rw [List.getElem?_set_ne (Ne.symm c)]
    exact E.only j p h
  · intro j k p h1 h2
    exact E.inj j k p (cutO_some h1).2 (cutO_some h2).2
/-- a slot is forgotten -/
theorem Ev.wipe1 (E : Ev C ρ n σ H O) (i : Nat) : Ev C (ρ.set i none) n (σ.set i none) H (cutO O i) := by
  refine ⟨?_, ?_, ?_, ?_, ?_, E.zs, E.zt, E.keep, E.box, fun p hp j q d h1 h2 h3 => (by
    obtain ⟨c, h1⟩ := cutO_some h1
    rw [List.getElem?_set_ne (Ne.symm c)] at h2
    exact E.slf p hp j q d h1 h2 h3), E.vis.trans hid_cut⟩
  · rw [List.length_set, List.length_set, E.len]
  · intro j e h
    by_cases c : j = i
    · subst c
      have hl := lt_of_get h
      rw [List.length_set] at hl
      rw [List.getElem?_set_self hl] at h
      cases h
    · rw [List.getElem?_set_ne (Ne.symm c)] at h ⊢
      obtain ⟨u, h1, h2⟩ := E.val j e h
      exact ⟨u, h1, h2.same hid_cut⟩
  · intro j e h
    by_cases c : j = i
    · subst c
      have hl := lt_of_get h
      rw [List.length_set] at hl
      rw [List.getElem?_set_self hl] at h
      cases h
    · rw [List.getElem?_set_ne (Ne.symm c)] at h ⊢
      obtain ⟨p, h1, h2, h3⟩ := E.own j e h
      refine ⟨p, ?_, h2, h3.same hid_cut rfl⟩
      unfold cutO
      rw [if_neg c]
      exact h1
  · intro j p h
    obtain ⟨c, h⟩ := cutO_some h
    rw [List.getElem?_set_ne (Ne.symm c)]
    exact E.only j p h
  · intro j k p h1 h2
    exact E.inj j k p (cutO_some h1).2 (cutO_some h2).2
open Classical in
noncomputable def putO (O : Ow) (i : Nat) (p : Addr) : Ow := fun j => if j = i then some p else O j
theorem putO_some {i j : Nat} {p q : Addr} (h : putO O i p j = some q) : (j = i ∧ q = p) ∨ (j ≠ i ∧ O j = some q) := by
  unfold putO at h
  split at h
  · rename_i c
    exact .inl ⟨c, (Option.some.inj h).symm⟩
  · rename_i c
    exact .inr ⟨c, h⟩
theorem fresh_hid (E : Ev C ρ n σ H O) {p : Addr} {i : Nat} (h : H p = none) (s : Same H H') : Same (hid C O H) (hid C (putO O i p) H') := fun a o e => by
  obtain ⟨h1, h2, h3⟩ := hid_some e
  refine hid_of (s _ _ h1) h2 fun j z => ?_
  rcases putO_some z with ⟨_, e⟩ | ⟨_, e⟩
  · rw [e, h] at h1
    cases h1
  · exact h3 j e
/-- a new thing that this slot alone knows -/
theorem Ev.setOwn (E : Ev C ρ n σ H O) {i : Nat} {p : Addr} {d : D} (hi : i < ρ.length) (hn : H p = none) (s : Same H H') (hd : OwnAt C.T (hid C O H) H' p d) (no : isObjD d = false) :
    Ev C (ρ.set i (some (Sl.own d))) n (σ.set i (some (.ref p))) H' (putO O i p) ∧ Same (hid C O H) (hid C (putO O i p) H') := by
  have S := fresh_hid (i := i) E hn s
  obtain ⟨f1, f2, f3, f4⟩ := E.fresh hn
  refine ⟨⟨?_, ?_, ?_, ?_, ?_, E.zs, E.zt, fun a o h z => s _ _ (E.keep a o h z), fun b h => ⟨(E.box b h).1, (E.box b h).2.same s⟩, fun p' hp j q d' h1 h2 h3 => ?_, E.vis.trans S⟩, S⟩
  · rw [List.length_set, List.length_set, E.len]
  · intro j e h
    by_cases c : j = i
    · subst c
      rw [List.getElem?_set_self hi] at h
      cases h
    · rw [List.getElem?_set_ne (Ne.symm c)] at h ⊢
      obtain ⟨u, h1, h2⟩ := E.val j e h
      exact ⟨u, h1, h2.same S⟩
  · intro j e h
    by_cases c : j = i
    · subst c
      rw [List.getElem?_set_self hi] at h
      cases h
      rw [List.getElem?_set_self (by rw [← E.len]; exact hi)]
      refine ⟨p, ?_, rfl, hd.same S rfl⟩
      unfold putO
      rw [if_pos rfl]
    · rw [List.getElem?_set_ne (Ne.symm c)] at h ⊢
      obtain ⟨q, h1, h2, h3⟩ := E.own j e h
      obtain ⟨o, ho⟩ := h3.some
      refine ⟨q, ?_, h2, h3.same S ((s _ _ ho).trans ho.symm)⟩
      unfold putO
      rw [if_neg c]
      exact h1
  · intro j q h
    rcases putO_some h with ⟨rfl, rfl⟩ | ⟨c, h⟩
    · rw [List.getElem?_set_self hi]
      exact ⟨⟨d, rfl⟩, f3⟩
    · rw [List.getElem?_set_ne (Ne.symm c)]
      exact E.only j q h
  · intro j k q h1 h2
    rcases putO_some h1 with ⟨a1, a2⟩ | ⟨c, a1⟩
    · rcases putO_some h2 with ⟨b1, _⟩ | ⟨_, b1⟩
      · rw [a1, b1]
      · exact absurd (a2 ▸ b1) (f2 k)
    · rcases putO_some h2 with ⟨_, b2⟩ | ⟨_, b1⟩
      · exact absurd (b2 ▸ a1) (f2 j)
      · exact E.inj j k q a1 b1
  · rcases putO_some h1 with ⟨rfl, rfl⟩ | ⟨c, h1⟩
    · rw [List.getElem?_set_self hi] at h2
      cases h2
      rw [no] at h3
      cases h3
    · rw [List.getElem?_set_ne (Ne.symm c)] at h2
      exact E.slf p' hp j q d' h1 h2 h3
/-- the thing of an own slot changes -/
theorem Ev.chg (E : Ev C ρ n σ H O) {i : Nat} {p : Addr} {d : D} {o : HO} (hi : i < ρ.length) (hO : O i = some p) (hd : OwnAt C.T (hid C O H) (upd H p o) p d) (ho : isObjD d = true → ∃ d0, ρ[i]? = some (some (Sl.own d0)) ∧ isObjD d0 = true := by exact fun h => nomatch h) :
    Ev C (ρ.set i (some (Sl.own d))) n σ (upd H p o) O ∧ Same (hid C O H) (hid C O (upd H p o)) := by
  have S : Same (hid C O H) (hid C O (upd H p o)) := fun a u e => by
    obtain ⟨h1, h2, h3⟩ := hid_some e
    refine hid_of ?_ h2 h3
    rw [upd_ne fun z => h3 i (by rw [z]; exact hO)]
    exact h1
  have hs : σ[i]? = some (some (.ref p)) := by
    obtain ⟨d', e⟩ := (E.only i p hO).1
    obtain ⟨q, h1, h2, _⟩ := E.own i d' e
    rw [hO] at h1
    cases h1
    exact h2
  refine ⟨⟨?_, ?_, ?_, ?_, E.inj, E.zs, E.zt, fun a u h z => ?_, fun b h => ⟨(E.box b h).1, ?_⟩, fun p' hp j q d' h1 h2 h3 => ?_, E.vis.trans S⟩, S⟩
  · rw [List.length_set, E.len]
  · intro j e h
    by_cases c : j = i
    · subst c
      rw [List.getElem?_set_self hi] at h
      cases h
    · rw [List.getElem?_set_ne (Ne.symm c)] at h
      obtain ⟨u, h1, h2⟩ := E.val j e h
      exact ⟨u, h1, h2.same S⟩
  · intro j e h
    by_cases c : j = i
    · subst c
      rw [List.getElem?_set_self hi] at h
      cases h
      exact ⟨p, hO, hs, hd.same S rfl⟩
    · rw [List.getElem?_set_ne (Ne.symm c)] at h
      obtain ⟨q, h1, h2, h3⟩ := E.own j e h
      refine ⟨q, h1, h2, h3.same S (upd_ne fun z => c (E.inj j i p (z ▸ h1) hO))⟩
  · intro j q h
    by_cases c : j = i
    · subst c
      rw [List.getElem?_set_self hi]
      exact ⟨⟨d, rfl⟩, (E.only j q h).2⟩
    · rw [List.getElem?_set_ne (Ne.symm c)]
      exact E.only j q h
  · rw [upd_ne fun q => ?_]
    · exact E.keep a u h z
    · rw [q, (E.only i p hO).2] at h
      cases h
  · obtain ⟨A, B, D, e, r⟩ := (E.box b h).2
    refine ⟨A, B, D, ?_, r⟩
    rw [upd_ne fun z => E.nbx hO (h.trans (congrArg some z))]
    exact e
  · by_cases c : j = i
    · subst c
      rw [List.getElem?_set_self hi] at h2
      cases h2
      obtain ⟨d0, e0, e1⟩ := ho h3
      exact E.slf p' hp j q d0 h1 e0 e1
    · rw [List.getElem?_set_ne (Ne.symm c)] at h2
      exact E.slf p' hp j q d' h1 h2 h3
/-- an own slot becomes a value: its list -/
theorem Ev.frz (E : Ev C ρ n σ H O) {i : Nat} {v : V} {d : D} (hi : i < ρ.length) (hs : σ[i]? = some (some v)) (hd : Is C.T (hid C (cutO O i) H) v d) : Ev C (ρ.set i (some (Sl.v d))) n σ H (cutO O i) := by
  refine ⟨?_, ?_, ?_, ?_, ?_, E.zs, E.zt, E.keep, E.box, fun p hp j q d h1 h2 h3 => (by
    obtain ⟨c, h1⟩ := cutO_some h1
    rw [List.getElem?_set_ne (Ne.symm c)] at h2
    exact E.slf p hp j q d h1 h2 h3), E.vis.trans hid_cut⟩
  · rw [List.length_set, E.len]
  · intro j e h
    by_cases c : j = i
    · subst c
      rw [List.getElem?_set_self hi] at h
      cases h
      exact ⟨v, hs, hd⟩
    · rw [List.getElem?_set_ne (Ne.symm c)] at h
      obtain ⟨u, h1, h2⟩ := E.val j e h
      exact ⟨u, h1, h2.same hid_cut⟩
  · intro j e h
    by_cases c : j = i
    · subst c
      rw [List.getElem?_set_self hi] at h
      cases h
    · rw [List.getElem?_set_ne (Ne.symm c)] at h
      obtain ⟨p, h1, h2, h3⟩ := E.own j e h
      refine ⟨p, ?_, h2, h3.same hid_cut rfl⟩
      unfold cutO
      rw [if_neg c]
      exact h1
  · intro j p h
    obtain ⟨c, h⟩ := cutO_some h
    rw [List.getElem?_set_ne (Ne.symm c)]
    exact E.only j p h
  · intro j k p h1 h2
    exact E.inj j k p (cutO_some h1).2 (cutO_some h2).2
/-- a tuple is hidden from nobody -/
theorem Ev.tup (E : Ev C ρ n σ H O) {a : Addr} {xs : List V} (h : H a = some (.tup xs)) : hid C O H a = some (.tup xs) := by
  refine hid_of h (fun z => ?_) fun i z => ?_
  · by_cases c : C.T.bx = some a
    · obtain ⟨A, B, F, e, _⟩ := (E.box a c).2
      rw [h] at e
      cases e
    · obtain ⟨o, ho⟩ := E.zs a z
      have := E.keep a o ho c
      rw [h] at this
      cases this
      exact E.zt a xs z ho
  · obtain ⟨⟨d, e⟩, _⟩ := E.only i a z
    obtain ⟨p, h1, _, h3⟩ := E.own i d e
    rw [z] at h1
    cases h1
    exact h3.notup xs h
end
end RM
namespace RM
open PySem PySem.Spec PyProof.Rows L2 CS RZ
/-! ### readings over data -/
abbrev Xv := Nat × List (D × D)
abbrev KE := Xv → En → Nat → Prop
abbrev CE := En → Nat → (D → En → Nat → Prop) → KE → Prop
abbrev CA := En → Nat → (List D → En → Nat → Prop) → KE → Prop
abbrev CT := En → Nat → (Bool → En → Nat → Prop) → KE → Prop
def XIs (T : Tab) (Hh : Hp) (dd : Option Addr) (fs : List (D × D)) : Prop := (dd = none ∧ fs = []) ∨ ∃ a us, dd = some a ∧ Hh a = some (.xd us) ∧ IsF T Hh us fs
theorem XIs.same {T : Tab} {H H' : Hp} {dd : Option Addr} {fs : List (D × D)} (h : XIs T H dd fs) (s : Same H H') : XIs T H' dd fs := by
  rcases h with h | ⟨a, us, e, h1, h2⟩
  · exact .inl h
  · exact .inr ⟨a, us, e, s _ _ h1, h2.same s⟩
def XL (C : Ctx) (xk : WX) (ke : KE) : Prop := ∀ (c : Nat) (fs : List (D × D)) (ρ : En) (n : Nat) (σ : L2.St) (H : Hp) (O : Ow) (dd : Option Addr), ke (c, fs) ρ n → Ev C ρ n σ H O → XIs C.T (hid C O H) dd fs → xk (.ref (C.T.cls c)) dd σ H
/-- the written part and the classes by number -/
structure Glob where
  K : PySem.W.Frag
  cls : Nat → Addr
def Ctx.On (C : Ctx) (g : Glob) : Prop := C.T.K = g.K ∧ C.T.cls = g.cls
def xF : WX := fun _ _ _ _ => False
def lift (g : Glob) (xk : WX) (td : CE) : TE := fun σ H Q => ∃ (C : Ctx) (ρ : En) (n : Nat) (O : Ow) (k : D → En → Nat → Prop) (ke : KE), C.On g ∧ Ev C ρ n σ H O ∧ td ρ n k ke ∧ XL C xk ke ∧
  ∀ (d : D) (ρ' : En) (n' : Nat) (v : V) (H' : Hp) (O' : Ow), k d ρ' n' → Ev C ρ' n' σ H' O' → Same (hid C O H) (hid C O' H') → Is C.T (hid C O' H') v d → Q v H'
def liftT (g : Glob) (xk : WX) (td : CT) : TT := fun σ H Q => ∃ (C : Ctx) (ρ : En) (n : Nat) (O : Ow) (k : Bool → En → Nat → Prop) (ke : KE), C.On g ∧ Ev C ρ n σ H O ∧ td ρ n k ke ∧ XL C xk ke ∧
  ∀ (b : Bool) (ρ' : En) (n' : Nat) (H' : Hp) (O' : Ow), k b ρ' n' → Ev C ρ' n' σ H' O' → Same (hid C O H) (hid C O' H') → Q b H'
def liftA (g : Glob) (xk : WX) (td : CA) : TA := fun σ H Q => ∃ (C : Ctx) (ρ : En) (n : Nat) (O : Ow) (k : List D → En → Nat → Prop) (ke : KE), C.On g ∧ Ev C ρ n σ H O ∧ td ρ n k ke ∧ XL C xk ke ∧
  ∀ (ds : List D) (ρ' : En) (n' : Nat) (vs : List V) (H' : Hp) (O' : Ow), k ds ρ' n' → Ev C ρ' n' σ H' O' → Same (hid C O H) (hid C O' H') → IsL C.T (hid C O' H') vs ds → Q vs H'
/-- a new thing at p, of which nobody else knows -/
def liftF (g : Glob) (xk : WX) (td : CE) : TE := fun σ H Q => ∃ (C : Ctx) (ρ : En) (n : Nat) (O : Ow) (k : D → En → Nat → Prop) (ke : KE), C.On g ∧ Ev C ρ n σ H O ∧ td ρ n k ke ∧ XL C xk ke ∧
  ∀ (d : D) (ρ' : En) (n' : Nat) (p : Addr) (H1 H' : Hp) (O' : Ow), k d ρ' n' → Ev C ρ' n' σ H1 O' → Same (hid C O H) (hid C O' H1) → H1 p = none → Same H1 H' → OwnAt C.T (hid C O' H1) H' p d → isObjD d = false → Q (.ref p) H'
structure Good (X : Cx) (g : Glob) : Prop where
  K : g.K = X.K
structure PD (X : Cx) (g : Glob) (xk : WX) (e : Expr) (td : CE) : Prop where
  pe : PE X e (lift g xk td)
structure PDT (X : Cx) (g : Glob) (xk : WX) (e : Expr) (td : CT) : Prop where
  pt : PT X e (liftT g xk td)
structure PDA (X : Cx) (g : Glob) (xk : WX) (es : List Expr) (td : CA) : Prop where
  pa : PA X es (liftA g xk td)
structure PDF (X : Cx) (g : Glob) (xk : WX) (e : Expr) (td : CE) : Prop where
  pe : PE X e (liftF g xk td)
theorem PE.imp {X : Cx} {e : Expr} {t t' : TE} (h : PE X e t) (q : ∀ σ H Q, t' σ H Q → t σ H Q) : PE X e t' := ⟨fun pins s σ H Q I r => h.run pins s σ H Q I (q _ _ _ r)⟩
theorem PT.imp {X : Cx} {e : Expr} {t t' : TT} (h : PT X e t) (q : ∀ σ H Q, t' σ H Q → t σ H Q) : PT X e t' := ⟨fun pins s σ H Q I r => h.run pins s σ H Q I (q _ _ _ r)⟩
theorem PA.imp {X : Cx} {e : List Expr} {t t' : TA} (h : PA X e t) (q : ∀ σ H Q, t' σ H Q → t σ H Q) : PA X e t' := ⟨fun pos pins s σ H Q I r => h.run pos pins s σ H Q I (q _ _ _ r)⟩
theorem Dp.len {K : PySem.W.Frag} {H : Hp} : True := trivial
def lim : Nat := 10000000
theorem lim_le {n : Nat} (h : n ≤ lim) : n ≤ sizeLine := Nat.le_trans h (by decide)
theorem lim_lt {n : Nat} (h : n < lim) : n < sizeLine := Nat.lt_of_lt_of_le h (by decide)
section
variable {X : Cx} {g : Glob} {C : Ctx} {xk : WX} {pos : Pos}
/-! ### names -/
def cVar (i : Nat) : CE := fun ρ n k _ => match ρ[i]? with
  | some (some (Sl.v d)) => k d ρ n
  | some (some (Sl.own d)) => k d (ρ.set i (some (Sl.v d))) n
  | _ => False
theorem same_at {ρ : En} {n : Nat} {σ : L2.St} {H : Hp} {O : Ow} {i : Nat} {p : Addr} {u : HO} (E : Ev C ρ n σ H O) (hO : O i = some p) : Same (hid C O H) (hid C O (upd H p u)) := fun a o w => by
  obtain ⟨w1, w2, w3⟩ := hid_some w
  have ne : a ≠ p := fun z => w3 i (z ▸ hO)
  refine hid_of ?_ w2 w3
  rw [upd_ne ne]
  exact w1
theorem melt2 {ρ : En} {n : Nat} {σ : L2.St} {H : Hp} {O : Ow} {i : Nat} {p : Addr} {d d0 : D} {u : HO} (E : Ev C ρ n σ H O) (e : ρ[i]? = some (some (Sl.own d0))) (hO : O i = some p) (hs : σ[i]? = some (some (.ref p))) (is : Is C.T (hid C (cutO O i) (upd H p u)) (.ref p) d) :
    Ev C (ρ.set i (some (Sl.v d))) n σ (upd H p u) (cutO O i) ∧ Same (hid C O H) (hid C (cutO O i) (upd H p u)) := by
  have hi := lt_of_get e
  have S1 := same_at (u := u) E hO
  refine ⟨⟨?_, ?_, ?_, ?_, ?_, E.zs, E.zt, ?_, ?_, fun p hp j q d h1 h2 h3 => (by
    obtain ⟨c, h1⟩ := cutO_some h1
    rw [List.getElem?_set_ne (Ne.symm c)] at h2
    exact E.slf p hp j q d h1 h2 h3), E.vis.trans (S1.trans hid_cut)⟩, S1.trans hid_cut⟩
  · rw [List.length_set, E.len]
  · intro j d' h
    by_cases c : j = i
    · subst c
      rw [List.getElem?_set_self hi] at h
      cases h
      exact ⟨_, hs, is⟩
    · rw [List.getElem?_set_ne (Ne.symm c)] at h
      obtain ⟨v, a1, a2⟩ := E.val j d' h
      exact ⟨v, a1, (a2.same S1).same hid_cut⟩
  · intro j d' h
    by_cases c : j = i
    · subst c
      rw [List.getElem?_set_self hi] at h
      cases h
    · rw [List.getElem?_set_ne (Ne.symm c)] at h
      obtain ⟨q, a1, a2, a3⟩ := E.own j d' h
      have ne : q ≠ p := fun z => c (E.inj j i p (z ▸ a1) hO)
      refine ⟨q, ?_, a2, (a3.same S1 (upd_ne ne)).same hid_cut rfl⟩
      unfold cutO
      rw [if_neg c]
      exact a1
  · intro j q h
    obtain ⟨c, h⟩ := cutO_some h
    rw [List.getElem?_set_ne (Ne.symm c)]
    exact E.only j q h
  · intro j k q h1 h2
    exact E.inj j k q (cutO_some h1).2 (cutO_some h2).2
  · intro a o h z
    have ne : a ≠ p := fun q => by
      rw [q, (E.only i p hO).2] at h
      cases h
    rw [upd_ne ne]
    exact E.keep a o h z
  · intro b h
    obtain ⟨A, B, F, e', r'⟩ := (E.box b h).2
    have ne : b ≠ p := fun q => E.nbx hO (h.trans (congrArg some q))
    exact ⟨(E.box b h).1, A, B, F, by rw [upd_ne ne]; exact e', r'⟩
/-- what was a frame's own turns into a value: dicts are locked -/
theorem melt {pins : List (Addr × Obj)} {ρ : En} {n : Nat} {σ : L2.St} {H : Hp} {O : Ow} {s : Shared} {i : Nat} {p : Addr} {d : D} (E : Ev C ρ n σ H O) (I : Inv X pins σ H s) (e : ρ[i]? = some (some (Sl.own d))) (hO : O i = some p) :
    ∃ H', Inv X pins σ H' s ∧ Ev C (ρ.set i (some (Sl.v d))) n σ H' (cutO O i) ∧ Same (hid C O H) (hid C (cutO O i) H') ∧ Is C.T (hid C (cutO O i) H') (.ref p) d ∧ σ[i]? = some (some (.ref p)) := by
  obtain ⟨q, h1, h2, h3⟩ := E.own i d e
  rw [hO] at h1
  cases h1
  have hi := lt_of_get e
  have pz : ¬ C.Z p := fun z => by
    obtain ⟨o, u⟩ := E.zs p z
    rw [(E.only i p hO).2] at u
    cases u
  have pn : ∀ j, cutO O i j ≠ some p := fun j z => by
    obtain ⟨c, z⟩ := cutO_some z
    exact c (E.inj j i p z hO)
  cases h3 with
  | lst g r =>
    have is : Is C.T (hid C (cutO O i) H) (.ref p) (.list _) := .lst (hid_of g pz pn) (r.same hid_cut)
    exact ⟨H, I, E.frz hi h2 is, hid_cut, is, h2⟩
  | @obj dx c us fs g g2 r =>
    have is : Is C.T (hid C (cutO O i) H) (.ref p) (.dict ((.none, .int (c : Nat)) :: fs)) := .obj (hid_of g pz pn) (hid_cut _ _ g2) (r.same hid_cut)
    exact ⟨H, I, E.frz hi h2 is, hid_cut, is, h2⟩
  | @dk kvs ks g r =>
    obtain ⟨od, J⟩ := I.lock g trivial
    have is : Is C.T (hid C (cutO O i) (upd H p (.frz od (.dK kvs)))) (.ref p) (.dict ((.none, .bool false) :: ks)) := .dk (.inr ⟨od, hid_of upd_same pz pn⟩) ((r.same (same_at E hO)).same hid_cut)
    obtain ⟨a, b⟩ := melt2 E e hO h2 is
    exact ⟨_, J, a, b, is, h2⟩
  | @dt kvs ks g r =>
    obtain ⟨od, J⟩ := I.lock g trivial
    have is : Is C.T (hid C (cutO O i) (upd H p (.frz od (.dT kvs)))) (.ref p) (.dict ((.none, .bool true) :: ks)) := .dt (.inr ⟨od, hid_of upd_same pz pn⟩) ((r.same (same_at E hO)).same hid_cut)
    obtain ⟨a, b⟩ := melt2 E e hO h2 is
    exact ⟨_, J, a, b, is, h2⟩
theorem pd_var (i : Nat) {x : Str} (hN : X.N[i]? = some x := by rfl) (hv : Vis X.env.scope x := by first | exact Or.inl rfl | exact Or.inr (Or.inl rfl) | exact Or.inr (Or.inr rfl)) (hd : (x == ("__debug__" : Str)) = false := by decide)
    (hcd : (x == ("__classdict__" : Str)) = false := by decide) : PD X g xk (.Name x pos) (cVar i) := by
  refine ⟨⟨fun pins s σ H Q I h => ?_⟩⟩
  obtain ⟨C, ρ, n, O, k, ke, hK, E, t, _, q⟩ := h
  unfold cVar at t
  split at t
  · rename_i d e
    obtain ⟨v, h1, h2⟩ := E.val i d e
    exact (pe_var hN hv hd hcd).run pins s σ H Q I ⟨v, h1, q _ _ _ _ _ _ t E (Same.refl _) h2⟩
  · rename_i d e
    obtain ⟨p, h1, _⟩ := E.own i d e
    obtain ⟨H', J, E', S, is, hs⟩ := melt E I e h1
    exact (pe_var hN hv hd hcd).run pins s σ H' Q J ⟨_, hs, q _ _ _ _ _ _ t E' S is⟩
  · exact t.elim
/-! ### constants -/
def cC (d : D) : CE := fun ρ n k _ => k d ρ n
theorem pd_c {e : Expr} {v : V} {d : D} (h : PE X e (tC v)) (hd : ∀ T H, Is T H v d) : PD X g xk e (cC d) := ⟨PE.imp h fun σ H Q ⟨C, ρ, n, O, k, ke, hK, E, t, _, q⟩ => q _ _ _ _ _ _ t E (Same.refl _) (hd _ _)⟩
theorem pd_int {i : Int} {j} : PD X g xk (.Constant (.int i) j pos) (cC (.int i)) := pd_c pe_int fun _ _ => .int i
theorem pd_str {i : Str} {j} : PD X g xk (.Constant (.str i) j pos) (cC (.str i)) := pd_c pe_str fun _ _ => .str i
theorem pd_bl {i : Bool} {j} : PD X g xk (.Constant (.bool i) j pos) (cC (.bool i)) := pd_c pe_bl fun _ _ => .bl i
theorem pd_non {j} : PD X g xk (.Constant .none j pos) (cC .none) := pd_c pe_non fun _ _ => .non
/-! ### lists of expressions, displays -/
def cNil : CA := fun ρ n k _ => k [] ρ n
def cCons (t : CE) (u : CA) : CA := fun ρ n k ke => t ρ n (fun d ρ1 n1 => u ρ1 n1 (fun ds ρ2 n2 => k (d :: ds) ρ2 n2) ke) ke
theorem pda_nil : PDA X g xk [] cNil := ⟨PA.imp pa_nil fun σ H Q ⟨C, ρ, n, O, k, ke, hK, E, t, _, q⟩ => q _ _ _ _ _ _ t E (Same.refl _) .nil⟩
theorem pda_cons {e : Expr} {es : List Expr} {t : CE} {u : CA} (ha : PD X g xk e t) (hr : PDA X g xk es u) (hs : starEach (e :: es) X.env = (false, eval e X.env) :: starEach es X.env := by rfl) : PDA X g xk (e :: es) (cCons t u) :=
  ⟨PA.imp (pa_cons ha.pe hr.pa hs) fun σ H Q ⟨C, ρ, n, O, k, ke, hK, E, t, x, q⟩ => ⟨C, ρ, n, O, _, ke, hK, E, t, x, fun d ρ1 n1 v H1 O1 k1 E1 S1 i1 => ⟨C, ρ1, n1, O1, _, ke, hK, E1, k1, x, fun ds ρ2 n2 vs H2 O2 k2 E2 S2 i2 =>
    q _ _ _ _ _ _ k2 E2 (S1.trans S2) (.cons (i1.same S2) i2)⟩⟩⟩
def cTup (ta : CA) : CE := fun ρ n k ke => ta ρ n (fun ds ρ' n' => ds.length ≤ lim ∧ k (.tuple ds) ρ' n') ke
def cLst (ta : CA) : CE := fun ρ n k ke => ta ρ n (fun ds ρ' n' => ds.length ≤ lim ∧ k (.list ds) ρ' n') ke
theorem pd_tup {es : List Expr} {ta : CA} {x1} (h : PDA X g xk es ta) : PD X g xk (.Tuple es x1 pos) (cTup ta) :=
  ⟨PE.imp (pe_tup h.pa) fun σ H Q ⟨C, ρ, n, O, k, ke, hK, E, t, x, q⟩ => ⟨C, ρ, n, O, _, ke, hK, E, t, x, fun ds ρ1 n1 vs H1 O1 k1 E1 S1 i1 => ⟨by rw [i1.length]; exact lim_le k1.1, fun p hp => by
    obtain ⟨a, b, c⟩ := E1.new (o := .tup vs) hp
    exact q _ _ _ _ _ _ k1.2 a (S1.trans b) (.tup (tph_in c) (i1.same b))⟩⟩⟩
theorem pf_lst {es : List Expr} {ta : CA} (h : PDA X g xk es ta) : PDF X g xk (.List es pos) (cLst ta) :=
  ⟨PE.imp (pe_lst h.pa) fun σ H Q ⟨C, ρ, n, O, k, ke, hK, E, t, x, q⟩ => ⟨C, ρ, n, O, _, ke, hK, E, t, x, fun ds ρ1 n1 vs H1 O1 k1 E1 S1 i1 => ⟨by rw [i1.length]; exact lim_le k1.1, fun p hp =>
    q _ _ _ _ _ _ _ k1.2 E1 S1 hp (same_new hp) (.lst upd_same i1) rfl⟩⟩⟩
/-- a new thing used as a value -/
theorem PDF.pd {e : Expr} {td : CE} (h : PDF X g xk e td) (nd : True := trivial) : PD X g xk e td := by
  refine ⟨⟨fun pins s σ H Q I r => ?_⟩⟩
  obtain ⟨C, ρ, n, O, k, ke, hK, E, t, x, q⟩ := r
  refine thn (h.pe.run pins s σ H (fun v H' => ∃ (d : D) (ρ' : En) (n' : Nat) (p : Addr) (H1 : Hp) (O' : Ow), v = .ref p ∧ k d ρ' n' ∧ Ev C ρ' n' σ H1 O' ∧ Same (hid C O H) (hid C O' H1) ∧ H1 p = none ∧ Same H1 H' ∧ OwnAt C.T (hid C O' H1) H' p d) I
    ⟨C, ρ, n, O, k, ke, hK, E, t, x, fun d ρ' n' p H1 H' O' a b c d' e f _ => ⟨d, ρ', n', p, H1, O', rfl, a, b, c, d', e, f⟩⟩) fun u s' ⟨v, H', J, rv, d, ρ', n', p, H1, O', ev, kk, E', S, hn, s1, ow⟩ => ?_
  subst ev
  obtain ⟨f1, f2, _, _⟩ := E'.fresh hn
  cases ow with
  | lst g r => exact ⟨_, _, J, rv, q _ _ _ _ _ _ kk (E'.ext s1) (S.trans (hid_same s1)) (.lst (hid_of g f1 f2) (r.same (hid_same s1)))⟩
  | obj g g2 r => exact ⟨_, _, J, rv, q _ _ _ _ _ _ kk (E'.ext s1) (S.trans (hid_same s1)) (.obj (hid_of g f1 f2) (hid_same s1 _ _ g2) (r.same (hid_same s1)))⟩
  | @dk kvs ks g r =>
    obtain ⟨od, J2⟩ := J.lock g trivial
    have s2 : Same H1 (upd H' p (.frz od (.dK kvs))) := fun b o w => by
      rw [upd_ne (ne_of_none w hn)]
      exact s1 _ _ w
    exact ⟨_, _, J2, rv, q _ _ _ _ _ _ kk (E'.ext s2) (S.trans (hid_same s2)) (.dk (.inr ⟨od, hid_of upd_same f1 f2⟩) (r.same (hid_same s2)))⟩
  | @dt kvs ks g r =>
    obtain ⟨od, J2⟩ := J.lock g trivial
    have s2 : Same H1 (upd H' p (.frz od (.dT kvs))) := fun b o w => by
      rw [upd_ne (ne_of_none w hn)]
      exact s1 _ _ w
    exact ⟨_, _, J2, rv, q _ _ _ _ _ _ kk (E'.ext s2) (S.trans (hid_same s2)) (.dt (.inr ⟨od, hid_of upd_same f1 f2⟩) (r.same (hid_same s2)))⟩
/-! ### operators -/
/-- the result's own objects are new -/
def NewQ (T : Tab) (Hh H : Hp) (z : D) (Q : VK) : Prop := ∀ (v : V) (H' : Hp), Same H H' → (∀ Hx, Same Hh Hx → (∀ a o, H' a = some o → H a = none → Hx a = some o) → Is T Hx v z) → Q v H'
theorem NewQ.flat {T : Tab} {Hh H : Hp} {z : D} {Q : VK} {v : V} (h : NewQ T Hh H z Q) (i : ∀ Hx, Is T Hx v z) : Q v H := h v H (Same.refl _) fun Hx _ _ => i Hx
def OpD (X : Cx) (f : Value → Value → Sem Value) (g : D → D → Option D) : Prop := ∃ r, OpR X f r ∧ ∀ (T : Tab) (Hh H : Hp) (x y : V) (dx dy z : D) (Q : VK), T.K = X.K → Same Hh H → Is T Hh x dx → Is T Hh y dy → g dx dy = some z → NewQ T Hh H z Q → r x y H Q
def cOp (g : D → D → Option D) (ta tb : CE) : CE := fun ρ n k ke => ta ρ n (fun x ρ1 n1 => tb ρ1 n1 (fun y ρ2 n2 => ∃ z, g x y = some z ∧ k z ρ2 n2) ke) ke
theorem newq {ρ : En} {n : Nat} {σ : L2.St} {H : Hp} {O : Ow} {z : D} {Q : VK} (E : Ev C ρ n σ H O) (h : ∀ (v : V) (H' : Hp), Ev C ρ n σ H' O → Same (hid C O H) (hid C O H') → Is C.T (hid C O H') v z → Q v H') : NewQ C.T (hid C O H) H z Q := fun v H' s i =>
  h v H' (E.ext s) (hid_same s) (i _ (hid_same s) fun a o e1 e2 => let ⟨f1, f2, _, _⟩ := E.fresh e2; hid_of e1 f1 f2)
theorem op_use {f : Value → Value → Sem Value} {u : D → D → Option D} {ta tb : CE} {r : R2} (G : Good X g) (hg : ∀ (T : Tab) (Hh H : Hp) (x y : V) (dx dy z : D) (Q : VK), T.K = X.K → Same Hh H → Is T Hh x dx → Is T Hh y dy → u dx dy = some z → NewQ T Hh H z Q → r x y H Q)
    {σ : L2.St} {H : Hp} {Q : VK} (h : lift g xk (cOp u ta tb) σ H Q) : tOp r (lift g xk ta) (lift g xk tb) σ H Q := by
  obtain ⟨C, ρ, n, O, k, ke, hK, E, t, x, q⟩ := h
  refine ⟨C, ρ, n, O, _, ke, hK, E, t, x, fun d ρ1 n1 v H1 O1 k1 E1 S1 i1 => ⟨C, ρ1, n1, O1, _, ke, hK, E1, k1, x, fun d2 ρ2 n2 v2 H2 O2 k2 E2 S2 i2 => ?_⟩⟩
  obtain ⟨z, hz, k2⟩ := k2
  exact hg C.T (hid C O2 H2) H2 v v2 d d2 z Q (hK.1.trans G.K) hid_le (i1.same S2) i2 hz (newq E2 fun v3 H3 E3 S3 i3 => q _ _ _ _ _ _ k2 E3 ((S1.trans S2).trans S3) i3)
theorem pd_op {op : Operator} {u : D → D → Option D} {a b : Expr} {ta tb : CE} (ho : OpD X (binaryOp op) u) (G : Good X g) (ha : PD X g xk a ta) (hb : PD X g xk b tb) : PD X g xk (.BinOp a op b pos) (cOp u ta tb) := by
  obtain ⟨r, hr, hg⟩ := ho
  exact ⟨PE.imp (pe_op hr ha.pe hb.pe) fun σ H Q h => op_use (f := binaryOp op) G hg h⟩
theorem pd_cmp {op : CmpOp} {u : D → D → Option D} {a b : Expr} {ta tb : CE} (ho : OpD X (compareOp op) u) (G : Good X g) (ha : PD X g xk a ta) (hb : PD X g xk b tb) (hm : behindInMarks op b = false) : PD X g xk (.Compare a [op] [b] pos) (cOp u ta tb) := by
  obtain ⟨r, hr, hg⟩ := ho
  exact ⟨PE.imp (pe_cmpR hr ha.pe hb.pe hm) fun σ H Q h => op_use (f := compareOp op) G hg h⟩
/-! ### tests -/
/-- the truth of a value -/
def cB (t : CE) : CT := fun ρ n k ke => t ρ n (fun d ρ' n' => ∃ b, d = .bool b ∧ k b ρ' n') ke
theorem isBl {T : Tab} {H : Hp} {v : V} {b : Bool} (h : Is T H v (.bool b)) : v = .bl b := by
  cases h
  rfl
theorem pdt_cmp {op : CmpOp} {u : D → D → Option D} {a b : Expr} {ta tb : CE} (ho : OpD X (compareOp op) u) (G : Good X g) (ha : PD X g xk a ta) (hb : PD X g xk b tb) (hm : behindInMarks op b = false) : PDT X g xk (.Compare a [op] [b] pos) (cB (cOp u ta tb)) := by
  obtain ⟨r, hr, hg⟩ := ho
  refine ⟨PT.imp (pt_cmpR hr ha.pe hb.pe hm) fun σ H Q h => ?_⟩
  obtain ⟨C, ρ, n, O, k, ke, hK, E, t, x, q⟩ := h
  refine op_use (f := compareOp op) G hg ⟨C, ρ, n, O, _, ke, hK, E, t, x, fun d ρ1 n1 v H1 O1 k1 E1 S1 i1 => ?_⟩
  obtain ⟨b, rfl, k1⟩ := k1
  exact ⟨b, isBl i1, q _ _ _ _ _ k1 E1 S1⟩
theorem pdt_val {e : Expr} {t : CE} (h : PD X g xk e t) (he : ∀ whole, isTrue e X.env whole = (do let v ← whole; standAt e.pos; holding [v] (truthy v)) := by intro _; rfl) : PDT X g xk e (cB t) := by
  refine ⟨PT.imp (pt_val h.pe he) fun σ H Q r => ?_⟩
  obtain ⟨C, ρ, n, O, k, ke, hK, E, t, x, q⟩ := r
  refine ⟨C, ρ, n, O, _, ke, hK, E, t, x, fun d ρ1 n1 v H1 O1 k1 E1 S1 i1 => ?_⟩
  obtain ⟨b, rfl, k1⟩ := k1
  have e := isBl i1
  subst e
  exact ⟨b, rfl, q _ _ _ _ _ k1 E1 S1⟩
def cNotT (t : CT) : CT := fun ρ n k ke => t ρ n (fun b ρ' n' => k (!b) ρ' n') ke
theorem pdt_not {e : Expr} {t : CT} (h : PDT X g xk e t) : PDT X g xk (.UnaryOp .Not e pos) (cNotT t) :=
  ⟨PT.imp (pt_not h.pt) fun σ H Q ⟨C, ρ, n, O, k, ke, hK, E, t, x, q⟩ => ⟨C, ρ, n, O, _, ke, hK, E, t, x, fun b ρ1 n1 H1 O1 k1 E1 S1 => q _ _ _ _ _ k1 E1 S1⟩⟩
def cIf (tc : CT) (ta tb : CE) : CE := fun ρ n k ke => tc ρ n (fun b ρ' n' => if b = true then ta ρ' n' k ke else tb ρ' n' k ke) ke
theorem pd_if {c a b : Expr} {tc : CT} {ta tb : CE} (hc : PDT X g xk c tc) (ha : PD X g xk a ta) (hb : PD X g xk b tb) : PD X g xk (.IfExp c a b pos) (cIf tc ta tb) := by
  refine ⟨PE.imp (pe_ifExp hc.pt ha.pe hb.pe) fun σ H Q r => ?_⟩
  obtain ⟨C, ρ, n, O, k, ke, hK, E, t, x, q⟩ := r
  refine ⟨C, ρ, n, O, _, ke, hK, E, t, x, fun b ρ1 n1 H1 O1 k1 E1 S1 => ?_⟩
  cases b with
  | true => exact ⟨C, ρ1, n1, O1, k, ke, hK, E1, k1, x, fun d ρ2 n2 v H2 O2 k2 E2 S2 i2 => q _ _ _ _ _ _ k2 E2 (S1.trans S2) i2⟩
  | false => exact ⟨C, ρ1, n1, O1, k, ke, hK, E1, k1, x, fun d ρ2 n2 v H2 O2 k2 E2 S2 i2 => q _ _ _ _ _ _ k2 E2 (S1.trans S2) i2⟩
end
end RM
namespace RM
open PySem PySem.Spec PyProof.Rows L2 CS RZ
/-! ### what the operators make of data -/
def addD : D → D → Option D
  | .int i, .int j => some (.int (i + j))
  | .str a, .str b => if a.length + b.length ≤ lim then some (.str (a ++ b)) else none
  | .list a, .list b => if a.length + b.length ≤ lim then some (.list (a ++ b)) else none
  | .tuple a, .tuple b => if a.length + b.length ≤ lim then some (.tuple (a ++ b)) else none
  | _, _ => none
def subD : D → D → Option D
  | .int i, .int j => some (.int (i - j))
  | _, _ => none
def powD : D → D → Option D
  | .int i, .int j => if 0 ≤ j ∧ j ≤ 1000000 ∧ i.natAbs < 2 ^ 64 then some (.int (i ^ j.toNat)) else none
  | _, _ => none
/-- what may be compared as data -/
def okE (d : D) : Bool := plain d && SeqAt.shaped d
def eqD (x y : D) : Option D := if (okE x && okE y) = true then some (.bool (PyData.eqv x y)) else none
def neD (x y : D) : Option D := if (okE x && okE y) = true then some (.bool (!PyData.eqv x y)) else none
def ltD : D → D → Option D
  | .int i, .int j => some (.bool (decide (i < j)))
  | .str i, .str j => some (.bool (decide (i.cps.toList < j.cps.toList)))
  | _, _ => none
def leD : D → D → Option D
  | .int i, .int j => some (.bool (decide (i ≤ j)))
  | _, _ => none
def gtD : D → D → Option D
  | .int i, .int j => some (.bool (decide (j < i)))
  | .str i, .str j => some (.bool (decide (j.cps.toList < i.cps.toList)))
  | _, _ => none
def noneB : D → Bool
  | .none => true
  | _ => false
def isN (x y : D) : Option D := if noneB y = true then some (.bool (noneB x)) else none
def isNN (x y : D) : Option D := if noneB y = true then some (.bool (!noneB x)) else none
/-- the keys of a marked dict -/
def keyD (ks : List (D × D)) (x : D) : Option D := (ks.find? fun kv => PyData.eqv kv.1 x).map (·.2)
def anyD (ds : List D) (x : D) : Bool := ds.any fun z => PyData.eqv z x
def memD (x : D) : D → Option Bool
  | .list ds => if (okE x && okE (.list ds)) = true then some (anyD ds x) else none
  | .tuple ds => if (okE x && okE (.tuple ds)) = true then some (anyD ds x) else none
  | _ => none
def inD (x y : D) : Option D := (memD x y).map .bool
section
variable {X : Cx}
theorem ifs {c : Prop} [Decidable c] {α : Type} {a b : α} (h : (if c then some a else none) = some b) : c ∧ a = b := by
  split at h
  · rename_i q
    exact ⟨q, Option.some.inj h⟩
  · cases h
theorem Is.int' {T : Tab} {H : Hp} {v : V} {i : Int} (h : Is T H v (.int i)) : v = .int i := by cases h; rfl
theorem Is.str' {T : Tab} {H : Hp} {v : V} {i : Str} (h : Is T H v (.str i)) : v = .str i := by cases h; rfl
theorem Is.list' {T : Tab} {H : Hp} {v : V} {ds : List D} (h : Is T H v (.list ds)) : ∃ a xs, v = .ref a ∧ H a = some (.lst xs) ∧ IsL T H xs ds := by
  cases h with
  | lst g r => exact ⟨_, _, rfl, g, r⟩
theorem Is.tup' {T : Tab} {H : Hp} {v : V} {ds : List D} (h : Is T H v (.tuple ds)) : ∃ a xs, v = .ref a ∧ SqT T.K H a xs ∧ IsL T H xs ds := by
  cases h with
  | tup g r => exact ⟨_, _, rfl, g.1, r⟩
theorem Is.tupH' {T : Tab} {H : Hp} {v : V} {ds : List D} (h : Is T H v (.tuple ds)) : ∃ a xs, v = .ref a ∧ TpH T H a xs ∧ IsL T H xs ds := by
  cases h with
  | tup g r => exact ⟨_, _, rfl, g, r⟩
theorem newL {T : Tab} {Hh H : Hp} {ds : List D} {xs : List V} {Q : VK} (q : NewQ T Hh H (.list ds) Q) (i : IsL T Hh xs ds) : ∀ p, H p = none → Q (.ref p) (upd H p (.lst xs)) := fun p hp =>
  q _ _ (same_new hp) fun Hx s1 s2 => .lst (s2 _ _ upd_same hp) (i.same s1)
theorem newT {T : Tab} {Hh H : Hp} {ds : List D} {xs : List V} {Q : VK} (q : NewQ T Hh H (.tuple ds) Q) (i : IsL T Hh xs ds) : ∀ p, H p = none → Q (.ref p) (upd H p (.tup xs)) := fun p hp =>
  q _ _ (same_new hp) fun Hx s1 s2 => .tup (tph_in (s2 _ _ upd_same hp)) (i.same s1)
theorem oldV {T : Tab} {Hh H : Hp} {d : D} {v : V} {Q : VK} (q : NewQ T Hh H d Q) (i : Is T Hh v d) : Q v H := q _ _ (Same.refl _) fun Hx s1 _ => i.same s1
theorem od_add : OpD X (binaryOp .Add) addD := by
  refine ⟨_, op_add.or (op_add_str.or (op_cat.or op_catA)), fun T Hh H x y dx dy z Q hK s ix iy hg q => ?_⟩
  unfold addD at hg
  split at hg
  · cases hg
    rw [ix.int', iy.int']
    exact .inl ⟨_, _, rfl, rfl, q.flat fun _ => .int _⟩
  · obtain ⟨c, rfl⟩ := ifs hg
    rw [ix.str', iy.str']
    exact .inr (.inl ⟨_, _, rfl, rfl, lim_le c, q.flat fun _ => .str _⟩)
  · obtain ⟨c, rfl⟩ := ifs hg
    obtain ⟨a, xs, rfl, ha, ra⟩ := ix.list'
    obtain ⟨b, ys, rfl, hb, rb⟩ := iy.list'
    exact .inr (.inr (.inl ⟨a, b, xs, ys, rfl, rfl, s _ _ ha, s _ _ hb, by rw [ra.length, rb.length]; exact lim_le c, newL q (ra.append rb)⟩))
  · obtain ⟨c, rfl⟩ := ifs hg
    obtain ⟨a, xs, rfl, ha, ra⟩ := ix.tupH'
    obtain ⟨b, ys, rfl, hb, rb⟩ := iy.tupH'
    refine .inr (.inr (.inr ⟨a, b, xs, ys, rfl, rfl, hK ▸ sqt_same s ha.1, hK ▸ sqt_same s hb.1, by rw [ra.length, rb.length]; exact lim_le c, fun e => ?_, fun _ e => ?_, fun _ _ => newT q (ra.append rb)⟩))
    · subst e
      cases ra
      exact oldV q (.tup hb rb)
    · subst e
      cases rb
      rw [List.append_nil] at q
      exact oldV q (.tup ha ra)
  · cases hg
theorem od_sub : OpD X (binaryOp .Sub) subD := by
  refine ⟨_, op_sub, fun T Hh H x y dx dy z Q hK s ix iy hg q => ?_⟩
  unfold subD at hg
  split at hg
  · cases hg
    rw [ix.int', iy.int']
    exact ⟨_, _, rfl, rfl, q.flat fun _ => .int _⟩
  · cases hg
theorem okE2 {x y : D} (h : (okE x && okE y) = true) : plain x = true ∧ SeqAt.shaped x = true ∧ plain y = true ∧ SeqAt.shaped y = true := by
  unfold okE at h
  simp only [Bool.and_eq_true] at h
  exact ⟨h.1.1, h.1.2, h.2.1, h.2.2⟩
theorem od_eq (hu : X.A.units + 64 < cLine) : OpD X (compareOp .Eq) eqD := by
  refine ⟨_, op_eqD hu, fun T Hh H x y dx dy z Q hK s ix iy hg q => ?_⟩
  obtain ⟨c, rfl⟩ := ifs hg
  obtain ⟨p1, s1, p2, s2⟩ := okE2 c
  exact ⟨dx, dy, hK ▸ (ix.same s).dp p1, hK ▸ (iy.same s).dp p2, s1, s2, q.flat fun _ => .bl _⟩
theorem od_ne (hu : X.A.units + 64 < cLine) : OpD X (compareOp .NotEq) neD := by
  refine ⟨_, op_neD hu, fun T Hh H x y dx dy z Q hK s ix iy hg q => ?_⟩
  obtain ⟨c, rfl⟩ := ifs hg
  obtain ⟨p1, s1, p2, s2⟩ := okE2 c
  exact ⟨dx, dy, hK ▸ (ix.same s).dp p1, hK ▸ (iy.same s).dp p2, s1, s2, q.flat fun _ => .bl _⟩
theorem od_lt : OpD X (compareOp .Lt) ltD := by
  refine ⟨_, op_lt.or op_lt_str, fun T Hh H x y dx dy z Q hK s ix iy hg q => ?_⟩
  unfold ltD at hg
  split at hg
  · cases hg
    rw [ix.int', iy.int']
    exact .inl ⟨_, _, rfl, rfl, q.flat fun _ => .bl _⟩
  · cases hg
    rw [ix.str', iy.str']
    exact .inr ⟨_, _, rfl, rfl, q.flat fun _ => .bl _⟩
  · cases hg
theorem od_gt : OpD X (compareOp .Gt) gtD := by
  refine ⟨_, op_gt.or op_gt_str, fun T Hh H x y dx dy z Q hK s ix iy hg q => ?_⟩
  unfold gtD at hg
  split at hg
  · cases hg
    rw [ix.int', iy.int']
    exact .inl ⟨_, _, rfl, rfl, q.flat fun _ => .bl _⟩
  · cases hg
    rw [ix.str', iy.str']
    exact .inr ⟨_, _, rfl, rfl, q.flat fun _ => .bl _⟩
  · cases hg
theorem od_le : OpD X (compareOp .LtE) leD := by
  refine ⟨_, op_le, fun T Hh H x y dx dy z Q hK s ix iy hg q => ?_⟩
  unfold leD at hg
  split at hg
  · cases hg
    rw [ix.int', iy.int']
    exact ⟨_, _, rfl, rfl, q.flat fun _ => .bl _⟩
  · cases hg
theorem noneV {T : Tab} {H : Hp} {v : V} {d : D} (h : Is T H v d) : decide (v = .non) = noneB d := by
  cases h <;> first | rfl | exact decide_eq_false (fun z => by cases z)
theorem od_is : OpD X (compareOp .Is) isN := by
  refine ⟨_, op_isN, fun T Hh H x y dx dy z Q hK s ix iy hg q => ?_⟩
  obtain ⟨c, rfl⟩ := ifs hg
  rw [← noneV iy] at c
  refine ⟨of_decide_eq_true c, ?_⟩
  rw [noneV ix]
  exact q.flat fun _ => .bl _
theorem od_isnot : OpD X (compareOp .IsNot) isNN := by
  refine ⟨_, op_notN, fun T Hh H x y dx dy z Q hK s ix iy hg q => ?_⟩
  obtain ⟨c, rfl⟩ := ifs hg
  rw [← noneV iy] at c
  refine ⟨of_decide_eq_true c, ?_⟩
  rw [noneV ix]
  exact q.flat fun _ => .bl _
/-! x in a tuple of data -/
def rInTu (K : PySem.W.Frag) : R2 := fun x y H Q => ∃ d ds, Dp K H x d ∧ Dp K H y (.tuple ds) ∧ SeqAt.shaped d = true ∧ SeqAt.shaped (.tuple ds) = true ∧ Q (.bl (ds.any fun z => PyData.eqv z d)) H
theorem room_tu {A : Around} {ds : List D} {d : D} (h : SeqAt.shaped d = true) (hu : A.units + 65 < cLine) : A.units + 1 + min (PyData.depthAll ds) d.depth < cLine := by
  have h1 := SeqAt.depth_of_shaped h
  have h2 : min (PyData.depthAll ds) d.depth ≤ d.depth := Nat.min_le_right _ _
  omega
theorem op_inTu (hu : X.A.units + 65 < cLine) : OpR X (compareOp .In) (rInTu X.K) := by
  intro pins s σ H x y v u Q I rx ry h
  obtain ⟨d, ds, hd, he, sd, se, q⟩ := h
  obtain ⟨as, r1⟩ := Dp.reads I d x v hd rx
  obtain ⟨bs, r2⟩ := Dp.reads I (.tuple ds) y u he ry
  exact SeqAt.in_tuple_reads r2 r1 (SeqAt.canLay_of_shaped se) (SeqAt.canLay_of_shaped sd) (room_tu sd hu) ⟨.bl _, H, I, rfl, q⟩
theorem od_in (hu : X.A.units + 65 < cLine) : OpD X (compareOp .In) inD := by
  refine ⟨_, (op_inD hu).or (op_inTu hu), fun T Hh H x y dx dy z Q hK s ix iy hg q => ?_⟩
  unfold inD memD at hg
  split at hg
  · split at hg
    · rename_i c
      cases hg
      obtain ⟨p1, s1, p2, s2⟩ := okE2 c
      exact .inl ⟨dx, _, hK ▸ (ix.same s).dp p1, hK ▸ (iy.same s).dp p2, s1, s2, q.flat fun _ => .bl _⟩
    · cases hg
  · split at hg
    · rename_i c
      cases hg
      obtain ⟨p1, s1, p2, s2⟩ := okE2 c
      exact .inr ⟨dx, _, hK ▸ (ix.same s).dp p1, hK ▸ (iy.same s).dp p2, s1, s2, q.flat fun _ => .bl _⟩
    · cases hg
  · cases hg
end
end RM
namespace RM
open PySem PySem.Spec PyProof.Rows L2 CS RZ
/-! ### calls of built-ins -/
def CallD (X : Cx) (f : Value) (g : List D → D → Prop) : Prop := ∃ r, CallR X f r ∧ ∀ (T : Tab) (Hh H : Hp) (vs : List V) (ds : List D) (z : D) (Q : VK), T.K = X.K → Same Hh H → IsL T Hh vs ds → g ds z → NewQ T Hh H z Q → r vs H Q
/-- .. whose result is a new list -/
def CallF (X : Cx) (f : Value) (g : List D → List D → Prop) : Prop := ∃ r, CallR X f r ∧ ∀ (T : Tab) (Hh H : Hp) (vs : List V) (ds : List D) (z : List D) (Q : VK), T.K = X.K → Same Hh H → IsL T Hh vs ds → g ds z → (∀ xs, IsL T Hh xs z → ∀ p, H p = none → Q (.ref p) (upd H p (.lst xs))) → r vs H Q
def cCB (g : List D → D → Prop) (ta : CA) : CE := fun ρ n k ke => ta ρ n (fun ds ρ' n' => ∃ z, g ds z ∧ k z ρ' n') ke
def cCF (g : List D → List D → Prop) (ta : CA) : CE := fun ρ n k ke => ta ρ n (fun ds ρ' n' => ∃ z, g ds z ∧ k (.list z) ρ' n') ke
theorem CallD.or {X : Cx} {f : Value} {g g' : List D → D → Prop} (h : CallD X f g) (h' : CallD X f g') : CallD X f (fun ds z => g ds z ∨ g' ds z) := by
  obtain ⟨r, h1, h2⟩ := h
  obtain ⟨r', h1', h2'⟩ := h'
  exact ⟨_, h1.or h1', fun T Hh H vs ds z Q a b c d e => d.elim (fun d => .inl (h2 T Hh H vs ds z Q a b c d e)) fun d => .inr (h2' T Hh H vs ds z Q a b c d e)⟩
theorem CallF.or {X : Cx} {f : Value} {g g' : List D → List D → Prop} (h : CallF X f g) (h' : CallF X f g') : CallF X f (fun ds z => g ds z ∨ g' ds z) := by
  obtain ⟨r, h1, h2⟩ := h
  obtain ⟨r', h1', h2'⟩ := h'
  exact ⟨_, h1.or h1', fun T Hh H vs ds z Q a b c d e => d.elim (fun d => .inl (h2 T Hh H vs ds z Q a b c d e)) fun d => .inr (h2' T Hh H vs ds z Q a b c d e)⟩
section
variable {X : Cx} {g : Glob} {xk : WX} {pos p : Pos} {x : Str} {e : Expr} {es : List Expr} {ta : CA} {id : String} {u : List D → D → Prop} {gl : List D → List D → Prop}
theorem cb_use {r : List V → Hp → VK → Prop} (G : Good X g) (hg : ∀ (T : Tab) (Hh H : Hp) (vs : List V) (ds : List D) (z : D) (Q : VK), T.K = X.K → Same Hh H → IsL T Hh vs ds → u ds z → NewQ T Hh H z Q → r vs H Q)
    {σ : L2.St} {H : Hp} {Q : VK} (h : lift g xk (cCB u ta) σ H Q) : tCB r (liftA g xk ta) σ H Q := by
  obtain ⟨C, ρ, n, O, k, ke, hK, E, t, x, q⟩ := h
  refine ⟨C, ρ, n, O, _, ke, hK, E, t, x, fun ds ρ1 n1 vs H1 O1 k1 E1 S1 i1 => ?_⟩
  obtain ⟨z, hz, k1⟩ := k1
  exact hg C.T (hid C O1 H1) H1 vs ds z Q (hK.1.trans G.K) hid_le i1 hz (newq E1 fun v3 H3 E3 S3 i3 => q _ _ _ _ _ _ k1 E3 (S1.trans S3) i3)
theorem cf_use {r : List V → Hp → VK → Prop} (G : Good X g) (hg : ∀ (T : Tab) (Hh H : Hp) (vs : List V) (ds : List D) (z : List D) (Q : VK), T.K = X.K → Same Hh H → IsL T Hh vs ds → gl ds z → (∀ xs, IsL T Hh xs z → ∀ p, H p = none → Q (.ref p) (upd H p (.lst xs))) → r vs H Q)
    {σ : L2.St} {H : Hp} {Q : VK} (h : liftF g xk (cCF gl ta) σ H Q) : tCB r (liftA g xk ta) σ H Q := by
  obtain ⟨C, ρ, n, O, k, ke, hK, E, t, x, q⟩ := h
  refine ⟨C, ρ, n, O, _, ke, hK, E, t, x, fun ds ρ1 n1 vs H1 O1 k1 E1 S1 i1 => ?_⟩
  obtain ⟨z, hz, k1⟩ := k1
  exact hg C.T (hid C O1 H1) H1 vs ds z Q (hK.1.trans G.K) hid_le i1 hz fun xs ix p hp => q _ _ _ _ _ _ _ k1 E1 S1 hp (same_new hp) (.lst upd_same ix) rfl
theorem pd_callB (hc : CallD X (.builtin id) u) (G : Good X g) (hg : Gl X x) (hm : X.mg x = none) (hv : bootBuiltins x = some (.builtin id)) (ha : PDA X g xk (e :: es) ta) (hn : x ≠ "__name__" := by decide) (hdb : (x == ("__debug__" : Str)) = false := by decide)
    (he : starEach (e :: es) X.env = (false, eval e X.env) :: starEach es X.env := by rfl) (hpl : (backTo pos (starEach es X.env)).any (·.1) = false := by rfl) : PD X g xk (.Call (.Name x p) (e :: es) [] pos) (cCB u ta) := by
  obtain ⟨r, hr, hg'⟩ := hc
  exact ⟨PE.imp (pe_callB hr hg hm hv ha.pa hn hdb he hpl) fun σ H Q h => cb_use G hg' h⟩
theorem pd_callTy (hc : CallD X (.type id) u) (G : Good X g) (hg : Gl X x) (hm : X.mg x = none) (hv : bootBuiltins x = some (.type id)) (ha : PDA X g xk (e :: es) ta) (hn : x ≠ "__name__" := by decide) (hdb : (x == ("__debug__" : Str)) = false := by decide)
    (he : starEach (e :: es) X.env = (false, eval e X.env) :: starEach es X.env := by rfl) (hpl : (backTo pos (starEach es X.env)).any (·.1) = false := by rfl) : PD X g xk (.Call (.Name x p) (e :: es) [] pos) (cCB u ta) := by
  obtain ⟨r, hr, hg'⟩ := hc
  exact ⟨PE.imp (pe_callTy hr hg hm hv ha.pa hn hdb he hpl) fun σ H Q h => cb_use G hg' h⟩
theorem pf_callB (hc : CallF X (.builtin id) gl) (G : Good X g) (hg : Gl X x) (hm : X.mg x = none) (hv : bootBuiltins x = some (.builtin id)) (ha : PDA X g xk (e :: es) ta) (hn : x ≠ "__name__" := by decide) (hdb : (x == ("__debug__" : Str)) = false := by decide)
    (he : starEach (e :: es) X.env = (false, eval e X.env) :: starEach es X.env := by rfl) (hpl : (backTo pos (starEach es X.env)).any (·.1) = false := by rfl) : PDF X g xk (.Call (.Name x p) (e :: es) [] pos) (cCF gl ta) := by
  obtain ⟨r, hr, hg'⟩ := hc
  exact ⟨PE.imp (pe_callB hr hg hm hv ha.pa hn hdb he hpl) fun σ H Q h => cf_use G hg' h⟩
theorem pf_callTy (hc : CallF X (.type id) gl) (G : Good X g) (hg : Gl X x) (hm : X.mg x = none) (hv : bootBuiltins x = some (.type id)) (ha : PDA X g xk (e :: es) ta) (hn : x ≠ "__name__" := by decide) (hdb : (x == ("__debug__" : Str)) = false := by decide)
    (he : starEach (e :: es) X.env = (false, eval e X.env) :: starEach es X.env := by rfl) (hpl : (backTo pos (starEach es X.env)).any (·.1) = false := by rfl) : PDF X g xk (.Call (.Name x p) (e :: es) [] pos) (cCF gl ta) := by
  obtain ⟨r, hr, hg'⟩ := hc
  exact ⟨PE.imp (pe_callTy hr hg hm hv ha.pa hn hdb he hpl) fun σ H Q h => cf_use G hg' h⟩
/-! which built-ins -/
def lenD : D → Option Nat
  | .list ds => some ds.length
  | .tuple ds => some ds.length
  | .str z => if z.length ≤ lim then some z.length else none
  | _ => none
def gLen (ds : List D) (z : D) : Prop := ∃ x n, ds = [x] ∧ lenD x = some n ∧ z = .int (n : Nat)
def seqD : D → Option (List D)
  | .list ds => some ds
  | .tuple ds => some ds
  | _ => none
def gTuple (ds : List D) (z : D) : Prop := ∃ x xs, ds = [x] ∧ seqD x = some xs ∧ z = .tuple xs
def gList (ds : List D) (z : List D) : Prop := ∃ x, ds = [x] ∧ seqD x = some z
def intsD (is : List Int) : List D := is.map PyData.int
def gSum (ds : List D) (z : D) : Prop := ∃ is, ds = [.list (intsD is)] ∧ z = .int is.sum
def boolsD (bs : List Bool) : List D := bs.map PyData.bool
def gAll (ds : List D) (z : D) : Prop := ∃ bs, ds = [.list (boolsD bs)] ∧ z = .bool (bs.all _root_.id)
def gMin2 (ds : List D) (z : D) : Prop := ∃ i j, ds = [.int i, .int j] ∧ z = .int (if j < i then j else i)
def gMin1 (ds : List D) (z : D) : Prop := ∃ is m, ds = [.list (intsD is)] ∧ z = .int m ∧ m ∈ is ∧ ∀ y ∈ is, m ≤ y
def gInt (ds : List D) (z : D) : Prop := (∃ i, ds = [.int i] ∧ z = .int i) ∨ ∃ b, ds = [.bool b] ∧ z = .int (if b then 1 else 0)
def leD' (a b : D) : Bool := PySem.W.dataLe false (fun d : D => d) a b
def gSorted (ds : List D) (z : List D) : Prop := ∃ x es, ds = [x] ∧ seqD x = some es ∧ plains es = true ∧ PySem.W.AllAlike es ∧ PySem.W.Sortable es ∧ (∀ d ∈ es, d.depth ≤ 60) ∧ z = es.mergeSort leD'
theorem IsL.one {T : Tab} {H : Hp} {vs : List V} {d : D} (h : IsL T H vs [d]) : ∃ v, vs = [v] ∧ Is T H v d := by
  cases h with
  | cons a b => cases b; exact ⟨_, rfl, a⟩
theorem IsL.two {T : Tab} {H : Hp} {vs : List V} {d e : D} (h : IsL T H vs [d, e]) : ∃ v u, vs = [v, u] ∧ Is T H v d ∧ Is T H u e := by
  cases h with
  | cons a b => obtain ⟨u, rfl, hu⟩ := b.one; exact ⟨_, _, rfl, a, hu⟩
theorem IsL.ints {T : Tab} {H : Hp} : ∀ {vs : List V} {is : List Int}, IsL T H vs (intsD is) → vs = is.map V.int
  | _, [], .nil => rfl
  | _, i :: is, .cons a b => by rw [List.map_cons, a.int', IsL.ints (is := is) b]
theorem IsL.bools {T : Tab} {H : Hp} : ∀ {vs : List V} {is : List Bool}, IsL T H vs (boolsD is) → vs = is.map V.bl
  | _, [], .nil => rfl
  | _, i :: is, .cons a b => by rw [List.map_cons, isBl a, IsL.bools (is := is) b]
theorem Is.seq {T : Tab} {H : Hp} {v : V} {d : D} {ds : List D} (h : Is T H v d) (e : seqD d = some ds) : ∃ a xs, v = .ref a ∧ IsL T H xs ds ∧ ((d = .list ds ∧ H a = some (.lst xs)) ∨ (d = .tuple ds ∧ SqT T.K H a xs)) := by
  cases h with
  | lst g r => cases e; exact ⟨_, _, rfl, r, .inl ⟨rfl, g⟩⟩
  | tup g r => cases e; exact ⟨_, _, rfl, r, .inr ⟨rfl, g.1⟩⟩
  | _ => cases e
theorem Is.seqH {T : Tab} {H : Hp} {v : V} {d : D} {ds : List D} (h : Is T H v d) (e : seqD d = some ds) : ∃ a xs, v = .ref a ∧ IsL T H xs ds ∧ ((d = .list ds ∧ H a = some (.lst xs)) ∨ (d = .tuple ds ∧ TpH T H a xs)) := by
  cases h with
  | lst g r => cases e; exact ⟨_, _, rfl, r, .inl ⟨rfl, g⟩⟩
  | tup g r => cases e; exact ⟨_, _, rfl, r, .inr ⟨rfl, g⟩⟩
  | _ => cases e
theorem cd_len : CallD X (.builtin "len") gLen := by
  refine ⟨_, call_len_seq.or call_len_str, fun T Hh H vs ds z Q hK s il hg q => ?_⟩
  obtain ⟨y, n, rfl, hn, rfl⟩ := hg
  obtain ⟨v, rfl, iv⟩ := il.one
  unfold lenD at hn
  split at hn
  · cases hn
    obtain ⟨a, xs, rfl, ha, r⟩ := iv.list'
    exact .inl ⟨a, xs, rfl, .inl (SqL.of (s _ _ ha)), by rw [r.length]; exact q.flat fun _ => .int _⟩
  · cases hn
    obtain ⟨a, xs, rfl, ha, r⟩ := iv.tup'
    exact .inl ⟨a, xs, rfl, .inr (hK ▸ sqt_same s ha), by rw [r.length]; exact q.flat fun _ => .int _⟩
  · obtain ⟨c, rfl⟩ := ifs hn
    rw [iv.str']
    exact .inr ⟨_, rfl, lim_le c, q.flat fun _ => .int _⟩
  · cases hn
theorem cd_tuple : CallD X (.type "tuple") gTuple := by
  refine ⟨_, call_tuple_of, fun T Hh H vs ds z Q hK s il hg q => ?_⟩
  obtain ⟨y, xs, rfl, hs, rfl⟩ := hg
  obtain ⟨v, rfl, iv⟩ := il.one
  obtain ⟨a, us, rfl, r, c⟩ := iv.seqH hs
  rcases c with ⟨_, c⟩ | ⟨_, c⟩
  · exact ⟨a, us, rfl, .inl ⟨SqL.of (s _ _ c), newT q r⟩⟩
  · exact ⟨a, us, rfl, .inr ⟨hK ▸ sqt_same s c.1, oldV q (.tup c r)⟩⟩
theorem cf_list : CallF X (.type "list") gList := by
  refine ⟨_, call_list_of, fun T Hh H vs ds z Q hK s il hg q => ?_⟩
  obtain ⟨y, rfl, hs⟩ := hg
  obtain ⟨v, rfl, iv⟩ := il.one
  obtain ⟨a, us, rfl, r, c⟩ := iv.seq hs
  rcases c with ⟨_, c⟩ | ⟨_, c⟩
  · exact ⟨a, us, rfl, .inl (SqL.of (s _ _ c)), q _ r⟩
  · exact ⟨a, us, rfl, .inr (hK ▸ sqt_same s c), q _ r⟩
theorem cd_all (hc : X.calm = true) : CallD X (.builtin "all") gAll := by
  refine ⟨_, cr_all hc, fun T Hh H vs ds z Q hK s il hg q => ?_⟩
  obtain ⟨is, rfl, rfl⟩ := hg
  obtain ⟨v, rfl, iv⟩ := il.one
  obtain ⟨a, xs, rfl, ha, r⟩ := iv.list'
  rw [r.bools] at ha
  exact ⟨a, is, rfl, SqL.of (s _ _ ha), q.flat fun _ => .bl _⟩
theorem cd_min (hc : X.calm = true) : CallD X (.builtin "min") (fun ds z => gMin2 ds z ∨ gMin1 ds z) := by
  refine ⟨_, (call_min2 hc).or (cr_min hc), fun T Hh H vs ds z Q hK s il hg q => ?_⟩
  rcases hg with ⟨i, j, rfl, rfl⟩ | ⟨is, m, rfl, rfl, hm, hy⟩
  · obtain ⟨v, u, rfl, iv, iu⟩ := il.two
    rw [iv.int', iu.int']
    exact .inl ⟨i, j, rfl, q.flat fun _ => .int _⟩
  · obtain ⟨v, rfl, iv⟩ := il.one
    obtain ⟨a, xs, rfl, ha, r⟩ := iv.list'
    rw [r.ints] at ha
    refine .inr ⟨a, is, rfl, SqL.of (s _ _ ha), List.length_pos_of_mem hm, fun m' h1 h2 => ?_⟩
    have e : m' = m := Int.le_antisymm (h2 m hm) (hy m' h1)
    rw [e]
    exact q.flat fun _ => .int _
theorem cd_int : CallD X (.type "int") gInt := by
  refine ⟨_, call_int1, fun T Hh H vs ds z Q hK s il hg q => ?_⟩
  rcases hg with ⟨i, rfl, rfl⟩ | ⟨i, rfl, rfl⟩
  · obtain ⟨v, rfl, iv⟩ := il.one
    rw [iv.int']
    exact .inl ⟨i, rfl, q.flat fun _ => .int _⟩
  · obtain ⟨v, rfl, iv⟩ := il.one
    rw [isBl iv]
    exact .inr ⟨i, rfl, q.flat fun _ => .int _⟩
/-- a list with what it holds, side by side -/
theorem zip_is {T : Tab} {H : Hp} : ∀ {xs : List V} {ds : List D}, IsL T H xs ds → (xs.zip ds).map Prod.fst = xs ∧ (xs.zip ds).map Prod.snd = ds ∧ ∀ z ∈ xs.zip ds, Is T H z.1 z.2
  | _, _, .nil => ⟨rfl, rfl, fun _ h => by cases h⟩
  | _, _, .cons (v := v) (d := d) a b => by
    obtain ⟨h1, h2, h3⟩ := zip_is b
    refine ⟨by rw [List.zip_cons_cons, List.map_cons, h1], by rw [List.zip_cons_cons, List.map_cons, h2], fun z hz => ?_⟩
    rw [List.zip_cons_cons] at hz
    rcases List.mem_cons.mp hz with rfl | hz
    · exact a
    · exact h3 z hz
theorem isL_zip {T : Tab} {H : Hp} : ∀ {zs : List (V × D)}, (∀ z ∈ zs, Is T H z.1 z.2) → IsL T H (zs.map Prod.fst) (zs.map Prod.snd)
  | [], _ => .nil
  | z :: zs, h => .cons (h z (List.mem_cons_self ..)) (isL_zip fun y hy => h y (List.mem_cons_of_mem _ hy))
theorem plains_mem : ∀ {ds : List D}, plains ds = true → ∀ d ∈ ds, plain d = true
  | [], _, _, h => by cases h
  | d :: ds, p, e, h => by
    have p' := Bool.and_eq_true_iff.mp p
    rcases List.mem_cons.mp h with rfl | h
    · exact p'.1
    · exact plains_mem p'.2 e h
theorem map_mergeSort {α β : Type} (f : α → β) (le : β → β → Bool) (l : List α) (ht : ∀ a b c, le a b = true → le b c = true → le a c = true) (hT : ∀ a b, (le a b || le b a) = true) : (l.mergeSort fun a b => le (f a) (f b)).map f = (l.map f).mergeSort le := by
  exact List.map_mergeSort fun a _ b _ => rfl
theorem cf_sorted (hu : X.A.units + 64 < cLine) : CallF X (.builtin "sorted") gSorted := by
  refine ⟨_, cr_sortedDt hu, fun T Hh H vs ds z Q hK s il hg q => ?_⟩
  obtain ⟨y, es, rfl, hs, hp, hA, hS, hd, rfl⟩ := hg
  obtain ⟨v, rfl, iv⟩ := il.one
  obtain ⟨a, us, rfl, r, c⟩ := iv.seq hs
  obtain ⟨z1, z2, z3⟩ := zip_is r
  have hmap : ((us.zip es).mergeSort ordD).map Prod.snd = es.mergeSort leD' := by
    have h : ((us.zip es).mergeSort ordD).map Prod.snd = ((us.zip es).map Prod.snd).mergeSort leD' := List.map_mergeSort fun a _ b _ => rfl
    rw [h, z2]
  refine ⟨a, us.zip es, rfl, ?_, fun z hz => ?_, by rw [z2]; exact hA, by rw [z2]; exact hS, fun z hz => hd _ ?_, fun p hnp => ?_⟩
  · rw [z1]
    rcases c with ⟨_, c⟩ | ⟨_, c⟩
    · exact .inl (SqL.of (s _ _ c))
    · exact .inr (hK ▸ sqt_same s c)
  · refine hK ▸ ((z3 z hz).same s).dp (plains_mem hp _ ?_)
    rw [← z2]
    exact List.mem_map_of_mem hz
  · rw [← z2]
    exact List.mem_map_of_mem hz
  · refine q _ ?_ p hnp
    rw [← hmap]
    exact isL_zip fun z hz => z3 z ((List.mergeSort_perm _ _).mem_iff.mp hz)
/-! ### subscripts, slices -/
def atD : D → D → Option D
  | .list ds, .int i => atI ds i
  | .tuple ds, .int i => atI ds i
  | .str z, .int i => if z.length ≤ lim then (atI z.cps.toList i).map fun c => .str ⟨#[c]⟩ else none
  | _, _ => none
def IxD (X : Cx) (g : D → D → Option D) : Prop := ∃ r, IxR X r ∧ ∀ (T : Tab) (Hh H : Hp) (x y : V) (dx dy z : D) (Q : VK), T.K = X.K → Same Hh H → Is T Hh x dx → Is T Hh y dy → g dx dy = some z → NewQ T Hh H z Q → r x y H Q
theorem atI_is {T : Tab} {H : Hp} {xs : List V} {ds : List D} {i : Int} {z : D} (h : IsL T H xs ds) (e : atI ds i = some z) : ∃ v, atI xs i = some v ∧ Is T H v z := by
  unfold atI at e ⊢
  rw [h.length]
  cases q : ixN ds.length i with
  | none => rw [q] at e; cases e
  | some j =>
    rw [q] at e
    exact h.get e
theorem ix_at : IxD X atD := by
  refine ⟨_, ix_seq, fun T Hh H x y dx dy z Q hK s ix iy hg q => ?_⟩
  unfold atD at hg
  split at hg
  · obtain ⟨a, xs, rfl, ha, r⟩ := ix.list'
    obtain ⟨v, h1, h2⟩ := atI_is r hg
    rw [iy.int']
    exact .inl ⟨a, xs, _, v, rfl, rfl, SqL.of (s _ _ ha), h1, oldV q h2⟩
  · obtain ⟨a, xs, rfl, ha, r⟩ := ix.tup'
    obtain ⟨v, h1, h2⟩ := atI_is r hg
    rw [iy.int']
    exact .inr (.inl ⟨a, xs, _, v, rfl, rfl, hK ▸ sqt_same s ha, h1, oldV q h2⟩)
  · rw [ix.str', iy.int']
    split at hg
    · rename_i z0 i c
      cases h : atI z0.cps.toList i with
      | none =>
        rw [h] at hg
        cases hg
      | some c' =>
        rw [h] at hg
        cases hg
        exact .inr (.inr ⟨_, _, c', rfl, rfl, lim_le c, h, q.flat fun _ => .str _⟩)
    · cases hg
  · cases hg
theorem pd_ix {u : D → D → Option D} {a b : Expr} {ta tb : CE} (hi : IxD X u) (G : Good X g) (ha : PD X g xk a ta) (hb : PD X g xk b tb) (hs : PlainIx b) : PD X g xk (.Subscript a b pos) (cOp u ta tb) := by
  obtain ⟨r, hr, hg⟩ := hi
  exact ⟨PE.imp (pe_ix hr ha.pe hb.pe hs) fun σ H Q h => op_use (f := getItem) G hg h⟩
abbrev CO := En → Nat → (Option Int → En → Nat → Prop) → KE → Prop
def liftO (g : Glob) (xk : WX) (td : CO) : TO := fun σ H Q => ∃ (C : Ctx) (ρ : En) (n : Nat) (O : Ow) (k : Option Int → En → Nat → Prop) (ke : KE), C.On g ∧ Ev C ρ n σ H O ∧ td ρ n k ke ∧ XL C xk ke ∧
  ∀ (b : Option Int) (ρ' : En) (n' : Nat) (H' : Hp) (O' : Ow), k b ρ' n' → Ev C ρ' n' σ H' O' → Same (hid C O H) (hid C O' H') → Q b H'
structure PDO (X : Cx) (g : Glob) (xk : WX) (e : Option Expr) (td : CO) : Prop where
  po : PO X e (liftO g xk td)
def cNo : CO := fun ρ n k _ => k none ρ n
def cPart (t : CE) : CO := fun ρ n k ke => t ρ n (fun d ρ' n' => ∃ i, d = .int i ∧ k (some i) ρ' n') ke
theorem po_imp {e : Option Expr} {t t' : TO} (h : PO X e t) (q : ∀ σ H Q, t' σ H Q → t σ H Q) : PO X e t' := ⟨fun pins s σ H Q I r => h.run pins s σ H Q I (q _ _ _ r)⟩
theorem pdo_none : PDO X g xk none cNo := ⟨po_imp po_none fun σ H Q ⟨C, ρ, n, O, k, ke, hK, E, t, x, q⟩ => q _ _ _ _ _ t E (Same.refl _)⟩
theorem pdo_some {t : CE} (h : PD X g xk e t) : PDO X g xk (some e) (cPart t) := by
  refine ⟨po_imp (po_some h.pe) fun σ H Q r => ?_⟩
  obtain ⟨C, ρ, n, O, k, ke, hK, E, t, x, q⟩ := r
  refine ⟨C, ρ, n, O, _, ke, hK, E, t, x, fun d ρ1 n1 v H1 O1 k1 E1 S1 i1 => ?_⟩
  obtain ⟨i, rfl, k1⟩ := k1
  have e := i1.int'
  subst e
  exact ⟨i, rfl, q _ _ _ _ _ k1 E1 S1⟩
def cutL (ds : List D) (lo hi : Option Int) : List D := (ds.drop (HT.sIx ds.length 0 lo)).take (HT.sIx ds.length ds.length hi - HT.sIx ds.length 0 lo)
def sliceD : D → Option Int → Option Int → Option D
  | .list ds, lo, hi => some (.list (cutL ds lo hi))
  | .tuple ds, lo, hi => some (.tuple (cutL ds lo hi))
  | .str z, lo, hi => if z.length ≤ lim then some (.str (cutS z lo hi)) else none
  | _, _, _ => none
def cSl (ta : CE) (tl th : CO) : CE := fun ρ n k ke => ta ρ n (fun x ρ1 n1 => tl ρ1 n1 (fun lo ρ2 n2 => th ρ2 n2 (fun hi ρ3 n3 => ∃ z, sliceD x lo hi = some z ∧ k z ρ3 n3) ke) ke) ke
theorem cutV_is {T : Tab} {H : Hp} {xs : List V} {ds : List D} (lo hi : Option Int) (h : IsL T H xs ds) : IsL T H (cutV xs lo hi) (cutL ds lo hi) := by
  unfold cutV cutL
  rw [h.length]
  exact (h.drop _).take _
theorem pd_slice {a : Expr} {lo hi : Option Expr} {ta : CE} {tl th : CO} {p2 : Pos} (G : Good X g) (ha : PD X g xk a ta) (hl : PDO X g xk lo tl) (hh : PDO X g xk hi th) : PD X g xk (.Subscript a (.Slice lo hi none p2) pos) (cSl ta tl th) := by
  refine ⟨PE.imp (pe_slice (SlR.or sl_list (SlR.or sl_tupA sl_str)) ha.pe hl.po hh.po) fun σ H Q h => ?_⟩
  obtain ⟨C, ρ, n, O, k, ke, hK, E, t, x, q⟩ := h
  refine ⟨C, ρ, n, O, _, ke, hK, E, t, x, fun d ρ1 n1 v H1 O1 k1 E1 S1 i1 => ⟨C, ρ1, n1, O1, _, ke, hK, E1, k1, x, fun lo ρ2 n2 H2 O2 k2 E2 S2 => ⟨C, ρ2, n2, O2, _, ke, hK, E2, k2, x, fun hi ρ3 n3 H3 O3 k3 E3 S3 => ?_⟩⟩⟩
  obtain ⟨z, hz, k3⟩ := k3
  have i3 := (i1.same S2).same S3
  have nq : NewQ C.T (hid C O3 H3) H3 z Q := newq E3 fun v4 H4 E4 S4 i4 => q _ _ _ _ _ _ k3 E4 (((S1.trans S2).trans S3).trans S4) i4
  unfold sliceD at hz
  split at hz
  · cases hz
    obtain ⟨a, xs, rfl, ha, r⟩ := i3.list'
    exact .inl ⟨a, xs, rfl, SqL.of (hid_le _ _ ha), newL nq (cutV_is _ _ r)⟩
  · cases hz
    obtain ⟨a, xs, rfl, ha, r⟩ := i3.tupH'
    refine .inr (.inl ⟨a, xs, rfl, (hK.1.trans G.K) ▸ sqt_same hid_le ha.1, fun c => ?_, fun _ => newT nq (cutV_is _ _ r)⟩)
    have e : cutV xs lo hi = xs := by
      unfold cutV
      rw [c.1, c.2, Nat.sub_zero]
      exact List.take_length
    have r2 := cutV_is lo hi r
    rw [e] at r2
    exact oldV nq (.tup ha r2)
  · obtain ⟨c, rfl⟩ := ifs hz
    rw [i3.str']
    exact .inr (.inr ⟨_, rfl, lim_le c, nq.flat fun _ => .str _⟩)
  · cases hz
end
end RM
namespace RM
open PySem PySem.Spec PyProof.Rows L2 CS RZ
/-! ### what is walked -/
structure WalkD (T : Tab) (J : It) (ds : List D) (Hb : Hp) : Prop where
  ex : ∃ (G : Hp → Prop) (Y : Nat → Hp → V → Hp → Prop), Walk J ds.length G Y ∧ (∀ H, Same Hb H → G H) ∧ ∀ (i : Nat) (x : V) (H H2 : Hp) (d : D), Same Hb H → Y i H x H2 → ds[i]? = some d →
    Same H H2 ∧ ∀ Hx, Same Hb Hx → (∀ a o, H2 a = some o → H a = none → Hx a = some o) → Is T Hx x d
def liftI (g : Glob) (xk : WX) (td : CA) : TI := fun σ H R => ∃ (C : Ctx) (ρ : En) (n : Nat) (O : Ow) (k : List D → En → Nat → Prop) (ke : KE), C.On g ∧ Ev C ρ n σ H O ∧ td ρ n k ke ∧ XL C xk ke ∧
  ∀ (ds : List D) (ρ' : En) (n' : Nat) (J : It) (H' : Hp) (O' : Ow), k ds ρ' n' → Ev C ρ' n' σ H' O' → Same (hid C O H) (hid C O' H') → WalkD C.T J ds (hid C O' H') → R J H'
structure PDI (X : Cx) (g : Glob) (xk : WX) (tg : Expr) (e : Expr) (td : CA) : Prop where
  pi : PI X tg e (liftI g xk td)
theorem pi_imp {X : Cx} {tg e : Expr} {t t' : TI} (h : PI X tg e t) (q : ∀ σ H Q, t' σ H Q → t σ H Q) : PI X tg e t' := ⟨fun pins s σ H Q I r => h.run pins s σ H Q I (q _ _ _ r)⟩
section
variable {X : Cx} {g : Glob} {xk : WX} {tg : Expr} {pos p : Pos}
def iSeqV (K : PySem.W.Frag) (tl : TE) : TI := fun σ H R => tl σ H fun x H1 => ∃ a, x = .ref a ∧ (((∃ xs, SqL K H1 a xs) ∧ R (Itl K a) H1) ∨ ((∃ xs, SqT K H1 a xs) ∧ R (Itt K a) H1))
theorem pi_seqV {l : Expr} {tl : TE} (hl : PE X l tl) : PI X tg l (iSeqV X.K tl) := by
  refine ⟨fun pins s σ H R I h => ?_⟩
  refine thn (hl.run pins s σ H _ I h) fun v s1 ⟨x, H1, I1, r1, q1⟩ => ?_
  obtain ⟨a, e, q1⟩ := q1
  subst e
  cases r1
  have own : ∀ b ∈ [s1.heap.objs.size], _ := fun b hb => (List.mem_singleton.mp hb) ▸ I1.fpOk (Nat.le_refl _) (I1.hok.fresh (Nat.le_refl _))
  have up : ∀ (u : Obj) b o, s1.heap.get? b = some o → (s1.heap.push u).get? b = some o := fun _ _ _ e => Heap.get?_push_of_some _ e
  rcases q1 with ⟨⟨xs, hq⟩, q⟩ | ⟨⟨xs, hq⟩, q⟩
  · obtain ⟨_, _, p, _⟩ := I1.list hq
    exact wpAny_pyIter_list p.isList ⟨_, [s1.heap.objs.size], _, _, H1, rfl, I1.kept (t' := s1.toks) (up _), turn_list a _, ⟨_, Heap.get?_push_size _ rfl, rfl, rfl⟩, own, q⟩
  · obtain ⟨its, _, p, _⟩ := I1.tuple hq
    exact wpAny_pyIter_tuple (show s1.heap.IsTuple a its.toArray from p) ⟨_, [s1.heap.objs.size], _, _, H1, rfl, I1.kept (t' := s1.toks) (up _), turn_tuple a _, ⟨_, Heap.get?_push_size _ rfl, rfl, rfl⟩, own, q⟩
def cSeq (t : CE) : CA := fun ρ n k ke => t ρ n (fun d ρ' n' => ∃ ds, seqD d = some ds ∧ k ds ρ' n') ke
theorem walkd_list {T : Tab} {a : Addr} {xs : List V} {ds : List D} {Hb : Hp} (h : Hb a = some (.lst xs)) (r : IsL T Hb xs ds) : WalkD T (Itl T.K a) ds Hb :=
  ⟨⟨_, _, by rw [← r.length]; exact walk_list, fun H s => SqL.of (s _ _ h), fun i x H H2 d s y e => by
    obtain ⟨rfl, y⟩ := y
    obtain ⟨v, h1, h2⟩ := r.get e
    rw [y] at h1
    cases h1
    exact ⟨Same.refl _, fun Hx s2 _ => h2.same s2⟩⟩⟩
theorem walkd_tup {T : Tab} {a : Addr} {xs : List V} {ds : List D} {Hb : Hp} (h : SqT T.K Hb a xs) (r : IsL T Hb xs ds) : WalkD T (Itt T.K a) ds Hb :=
  ⟨⟨_, _, by rw [← r.length]; exact walk_tup, fun H s => sqt_same s h, fun i x H H2 d s y e => by
    obtain ⟨rfl, y⟩ := y
    obtain ⟨v, h1, h2⟩ := r.get e
    rw [y] at h1
    cases h1
    exact ⟨Same.refl _, fun Hx s2 _ => h2.same s2⟩⟩⟩
theorem pdi_seq {e : Expr} {t : CE} (G : Good X g) (h : PD X g xk e t) : PDI X g xk tg e (cSeq t) := by
  refine ⟨pi_imp (pi_seqV h.pe) fun σ H R r => ?_⟩
  obtain ⟨C, ρ, n, O, k, ke, hK, E, t, x, q⟩ := r
  refine ⟨C, ρ, n, O, _, ke, hK, E, t, x, fun d ρ1 n1 v H1 O1 k1 E1 S1 i1 => ?_⟩
  obtain ⟨ds, hs, k1⟩ := k1
  obtain ⟨a, us, rfl, r, c⟩ := i1.seq hs
  have eK := hK.1.trans G.K
  rcases c with ⟨_, c⟩ | ⟨_, c⟩
  · exact ⟨a, rfl, .inl ⟨⟨us, SqL.of (hid_le _ _ c)⟩, q _ _ _ _ _ _ k1 E1 S1 (eK ▸ walkd_list c r)⟩⟩
  · exact ⟨a, rfl, .inr ⟨⟨us, eK ▸ sqt_same hid_le c⟩, q _ _ _ _ _ _ k1 E1 S1 (eK ▸ walkd_tup c r)⟩⟩
def rangeD (lo : Int) (n : Nat) : List D := (List.range n).map fun i => .int (lo + (i : Nat))
theorem walkd_range {T : Tab} {lo : Int} {n : Nat} {Hb : Hp} : WalkD T (Itr lo n) (rangeD lo n) Hb :=
  ⟨⟨_, _, by unfold rangeD; rw [List.length_map, List.length_range]; exact walk_range, fun _ _ => trivial, fun i x H H2 d s y e => by
    obtain ⟨rfl, rfl⟩ := y
    unfold rangeD at e
    rw [List.getElem?_map] at e
    cases h : (List.range n)[i]? with
    | none => rw [h] at e; cases e
    | some j =>
      rw [h] at e
      obtain ⟨h1, h2⟩ := List.getElem?_eq_some_iff.mp h
      rw [List.getElem_range] at h2
      cases e
      rw [h2]
      exact ⟨Same.refl _, fun _ _ _ => .int _⟩⟩⟩
def cRange1 (ta : CA) : CA := fun ρ n k ke => ta ρ n (fun ds ρ' n' => ∃ j : Int, ds = [.int j] ∧ (-(2 ^ 62) ≤ j ∧ j < 2 ^ 62) ∧ k (rangeD 0 j.toNat) ρ' n') ke
def cRange2 (ta : CA) : CA := fun ρ n k ke => ta ρ n (fun ds ρ' n' => ∃ i j : Int, ds = [.int i, .int j] ∧ (-(2 ^ 62) ≤ i ∧ i < 2 ^ 62 ∧ -(2 ^ 62) ≤ j ∧ j < 2 ^ 62) ∧ k (rangeD i (j - i).toNat) ρ' n') ke
theorem pdi_range1 {a : Expr} {ta : CA} (hg : Gl X "range") (hm : X.mg "range" = none) (ha : PDA X g xk [a] ta) (hs : starEach [a] X.env = [(false, eval a X.env)] := by rfl) : PDI X g xk tg (.Call (.Name "range" p) [a] [] pos) (cRange1 ta) := by
  refine ⟨pi_imp (pi_range1 hg hm ha.pa hs) fun σ H R r => ?_⟩
  obtain ⟨C, ρ, n, O, k, ke, hK, E, t, x, q⟩ := r
  refine ⟨C, ρ, n, O, _, ke, hK, E, t, x, fun d ρ1 n1 v H1 O1 k1 E1 S1 i1 => ?_⟩
  obtain ⟨j, rfl, ⟨c1, c2⟩, k1⟩ := k1
  obtain ⟨v, rfl, iv⟩ := i1.one
  rw [iv.int']
  exact ⟨j, rfl, c1, c2, q _ _ _ _ _ _ k1 E1 S1 walkd_range⟩
theorem pdi_range2 {a b : Expr} {ta : CA} (hg : Gl X "range") (hm : X.mg "range" = none) (ha : PDA X g xk [a, b] ta) (hs : starEach [a, b] X.env = [(false, eval a X.env), (false, eval b X.env)] := by rfl) (hs2 : starEach [b] X.env = [(false, eval b X.env)] := by rfl) :
    PDI X g xk tg (.Call (.Name "range" p) [a, b] [] pos) (cRange2 ta) := by
  refine ⟨pi_imp (pi_range2 hg hm ha.pa hs hs2) fun σ H R r => ?_⟩
  obtain ⟨C, ρ, n, O, k, ke, hK, E, t, x, q⟩ := r
  refine ⟨C, ρ, n, O, _, ke, hK, E, t, x, fun d ρ1 n1 v H1 O1 k1 E1 S1 i1 => ?_⟩
  obtain ⟨i, j, rfl, c, k1⟩ := k1
  obtain ⟨v, u, rfl, iv, iu⟩ := i1.two
  rw [iv.int', iu.int']
  exact ⟨i, j, rfl, c, q _ _ _ _ _ _ k1 E1 S1 walkd_range⟩
/-! ### targets -/
abbrev CG := D → En → Option En
def AgreeOff (js : List Nat) (σ σ' : L2.St) : Prop := σ'.length = σ.length ∧ ∀ j, j ∉ js → σ'[j]? = σ[j]?
def liftG (g : Glob) (js : List Nat) (cg : CG) : TG := fun v σ H Q => ∃ (C : Ctx) (ρ ρ' : En) (n : Nat) (O : Ow) (d : D), C.On g ∧ Ev C ρ n σ H O ∧ Is C.T (hid C O H) v d ∧ cg d ρ = some ρ' ∧
  ∀ (σ' : L2.St) (O' : Ow), Ev C ρ' n σ' H O' → Same (hid C O H) (hid C O' H) → AgreeOff js σ σ' → Q σ' H
def liftGs (g : Glob) (js : List Nat) (cg : List D → En → Option En) : TGs := fun vs σ H Q => ∃ (C : Ctx) (ρ ρ' : En) (n : Nat) (O : Ow) (ds : List D), C.On g ∧ Ev C ρ n σ H O ∧ IsL C.T (hid C O H) vs ds ∧ cg ds ρ = some ρ' ∧
  ∀ (σ' : L2.St) (O' : Ow), Ev C ρ' n σ' H O' → Same (hid C O H) (hid C O' H) → AgreeOff js σ σ' → Q σ' H
structure PDG (X : Cx) (g : Glob) (js : List Nat) (e : Expr) (cg : CG) : Prop where
  pg : PG X e (liftG g js cg)
structure PDGs (X : Cx) (g : Glob) (js : List Nat) (es : List Expr) (cg : List D → En → Option En) : Prop where
  pgs : PGs X es (liftGs g js cg)
def stN (i : Nat) : CG := fun d ρ => some (ρ.set i (some (Sl.v d)))
def stNil : List D → En → Option En
  | [], ρ => some ρ
  | _, _ => none
def stCons (s : CG) (t : List D → En → Option En) : List D → En → Option En
  | d :: ds, ρ => (s d ρ).bind (t ds)
  | _, _ => none
def stT (t : List D → En → Option En) : CG := fun d ρ => (seqD d).bind fun ds => t ds ρ
theorem AgreeOff.refl (σ : L2.St) : AgreeOff [] σ σ := ⟨rfl, fun _ _ => rfl⟩
theorem AgreeOff.trans {js ks : List Nat} {a b c : L2.St} (h : AgreeOff js a b) (h' : AgreeOff ks b c) : AgreeOff (js ++ ks) a c := ⟨h'.1.trans h.1, fun j n => by
  rw [List.mem_append, not_or] at n
  exact (h'.2 j n.2).trans (h.2 j n.1)⟩
theorem agree_set {σ : L2.St} {i : Nat} {x : Option V} : AgreeOff [i] σ (σ.set i x) := ⟨List.length_set, fun j n => by
  rw [List.mem_singleton] at n
  exact List.getElem?_set_ne (Ne.symm n)⟩
theorem pdg_name {i : Nat} {x : Str} (hN : X.N.Nodup) (hi : X.N[i]? = some x) (hx : Loc X.env.scope x) (hf : X.fn x = true ∨ X.env.scope.names.lookup x = some .local := by first | exact .inl rfl | exact .inr rfl | assumption) : PDG X g [i] (.Name x pos) (stN i) := by
  refine ⟨⟨fun pins s σ H v u Q I r h => ?_⟩⟩
  obtain ⟨C, ρ, ρ', n, O, d, hK, E, iv, e, q⟩ := h
  cases e
  obtain ⟨a, b⟩ := E.set (i := i) iv
  exact (pg_name hN hi hx hf).run pins s σ H v u Q I r (q _ _ a b agree_set)
theorem pdgs_nil : PDGs X g [] [] stNil := by
  refine ⟨⟨fun pins s σ H vs us Q I r h => ?_⟩⟩
  obtain ⟨C, ρ, ρ', n, O, ds, hK, E, iv, e, q⟩ := h
  cases ds with
  | nil =>
    cases e
    cases iv
    exact pgs_nil.run pins s σ H [] us Q I r ⟨rfl, q _ _ E (Same.refl _) (.refl _)⟩
  | cons d ds => cases e
theorem pdgs_cons {js ks : List Nat} {e : Expr} {es : List Expr} {t : CG} {u : List D → En → Option En} (h1 : PDG X g js e t) (h2 : PDGs X g ks es u)
    (hs : (assignEach (e :: es) X.env).map (·.2) = assign e X.env :: (assignEach es X.env).map (·.2) := by rfl) : PDGs X g (js ++ ks) (e :: es) (stCons t u) := by
  refine ⟨⟨fun pins s σ H vs us Q I r h => ?_⟩⟩
  obtain ⟨C, ρ, ρ', n, O, ds, hK, E, iv, e', q⟩ := h
  cases ds with
  | nil => cases e'
  | cons d ds =>
    cases iv with
    | cons a b =>
      replace e' : (t d ρ).bind (u ds) = some ρ' := e'
      cases hd : t d ρ with
      | none => rw [hd] at e'; cases e'
      | some ρ1 =>
        rw [hd] at e'
        exact (pgs_cons h1.pg h2.pgs hs).run pins s σ H _ us Q I r ⟨_, _, rfl, C, ρ, ρ1, n, O, d, hK, E, a, hd, fun σ1 O1 E1 S1 A1 => ⟨C, ρ1, ρ', n, O1, ds, hK, E1, b.same S1, e', fun σ2 O2 E2 S2 A2 => q _ _ E2 (S1.trans S2) (A1.trans A2)⟩⟩
theorem pg_or {e : Expr} {t u : TG} (h1 : PG X e t) (h2 : PG X e u) : PG X e (fun v σ H Q => t v σ H Q ∨ u v σ H Q) :=
  ⟨fun pins s σ H v w Q I r h => h.elim (h1.run pins s σ H v w Q I r) (h2.run pins s σ H v w Q I r)⟩
theorem pdg_tup {js : List Nat} {es : List Expr} {k : Nat} {t : List D → En → Option En} {m : Nat} (hc : X.calm = true) (G : Good X g) (h : PDGs X g js es t) (hl : ∀ ds ρ ρ', t ds ρ = some ρ' → ds.length = m)
    (hn : (assignEach es X.env).length = m := by rfl) (hst : (assignEach es X.env).findIdx? (·.1) = none := by rfl) : PDG X g js (.Tuple es k pos) (stT t) := by
  refine ⟨⟨fun pins s σ H v u Q I r h' => ?_⟩⟩
  obtain ⟨C, ρ, ρ', n, O, d, hK, E, iv, e, q⟩ := h'
  unfold stT at e
  cases hs : seqD d with
  | none => rw [hs] at e; cases e
  | some ds =>
    rw [hs] at e
    obtain ⟨a, us, rfl, r', c⟩ := iv.seq hs
    have l := hl ds ρ ρ' e
    have rest : liftGs g js t us σ H Q := ⟨C, ρ, ρ', n, O, ds, hK, E, r', e, q⟩
    have eK := hK.1.trans G.K
    refine (pg_or (pg_tup hc h.pgs hn hst) (pg_lst hc h.pgs hn hst)).run pins s σ H _ u Q I r ?_
    rcases c with ⟨_, c⟩ | ⟨_, c⟩
    · exact .inr ⟨a, us, rfl, SqL.of (hid_le _ _ c), by rw [r'.length, l], rest⟩
    · exact .inl ⟨a, us, rfl, eK ▸ sqt_same hid_le c, by rw [r'.length, l], rest⟩
theorem stNil_len (ds : List D) (ρ ρ' : En) (h : stNil ds ρ = some ρ') : ds.length = 0 := by
  cases ds with
  | nil => rfl
  | cons => cases h
theorem stCons_len {s : CG} {t : List D → En → Option En} {m : Nat} (ht : ∀ ds ρ ρ', t ds ρ = some ρ' → ds.length = m) (ds : List D) (ρ ρ' : En) (h : stCons s t ds ρ = some ρ') : ds.length = m + 1 := by
  cases ds with
  | nil => cases h
  | cons d ds =>
    replace h : (s d ρ).bind (t ds) = some ρ' := h
    cases hd : s d ρ with
    | none => rw [hd] at h; cases h
    | some ρ1 =>
      rw [hd] at h
      rw [List.length_cons, ht ds ρ1 ρ' h]
end
end RM
namespace RM
open PySem PySem.Spec PyProof.Rows L2 CS RZ
/-! ### a list in the making -/
def out (H : Hp) (a : Addr) : Hp := fun b => if b = a then none else H b
theorem out_same {H : Hp} {a : Addr} : out H a a = none := by unfold out; rw [if_pos rfl]
theorem out_ne {H : Hp} {a b : Addr} (h : b ≠ a) : out H a b = H b := by unfold out; rw [if_neg h]
theorem out_le {H : Hp} {a : Addr} : Same (out H a) H := fun b o h => by
  unfold out at h
  split at h
  · cases h
  · exact h
theorem out_upd {H : Hp} {a : Addr} {o : HO} : out (upd H a o) a = out H a := by
  funext b
  by_cases c : b = a
  · rw [c, out_same, out_same]
  · rw [out_ne c, out_ne c, upd_ne c]
theorem out_new {H : Hp} {a : Addr} {o : HO} (h : H a = none) : out (upd H a o) a = H := by
  funext b
  by_cases c : b = a
  · rw [c, out_same, h]
  · rw [out_ne c, upd_ne c]
/-- one more address is hidden, its object stays -/
def Ctx.plus (C : Ctx) (a : Addr) (o : HO) : Ctx := { C with Z := fun b => C.Z b ∨ b = a, H0 := upd C.H0 a o }
section
variable {C : Ctx} {ρ : En} {n : Nat} {σ : L2.St} {H H' : Hp} {O : Ow} {a : Addr} {o : HO}
theorem hid_plus : hid (C.plus a o) O H = hid C O (out H a) := by
  funext b
  unfold hid
  by_cases c : b = a
  · subst c
    rw [if_pos (.inl (.inr rfl)), out_same]
    split <;> rfl
  · rw [out_ne c]
    by_cases z : C.Z b ∨ ∃ i, O i = some b
    · rw [if_pos z, if_pos]
      rcases z with z | z
      · exact .inl (.inl z)
      · exact .inr z
    · rw [if_neg z, if_neg]
      rintro ((w | w) | w)
      · exact z (.inl w)
      · exact c w
      · exact z (.inr w)
theorem Ev.hide (E : Ev C ρ n σ (out H a) O) (h : H a = some o) (no : ∀ xs, o ≠ HO.tup xs := by intro xs z; cases z) : Ev (C.plus a o) ρ n σ H O := by
  obtain ⟨f1, f2, f3, f4⟩ := E.fresh (p := a) out_same
  have keepO : ∀ i p, O i = some p → p ≠ a := fun i p e z => f2 i (e.trans (congrArg some z))
  refine ⟨E.len, fun i d e => ?_, fun i d e => ?_, fun i p e => ⟨(E.only i p e).1, ?_⟩, E.inj, fun b z => ?_, fun b xs z e => ?_, fun b u e z => ?_, fun b e => ⟨.inl (E.box b e).1, ?_⟩, E.slf, by rw [hid_plus]; exact E.vis⟩
  · rw [hid_plus]
    exact E.val i d e
  · rw [hid_plus]
    obtain ⟨p, h1, h2, h3⟩ := E.own i d e
    exact ⟨p, h1, h2, h3.same (Same.refl _) (out_ne (keepO i p h1)).symm⟩
  · show upd C.H0 a o p = none
    rw [upd_ne (keepO i p e)]
    exact (E.only i p e).2
  · by_cases c : b = a
    · exact ⟨o, by show upd C.H0 a o b = some o; rw [c, upd_same]⟩
    · rcases z with z | z
      · obtain ⟨u, hu⟩ := E.zs b z
        exact ⟨u, by show upd C.H0 a o b = some u; rw [upd_ne c]; exact hu⟩
      · exact absurd z c
  · replace e : upd C.H0 a o b = some (.tup xs) := e
    by_cases c : b = a
    · subst c
      rw [upd_same] at e
      exact no xs (Option.some.inj e)
    · rw [upd_ne c] at e
      rcases z with z | z
      · exact E.zt b xs z e
      · exact c z
  · replace e : upd C.H0 a o b = some u := e
    by_cases c : b = a
    · subst c
      rw [upd_same] at e
      exact h.trans e
    · rw [upd_ne c] at e
      exact (out_ne c).symm.trans (E.keep b u e z)
  · exact (E.box b e).2.same out_le
theorem Ev.unhide (E : Ev (C.plus a o) ρ n σ H O) (hz : ¬ C.Z a) (hb : C.T.bx ≠ some a) (h0 : C.H0 a = none) : Ev C ρ n σ (out H a) O ∧ H a = some o := by
  have ha : H a = some o := E.keep a o (by show upd C.H0 a o a = some o; exact upd_same) hb
  have keepO : ∀ i p, O i = some p → p ≠ a := fun i p e z => by
    have h1 : upd C.H0 a o p = none := (E.only i p e).2
    rw [z, upd_same] at h1
    cases h1
  refine ⟨⟨E.len, fun i d e => ?_, fun i d e => ?_, fun i p e => ⟨(E.only i p e).1, ?_⟩, E.inj, fun b z => ?_, fun b xs z e => ?_, fun b u e z => ?_, fun b e => ⟨?_, ?_⟩, E.slf, by have := E.vis; rw [hid_plus] at this; exact this⟩, ha⟩
  · have := E.val i d e
    rw [hid_plus] at this
    exact this
  · obtain ⟨p, h1, h2, h3⟩ := E.own i d e
    rw [hid_plus] at h3
    exact ⟨p, h1, h2, h3.same (Same.refl _) (out_ne (keepO i p h1))⟩
  · have h1 : upd C.H0 a o p = none := (E.only i p e).2
    rw [upd_ne (keepO i p e)] at h1
    exact h1
  · obtain ⟨u, hu⟩ := E.zs b (.inl z)
    replace hu : upd C.H0 a o b = some u := hu
    have c : b ≠ a := fun q => hz (q ▸ z)
    rw [upd_ne c] at hu
    exact ⟨u, hu⟩
  · have c : b ≠ a := fun q => hz (q ▸ z)
    refine E.zt b xs (.inl z) ?_
    show upd C.H0 a o b = _
    rw [upd_ne c]
    exact e
  · have c : b ≠ a := fun q => by rw [q, h0] at e; cases e
    rw [out_ne c]
    exact E.keep b u (by show upd C.H0 a o b = some u; rw [upd_ne c]; exact e) z
  · have c : b ≠ a := fun q => hb (e.trans (congrArg some q))
    rcases (E.box b e).1 with z | z
    · exact z
    · exact absurd z c
  · have c : b ≠ a := fun q => hb (e.trans (congrArg some q))
    obtain ⟨A, B, F, h1, h2⟩ := (E.box b e).2
    exact ⟨A, B, F, (out_ne c).trans h1, h2⟩
/-! slots forgotten -/
def wipeE (ρ : En) : List Nat → En
  | [] => ρ
  | v :: vs => (wipeE ρ vs).set v none
noncomputable def cutOs (O : Ow) : List Nat → Ow
  | [] => O
  | v :: vs => cutO (cutOs O vs) v
theorem hid_cuts : ∀ vs : List Nat, Same (hid C O H) (hid C (cutOs O vs) H)
  | [] => Same.refl _
  | _ :: vs => (hid_cuts vs).trans hid_cut
theorem Ev.wipes (E : Ev C ρ n σ H O) : ∀ vs : List Nat, Ev C (wipeE ρ vs) n (wipe σ vs) H (cutOs O vs)
  | [] => E
  | v :: vs => (E.wipes vs).wipe1 v
theorem Ev.unwipe {vs : List Nat} (E : Ev C ρ n (wipe σ vs) H O) : Ev C ρ n σ H O where
  len := by rw [E.len, wipe_length]
  val := fun i d e => let ⟨v, h1, h2⟩ := E.val i d e; ⟨v, (wipe_some h1).1, h2⟩
  own := fun i d e => let ⟨p, h1, h2, h3⟩ := E.own i d e; ⟨p, h1, (wipe_some h2).1, h3⟩
  only := E.only
  inj := E.inj
  zs := E.zs
  zt := E.zt
  keep := E.keep
  box := E.box
  slf := E.slf
  vis := E.vis
theorem wipe_get (σ : L2.St) (j : Nat) : ∀ vs : List Nat, (wipe σ vs)[j]? = if j ∈ vs then (σ[j]?).map (fun _ => none) else σ[j]?
  | [] => by simp [wipe]
  | v :: vs => by
    unfold wipe
    by_cases c : v = j
    · subst c
      rw [List.getElem?_set_self']
      rw [wipe_get σ v vs]
      simp only [List.mem_cons, true_or, if_true]
      split
      · cases σ[v]? <;> rfl
      · rfl
    · rw [List.getElem?_set_ne c, wipe_get σ j vs]
      have e : (j ∈ v :: vs) = (j ∈ vs) := by
        rw [List.mem_cons, eq_iff_iff]
        exact ⟨fun h => h.elim (fun z => absurd z.symm c) id, .inr⟩
      simp only [e]
theorem wipe_agree {σ σ' : L2.St} {js vs : List Nat} (h : AgreeOff js σ σ') (hs : ∀ j ∈ js, j ∈ vs) : wipe σ' vs = wipe σ vs := by
  refine List.ext_getElem? fun j => ?_
  rw [wipe_get, wipe_get]
  by_cases c : j ∈ vs
  · rw [if_pos c, if_pos c]
    by_cases l : j < σ.length
    · rw [List.getElem?_eq_getElem l, List.getElem?_eq_getElem (by rw [h.1]; exact l)]
      rfl
    · have hl := h.1
      rw [List.getElem?_eq_none (by omega), List.getElem?_eq_none (by omega)]
  · rw [if_neg c, if_neg c]
    exact h.2 j fun z => c (hs j z)
end
def kF : KE := fun _ _ _ => False
theorem xl_F {C : Ctx} {xk : WX} : XL C xk kF := fun _ _ _ _ _ _ _ _ h => h.elim
structure PDTs (X : Cx) (g : Glob) (xk : WX) (es : List Expr) (td : CT) : Prop where
  pts : PTs X es (liftT g xk td)
def cYes : CT := fun ρ n k _ => k true ρ n
section
variable {X : Cx} {g : Glob} {xk : WX} {pos : Pos}
theorem pdts_nil : PDTs X g xk [] cYes := ⟨⟨fun pins s σ H Q I h => by
  obtain ⟨C, ρ, n, O, k, ke, hK, E, t, x, q⟩ := h
  exact pts_nil.run pins s σ H Q I (q _ _ _ _ _ t E (Same.refl _))⟩⟩
theorem pdts_one {e : Expr} {td : CT} (h : PDT X g xk e td) : PDTs X g xk [e] td := ⟨pts_one h.pt⟩
/-- the turns of a comprehension -/
def cLcL (cg : CG) (tt : CT) (te : CE) (vs : List Nat) : List D → En → Nat → List D → (List D → En → Nat → Prop) → Prop
  | [], ρ, n, acc, k => k acc ρ n
  | d :: ds, ρ, n, acc, k => ∃ ρ1, cg d ρ = some ρ1 ∧ tt ρ1 n (fun b ρ2 n2 => if b = true then te ρ2 n2 (fun y ρ3 n3 => acc.length < lim ∧ cLcL cg tt te vs ds (wipeE ρ3 vs) n3 (acc ++ [y]) k) kF
      else cLcL cg tt te vs ds (wipeE ρ2 vs) n2 acc k) kF
def cLc (ci : CA) (cg : CG) (tt : CT) (te : CE) (vs : List Nat) : CE := fun ρ n k ke => ci ρ n (fun ds ρ' n' => cLcL cg tt te vs ds (wipeE ρ' vs) n' [] (fun acc ρ2 n2 => k (.list acc) ρ2 n2)) ke
theorem lc_use {ci : CA} {cg : CG} {js vs : List Nat} {tt : CT} {te : CE} (hj : ∀ j ∈ js, j ∈ vs) {σ : L2.St} {H : Hp} {Q : VK} (r : liftF g xk (cLc ci cg tt te vs) σ H Q) : tLc (liftI g xk ci) (liftG g js cg) (liftT g xF tt) (lift g xF te) vs σ H Q := by
  obtain ⟨C, ρ, n, O, k, ke, hK, E, t, x, q⟩ := r
  refine ⟨C, ρ, n, O, _, ke, hK, E, t, x, fun ds ρ1 n1 J H1 O1 k1 E1 S1 WD => ?_⟩
  intro Da nD
  obtain ⟨f1, f2, f3, f4⟩ := E1.fresh nD
  obtain ⟨Gd, Y, WK, hG, hY⟩ := WD.ex
  refine lc_it WK (fun i H => ∃ (ρ : En) (n : Nat) (O : Ow) (acc : List D) (accV : List V), Ev C ρ n (wipe σ vs) (out H Da) O ∧ H Da = some (.lst accV) ∧ IsL C.T (hid C O (out H Da)) accV acc ∧
    cLcL cg tt te vs (ds.drop i) ρ n acc (fun acc ρ2 n2 => k (.list acc) ρ2 n2) ∧ Same (hid C O1 H1) (hid C O (out H Da))) ?_ ?_ ?_ ?_
  · refine ⟨_, n1, _, [], [], (by rw [out_new nD]; exact E1.wipes vs), upd_same, .nil, k1, ?_⟩
    rw [out_new nD]
    exact hid_cuts vs
  · rintro i H2 _ ⟨ρ2, n2, O2, acc, accV, E2, eD, iA, c2, S2⟩
    exact hG _ ((S2.trans hid_le).trans out_le)
  · rintro i x0 H2 H3 hi' ⟨ρ2, n2, O2, acc, accV, E2, eD, iA, c2, S2⟩ y
    have hd : ds.drop i = ds[i] :: ds.drop (i + 1) := List.drop_eq_getElem_cons hi'
    rw [hd] at c2
    obtain ⟨ρ3, e3, c3⟩ := c2
    have S2' : Same (hid C O1 H1) H2 := (S2.trans hid_le).trans out_le
    obtain ⟨sY, iY⟩ := hY i x0 H2 H3 ds[i] S2' y (List.getElem?_eq_getElem hi')
    have E4 := E2.hide eD
    have E5 := E4.ext sY
    have h45 := hid_same (C := C.plus Da (.lst accV)) (O := O2) sY
    have S6 : Same (hid C O1 H1) (hid (C.plus Da (.lst accV)) O2 H3) := by
      refine Same.trans ?_ h45
      rw [hid_plus]
      exact S2
    have ix : Is C.T (hid (C.plus Da (.lst accV)) O2 H3) x0 ds[i] := iY _ S6 fun b u h1 h2 => let ⟨g1, g2, _, _⟩ := E4.fresh h2; hid_of h1 g1 g2
    refine ⟨C.plus Da (.lst accV), ρ2, ρ3, n2, O2, ds[i], hK, E5, ix, e3, fun σ4 O4 E6 S7 A4 => ⟨wipe_agree (σ := wipe σ vs) A4 hj |>.trans (by
      refine List.ext_getElem? fun j => ?_
      rw [wipe_get, wipe_get]
      split
      · cases σ[j]? <;> rfl
      · rfl), ?_⟩⟩
    have wp : wipe σ4 vs = wipe σ vs := wipe_agree (σ := wipe σ vs) A4 hj |>.trans (by
      refine List.ext_getElem? fun j => ?_
      rw [wipe_get, wipe_get]
      split
      · cases σ[j]? <;> rfl
      · rfl)
    refine ⟨C.plus Da (.lst accV), ρ3, n2, O4, _, kF, hK, E6, c3, xl_F, fun b ρ5 n5 H5 O5 c5 E7 S8 => ?_⟩
    cases b with
    | false =>
      show ∃ _, _
      obtain ⟨E8, eD8⟩ := E7.unhide f1 f4 f3
      have E9 := E8.wipes vs
      rw [wp] at E9
      have S10 := ((S6.trans S7).trans S8)
      rw [hid_plus] at S10
      have iA2 : IsL C.T (hid C O5 (out H5 Da)) accV acc := iA.same (by
        have := (h45.trans S7).trans S8
        rw [hid_plus, hid_plus] at this
        exact this)
      exact ⟨_, _, _, acc, accV, E9, eD8, iA2.same (hid_cuts vs), c5, S10.trans (hid_cuts vs)⟩
    | true =>
      refine ⟨C.plus Da (.lst accV), ρ5, n5, O5, _, kF, hK, E7, c5, xl_F, fun yd ρ6 n6 yv H6 O6 c6 E8 S9 iy => ?_⟩
      obtain ⟨E9, eD9⟩ := E8.unhide f1 f4 f3
      refine ⟨accV, eD9, by rw [iA.length]; exact lim_lt c6.1, ?_⟩
      have E10 := E9.wipes vs
      rw [wp] at E10
      have S10 := (((S6.trans S7).trans S8).trans S9)
      rw [hid_plus] at S10 iy
      have iA2 : IsL C.T (hid C O6 (out H6 Da)) accV acc := iA.same (by
        have := ((h45.trans S7).trans S8).trans S9
        rw [hid_plus, hid_plus] at this
        exact this)
      refine ⟨_, _, cutOs O6 vs, acc ++ [yd], accV ++ [yv], ?_, upd_same, ?_, c6.2, ?_⟩
      · rw [out_upd]
        exact E10
      · rw [out_upd]
        exact (iA2.append (.cons iy .nil)).same (hid_cuts vs)
      · rw [out_upd]
        exact S10.trans (hid_cuts vs)
  · rintro H2 ⟨ρ2, n2, O2, acc, accV, E2, eD, iA, c2, S2⟩
    rw [List.drop_length] at c2
    exact q _ _ _ _ _ _ _ c2 E2.unwipe (S1.trans S2) out_same out_le (.lst eD iA) rfl
theorem pf_lc {elt tg iter : Expr} {ifs : List Expr} {scope : Scope} {own : List (Str × Nat)} {ci : CA} {cg : CG} {js : List Nat} {tt : CT} {te : CE} (hc : X.calm = true) (hN : X.N.Nodup) (hi : PDI X g xk tg iter ci) (ok : BlkOk X.N X.env.scope scope own)
    (hg : ∀ (s : Shared) (H : Hp) (C : Addr) (cl : List (Str × Addr)) (fp : List Addr), PDG (X.blk s H scope (compEnvC scope cl C X.env) fp) g js tg cg) (ht : ∀ (s : Shared) (H : Hp) (C : Addr) (cl : List (Str × Addr)) (fp : List Addr), PDTs (X.blk s H scope (compEnvC scope cl C X.env) fp) g xF ifs tt)
    (he : ∀ (s : Shared) (H : Hp) (C : Addr) (cl : List (Str × Addr)) (fp : List Addr), PD (X.blk s H scope (compEnvC scope cl C X.env) fp) g xF elt te) (hj : ∀ j ∈ js, j ∈ own.map (·.2) := by decide) (hs : ∀ x, foldedSetIterable iter X.env x = pure x := by intro _; rfl) :
    PDF X g xk (.ListComp elt [⟨tg, iter, ifs, 0⟩] scope pos) (cLc ci cg tt te (own.map (·.2))) :=
  ⟨PE.imp (pe_lc hc hN hi.pi ok (fun s H C cl fp => (hg s H C cl fp).pg) (fun s H C cl fp => (ht s H C cl fp).pts) (fun s H C cl fp => (he s H C cl fp).pe) hs) fun σ H Q r => lc_use hj r⟩
end
end RM
namespace RM
open PySem PySem.Spec PyProof.Rows L2 CS RZ
/-! ### statements -/
structure EndsD where
  nx : En → Nat → Prop
  rt : D → Nat → Prop
  bk : En → Nat → Prop
  ct : En → Nat → Prop
  xc : KE
abbrev CS := En → Nat → EndsD → Prop
/-- a def is left: what was there is kept, the box is at its count -/
structure Fin (C : Ctx) (n : Nat) (H : Hp) : Prop where
  keep : ∀ a o, C.H0 a = some o → C.T.bx ≠ some a → H a = some o
  box : ∀ b, C.T.bx = some b → BoxAt H b n
theorem Ev.fin {C : Ctx} {ρ : En} {n : Nat} {σ : L2.St} {H : Hp} {O : Ow} (E : Ev C ρ n σ H O) : Fin C n H := ⟨E.keep, fun b h => (E.box b h).2⟩
theorem hid_now {C : Ctx} {H : Hp} {O : Ow} : Same (hid C O H) (hid C now H) := fun a o h => by
  obtain ⟨h1, h2, _⟩ := hid_some h
  exact hid_of h1 h2 fun i z => nomatch z
structure LinkS (C : Ctx) (xk : WX) (e : EndsD) (Hb : Hp) (F : Ends) : Prop where
  nx : ∀ (ρ : En) (n : Nat) (σ : L2.St) (H : Hp) (O : Ow), e.nx ρ n → Ev C ρ n σ H O → Same Hb (hid C O H) → F.nx σ H
  rt : ∀ (d : D) (n : Nat) (v : V) (H : Hp), e.rt d n → Fin C n H → Is C.T (hid C now H) v d → F.rt v H
  bk : ∀ (ρ : En) (n : Nat) (σ : L2.St) (H : Hp) (O : Ow), e.bk ρ n → Ev C ρ n σ H O → Same Hb (hid C O H) → F.bk σ H
  ct : ∀ (ρ : En) (n : Nat) (σ : L2.St) (H : Hp) (O : Ow), e.ct ρ n → Ev C ρ n σ H O → Same Hb (hid C O H) → F.ct σ H
  xc : XL C xk e.xc
theorem LinkS.mono {C : Ctx} {xk : WX} {e : EndsD} {Hb Hb' : Hp} {F : Ends} (l : LinkS C xk e Hb F) (s : Same Hb Hb') : LinkS C xk e Hb' F :=
  ⟨fun ρ n σ H O a b c => l.nx ρ n σ H O a b (s.trans c), l.rt, fun ρ n σ H O a b c => l.bk ρ n σ H O a b (s.trans c), fun ρ n σ H O a b c => l.ct ρ n σ H O a b (s.trans c), l.xc⟩
def liftS (g : Glob) (xk : WX) (cs : CS) : TS := fun F σ H => ∃ (C : Ctx) (ρ : En) (n : Nat) (O : Ow) (e : EndsD), C.On g ∧ Ev C ρ n σ H O ∧ cs ρ n e ∧ LinkS C xk e (hid C O H) F
structure PDS (X : Cx) (g : Glob) (xk : WX) (st : Stmt) (cs : CS) : Prop where
  ps : PS X st (liftS g xk cs)
structure PDSs (X : Cx) (g : Glob) (xk : WX) (st : List Stmt) (cs : CS) : Prop where
  pss : PSs X st (liftS g xk cs)
theorem ps_imp {X : Cx} {e : Stmt} {t t' : TS} (h : PS X e t) (q : ∀ D σ H, t' D σ H → t D σ H) : PS X e t' := ⟨fun pins s σ H D I r => h.run pins s σ H D I (q _ _ _ r)⟩
theorem pss_imp {X : Cx} {e : List Stmt} {t t' : TS} (h : PSs X e t) (q : ∀ D σ H, t' D σ H → t D σ H) : PSs X e t' := ⟨fun pins s σ H D I r => h.run pins s σ H D I (q _ _ _ r)⟩
def cNext : CS := fun ρ n e => e.nx ρ n
def cSq (a b : CS) : CS := fun ρ n e => a ρ n { e with nx := fun ρ' n' => b ρ' n' e }
def cDrop (t : CE) : CS := fun ρ n e => t ρ n (fun _ ρ' n' => e.nx ρ' n') e.xc
def cRet (t : CE) : CS := fun ρ n e => t ρ n (fun d _ n' => e.rt d n') e.xc
def cSet (i : Nat) (t : CE) : CS := fun ρ n e => t ρ n (fun d ρ' n' => e.nx (ρ'.set i (some (Sl.v d))) n') e.xc
def cOwn (i : Nat) (t : CE) : CS := fun ρ n e => t ρ n (fun d ρ' n' => i < ρ'.length ∧ e.nx (ρ'.set i (some (Sl.own d))) n') e.xc
def cAsg (cg : CG) (t : CE) : CS := fun ρ n e => t ρ n (fun d ρ' n' => ∃ ρ2, cg d ρ' = some ρ2 ∧ e.nx ρ2 n') e.xc
def cIfS (c : CT) (a b : CS) : CS := fun ρ n e => c ρ n (fun t ρ' n' => if t = true then a ρ' n' e else b ρ' n' e) e.xc
def cForL (cg : CG) (body : CS) : List D → En → Nat → EndsD → Prop
  | [], ρ, n, e => e.nx ρ n
  | d :: ds, ρ, n, e => ∃ ρ1, cg d ρ = some ρ1 ∧ body ρ1 n { e with nx := fun ρ' n' => cForL cg body ds ρ' n' e, ct := fun ρ' n' => cForL cg body ds ρ' n' e, bk := e.nx }
def cFor (ci : CA) (cg : CG) (body : CS) : CS := fun ρ n e => ci ρ n (fun ds ρ' n' => cForL cg body ds ρ' n' e) e.xc
def cWhL (c : CT) (body : CS) : Nat → En → Nat → EndsD → Prop
  | 0, _, _, _ => False
  | m + 1, ρ, n, e => c ρ n (fun b ρ' n' => if b = true then body ρ' n' { e with nx := fun ρ2 n2 => cWhL c body m ρ2 n2 e, ct := fun ρ2 n2 => cWhL c body m ρ2 n2 e, bk := e.nx } else e.nx ρ' n') e.xc
def cWh (c : CT) (body : CS) : CS := fun ρ n e => ∃ m, cWhL c body m ρ n e
section
variable {X : Cx} {g : Glob} {xk : WX} {pos : Pos}
theorem pdss_nil : PDSs X g xk [] cNext := ⟨pss_imp pss_nil fun D σ H ⟨C, ρ, n, O, e, hK, E, t, l⟩ => l.nx _ _ _ _ _ t E (Same.refl _)⟩
theorem pdss_cons {st : Stmt} {rest : List Stmt} {a b : CS} (h1 : PDS X g xk st a) (h2 : PDSs X g xk rest b) : PDSs X g xk (st :: rest) (cSq a b) :=
  ⟨pss_imp (pss_cons h1.ps h2.pss) fun D σ H ⟨C, ρ, n, O, e, hK, E, t, l⟩ => ⟨C, ρ, n, O, _, hK, E, t, ⟨fun ρ' n' σ' H' O' x E' S => ⟨C, ρ', n', O', e, hK, E', x, l.mono S⟩, l.rt, l.bk, l.ct, l.xc⟩⟩⟩
theorem pdss_one {st : Stmt} {a : CS} (h1 : PDS X g xk st a) : PDSs X g xk [st] a := ⟨pss_one h1.ps⟩
theorem pds_expr {e : Expr} {t : CE} (he : PD X g xk e t) (hs : swapsWith e none pos.line X.env = pure false := by rfl) : PDS X g xk (.Expr e pos) (cDrop t) :=
  ⟨ps_imp (ps_expr he.pe hs) fun D σ H ⟨C, ρ, n, O, e, hK, E, t, l⟩ => ⟨C, ρ, n, O, _, _, hK, E, t, l.xc, fun d ρ' n' v H' O' x E' S i => l.nx _ _ _ _ _ x E' S⟩⟩
theorem pds_ret {e : Expr} {t : CE} (he : PD X g xk e t) : PDS X g xk (.Return (some e) pos) (cRet t) :=
  ⟨ps_imp (ps_ret he.pe) fun D σ H ⟨C, ρ, n, O, e, hK, E, t, l⟩ => ⟨C, ρ, n, O, _, _, hK, E, t, l.xc, fun d ρ' n' v H' O' x E' S i => l.rt _ _ _ _ x E'.fin (i.same hid_now)⟩⟩
theorem set_use {t : CE} {i : Nat} {D : Ends} {σ : L2.St} {H : Hp} (h : liftS g xk (cSet i t) D σ H) : tAsg (lift g xk t) (gName i) D σ H := by
  obtain ⟨C, ρ, n, O, e, hK, E, t, l⟩ := h
  refine ⟨C, ρ, n, O, _, _, hK, E, t, l.xc, fun d ρ' n' v H' O' x E' S iv => ?_⟩
  obtain ⟨a, b⟩ := E'.set (i := i) iv
  exact l.nx _ _ _ _ _ x a (S.trans b)
theorem own_use {t : CE} {i : Nat} {D : Ends} {σ : L2.St} {H : Hp} (h : liftS g xk (cOwn i t) D σ H) : tAsg (liftF g xk t) (gName i) D σ H := by
  obtain ⟨C, ρ, n, O, e, hK, E, t, l⟩ := h
  refine ⟨C, ρ, n, O, _, _, hK, E, t, l.xc, fun d ρ' n' p H1 H' O' x E' S hp s ow no => ?_⟩
  obtain ⟨a, b⟩ := E'.setOwn (i := i) x.1 hp s ow no
  exact l.nx _ _ _ _ _ x.2 a (S.trans b)
theorem pds_set {i : Nat} {x : Str} {e : Expr} {t : CE} {pos' : Pos} (hN : X.N.Nodup) (hi : X.N[i]? = some x) (hx : Loc X.env.scope x) (he : PD X g xk e t) (hs : swapsWith e (some (.Name x pos')) pos.line X.env = pure false := by rfl)
    (hf : X.fn x = true ∨ X.env.scope.names.lookup x = some .local := by first | exact .inl rfl | exact .inr rfl | assumption) : PDS X g xk (.Assign [.Name x pos'] e pos) (cSet i t) :=
  ⟨ps_imp (ps_set hN hi hx he.pe hs hf) fun D σ H h => set_use h⟩
theorem pds_own {i : Nat} {x : Str} {e : Expr} {t : CE} {pos' : Pos} (hN : X.N.Nodup) (hi : X.N[i]? = some x) (hx : Loc X.env.scope x) (he : PDF X g xk e t) (hs : swapsWith e (some (.Name x pos')) pos.line X.env = pure false := by rfl)
    (hf : X.fn x = true ∨ X.env.scope.names.lookup x = some .local := by first | exact .inl rfl | exact .inr rfl | assumption) : PDS X g xk (.Assign [.Name x pos'] e pos) (cOwn i t) :=
  ⟨ps_imp (ps_set hN hi hx he.pe hs hf) fun D σ H h => own_use h⟩
theorem pds_ownLc {i : Nat} {y : Str} {py : Pos} {elt tg iter : Expr} {ifs : List Expr} {scope : Scope} {own : List (Str × Nat)} {pos spos : Pos} {ci : CA} {cg : CG} {js : List Nat} {tt : CT} {te : CE} (hc : X.calm = true) (hN : X.N.Nodup) (hy : X.N[i]? = some y) (hyl : X.env.scope.names.lookup y = some .local)
    (hi : PDI X g xk tg iter ci) (ok : BlkOk X.N X.env.scope scope own)
    (hg : ∀ (s : Shared) (H : Hp) (C : Addr) (cl : List (Str × Addr)) (fp : List Addr), PDG (X.blk s H scope (compEnvC scope cl C X.env) fp) g js tg cg) (ht : ∀ (s : Shared) (H : Hp) (C : Addr) (cl : List (Str × Addr)) (fp : List Addr), PDTs (X.blk s H scope (compEnvC scope cl C X.env) fp) g xF ifs tt)
    (he : ∀ (s : Shared) (H : Hp) (C : Addr) (cl : List (Str × Addr)) (fp : List Addr), PD (X.blk s H scope (compEnvC scope cl C X.env) fp) g xF elt te)
    (hsw : swapsWith (.ListComp elt [⟨tg, iter, ifs, 0⟩] scope pos) (some (.Name y py)) spos.line X.env = pure true := by rfl) (hj : ∀ j ∈ js, j ∈ own.map (·.2) := by decide) (hs : ∀ x, foldedSetIterable iter X.env x = pure x := by intro _; rfl) :
    PDS X g xk (.Assign [.Name y py] (.ListComp elt [⟨tg, iter, ifs, 0⟩] scope pos) spos) (cOwn i (cLc ci cg tt te (own.map (·.2)))) :=
  ⟨ps_imp (ps_setLc hc hN hy hyl hsw hi.pi ok (fun s H C cl fp => (hg s H C cl fp).pg) (fun s H C cl fp => (ht s H C cl fp).pts) (fun s H C cl fp => (he s H C cl fp).pe) hs) fun D σ H h => lc_use hj (own_use h)⟩
theorem pds_asg {tg e : Expr} {t : CE} {cg : CG} {js : List Nat} (he : PD X g xk e t) (hg : PDG X g js tg cg) (hs : swapsWithSole [tg] e pos.line X.env = pure false := by rfl) (hw : swappedStores [tg] e X.env = pure none := by rfl)
    (h1 : (assignEach [tg] X.env).map (·.2) = [assign tg X.env] := by rfl) : PDS X g xk (.Assign [tg] e pos) (cAsg cg t) :=
  ⟨ps_imp (ps_asg he.pe hg.pg hs hw h1) fun D σ H ⟨C, ρ, n, O, e, hK, E, t, l⟩ => ⟨C, ρ, n, O, _, _, hK, E, t, l.xc, fun d ρ' n' v H' O' x E' S i => let ⟨ρ2, h2, x⟩ := x; ⟨C, ρ', ρ2, n', O', d, hK, E', i, h2, fun σ2 O2 E2 S2 _ => l.nx _ _ _ _ _ x E2 (S.trans S2)⟩⟩⟩
theorem pds_if {c : Expr} {p q : List Stmt} {tc : CT} {a b : CS} (hc : PDT X g xk c tc) (ha : PDSs X g xk p a) (hb : PDSs X g xk q b) : PDS X g xk (.If c p q pos) (cIfS tc a b) := by
  refine ⟨ps_imp (ps_if hc.pt ha.pss hb.pss) fun D σ H h => ?_⟩
  obtain ⟨C, ρ, n, O, e, hK, E, t, l⟩ := h
  refine ⟨C, ρ, n, O, _, _, hK, E, t, l.xc, fun b ρ' n' H' O' x E' S => ?_⟩
  cases b with
  | true => exact ⟨C, ρ', n', O', e, hK, E', x, l.mono S⟩
  | false => exact ⟨C, ρ', n', O', e, hK, E', x, l.mono S⟩
theorem pds_for {tg iter : Expr} {body : List Stmt} {ci : CA} {cg : CG} {js : List Nat} {cb : CS} (hp : PassesOwn (model X.prog X.w) X.A X.env X.xe) (hc : X.calm = true) (hi : PDI X g xk tg iter ci) (hg : PDG X g js tg cg) (hb : PDSs X g xk body cb)
    (hs : ∀ x, foldedSetIterable iter X.env x = pure x := by intro _; rfl) : PDS X g xk (.For tg iter body [] pos) (cFor ci cg cb) := by
  refine ⟨ps_imp (ps_for hp hc hi.pi hg.pg hb.pss hs) fun D σ H h => ?_⟩
  obtain ⟨C, ρ, n, O, e, hK, E, t, l⟩ := h
  refine ⟨C, ρ, n, O, _, _, hK, E, t, l.xc, fun ds ρ1 n1 J H1 O1 k1 E1 S1 WD => ?_⟩
  obtain ⟨Gd, Y, WK, hG, hY⟩ := WD.ex
  refine for_it WK (fun i σ H => ∃ (ρ : En) (n : Nat) (O : Ow), Ev C ρ n σ H O ∧ cForL cg cb (ds.drop i) ρ n e ∧ Same (hid C O1 H1) (hid C O H)) ⟨ρ1, n1, O1, E1, k1, Same.refl _⟩ ?_ ?_ ?_
  · rintro i σ2 H2 _ ⟨ρ2, n2, O2, E2, c2, S2⟩
    exact hG _ (S2.trans hid_le)
  · rintro i x0 σ2 H2 H3 hi' ⟨ρ2, n2, O2, E2, c2, S2⟩ y
    have hd : ds.drop i = ds[i] :: ds.drop (i + 1) := List.drop_eq_getElem_cons hi'
    rw [hd] at c2
    obtain ⟨ρ3, e3, c3⟩ := c2
    obtain ⟨sY, iY⟩ := hY i x0 H2 H3 ds[i] (S2.trans hid_le) y (List.getElem?_eq_getElem hi')
    have E5 := E2.ext sY
    have S6 : Same (hid C O1 H1) (hid C O2 H3) := S2.trans (hid_same sY)
    have ix : Is C.T (hid C O2 H3) x0 ds[i] := iY _ S6 fun b u h1 h2 => let ⟨g1, g2, _, _⟩ := E2.fresh h2; hid_of h1 g1 g2
    refine ⟨C, ρ2, ρ3, n2, O2, ds[i], hK, E5, ix, e3, fun σ4 O4 E6 S7 A4 => ?_⟩
    refine ⟨C, ρ3, n2, O4, _, hK, E6, c3, ⟨fun ρ5 n5 σ5 H5 O5 x E7 S8 => ⟨ρ5, n5, O5, E7, x, (S6.trans S7).trans S8⟩, l.rt, fun ρ5 n5 σ5 H5 O5 x E7 S8 => l.nx _ _ _ _ _ x E7 (((S1.trans S6).trans S7).trans S8), fun ρ5 n5 σ5 H5 O5 x E7 S8 => ⟨ρ5, n5, O5, E7, x, (S6.trans S7).trans S8⟩, l.xc⟩⟩
  · rintro σ2 H2 ⟨ρ2, n2, O2, E2, c2, S2⟩
    rw [List.drop_length] at c2
    exact l.nx _ _ _ _ _ c2 E2 (S1.trans S2)
theorem pds_while {c : Expr} {body : List Stmt} {tc : CT} {cb : CS} (hp : PassesOwn (model X.prog X.w) X.A X.env X.xe) (hc : PDT X g xk c tc) (hb : PDSs X g xk body cb) : PDS X g xk (.While c body [] pos) (cWh tc cb) := by
  refine ⟨ps_imp (ps_while hp hc.pt hb.pss) fun D σ H h => ?_⟩
  obtain ⟨C, ρ, n, O, e, hK, E, ⟨m0, t⟩, l⟩ := h
  refine ⟨fun m σ' H' => ∃ (ρ' : En) (n' : Nat) (O' : Ow), Ev C ρ' n' σ' H' O' ∧ cWhL tc cb m ρ' n' e ∧ Same (hid C O H) (hid C O' H'), ⟨m0, ρ, n, O, E, t, Same.refl _⟩, ?_⟩
  rintro m σ1 H1 ⟨ρ1, n1, O1, E1, c1, S1⟩
  cases m with
  | zero => exact c1.elim
  | succ m =>
    refine ⟨C, ρ1, n1, O1, _, _, hK, E1, c1, l.xc, fun b ρ2 n2 H2 O2 x E2 S2 => ?_⟩
    cases b with
    | false => exact l.nx _ _ _ _ _ x E2 (S1.trans S2)
    | true =>
      exact ⟨fun σ3 H3 => ∃ (ρ' : En) (n' : Nat) (O' : Ow), Ev C ρ' n' σ3 H3 O' ∧ cWhL tc cb m ρ' n' e ∧ Same (hid C O H) (hid C O' H3), fun σ3 H3 z => ⟨m, Nat.lt_succ_self m, z⟩,
        C, ρ2, n2, O2, _, hK, E2, x, ⟨fun ρ5 n5 σ5 H5 O5 x E7 S8 => ⟨ρ5, n5, O5, E7, x, (S1.trans S2).trans S8⟩, l.rt, fun ρ5 n5 σ5 H5 O5 x E7 S8 => l.nx _ _ _ _ _ x E7 ((S1.trans S2).trans S8), fun ρ5 n5 σ5 H5 O5 x E7 S8 => ⟨ρ5, n5, O5, E7, x, (S1.trans S2).trans S8⟩, l.xc⟩⟩
end
end RM
namespace RM
open PySem PySem.Spec PyProof.Rows L2 CS RZ
/-! ### defs and calls -/
abbrev SpD := List D → Nat → (D → Nat → Prop) → (Xv → Nat → Prop) → Prop
def spD (g : Glob) (sd : SpD) : Sp := fun vs H Q E => ∃ (C : Ctx) (ds : List D) (n : Nat) (k : D → Nat → Prop) (ke : Xv → Nat → Prop), C.On g ∧ C.H0 = H ∧ Ev C [] n [] H now ∧ IsL C.T (hid C now H) vs ds ∧ sd ds n k ke ∧
  (∀ (d : D) (n' : Nat) (v : V) (H' : Hp), k d n' → Fin C n' H' → Is C.T (hid C now H') v d → Q v H') ∧
  ∀ (c : Nat) (fs : List (D × D)) (n' : Nat) (dd : Option Addr) (H' : Hp), ke (c, fs) n' → Fin C n' H' → XIs C.T (hid C now H') dd fs → E (.ref (C.T.cls c)) dd H'
def startE (N : List Str) (ds : List D) : En := ds.map (fun d => some (Sl.v d)) ++ List.replicate (N.length - ds.length) none
section
variable {X : Cx} {g : Glob} {xk : WX} {pos : Pos} {C : Ctx} {ρ : En} {n : Nat} {σ : L2.St} {H H' : Hp} {O : Ow}
theorem startE_get {N : List Str} {ds : List D} {i : Nat} {d : D} (h : (startE N ds)[i]? = some (some (Sl.v d))) : ds[i]? = some d := by
  unfold startE at h
  by_cases c : i < ds.length
  · rw [List.getElem?_append_left (by rw [List.length_map]; exact c), List.getElem?_map] at h
    rw [List.getElem?_eq_getElem c] at h ⊢
    cases h
    rfl
  · rw [List.getElem?_append_right (by rw [List.length_map]; omega), List.getElem?_replicate] at h
    split at h <;> cases h
theorem startE_own {N : List Str} {ds : List D} {i : Nat} {d : D} (h : (startE N ds)[i]? = some (some (Sl.own d))) : False := by
  unfold startE at h
  by_cases c : i < ds.length
  · rw [List.getElem?_append_left (by rw [List.length_map]; exact c), List.getElem?_map] at h
    rw [List.getElem?_eq_getElem c] at h
    cases h
  · rw [List.getElem?_append_right (by rw [List.length_map]; omega), List.getElem?_replicate] at h
    split at h <;> cases h
theorem ev_start {N : List Str} {vs : List V} {ds : List D} (E : Ev C [] n [] H now) (i : IsL C.T (hid C now H) vs ds) : Ev C (startE N ds) n (start N vs) H now := by
  refine ⟨?_, fun j d h => ?_, fun j d h => (startE_own h).elim, fun j p h => (by cases h), fun j k p h => (by cases h), E.zs, E.zt, E.keep, E.box, fun p hp j q d h => (by cases h), E.vis⟩
  · unfold startE L2.start
    rw [List.length_append, List.length_append, List.length_map, List.length_map, List.length_replicate, List.length_replicate, i.length]
  · obtain ⟨v, h1, h2⟩ := i.get (startE_get h)
    refine ⟨v, ?_, h2⟩
    unfold L2.start
    rw [List.getElem?_append_left (by rw [List.length_map]; exact lt_of_get h1), List.getElem?_map, h1]
    rfl
/-- the end of a call, sorted by what it gives back -/
theorem cr_out {CX : CXT} {P : Program} {w : World} {outer : List Env} {s : Shared} {Q : VK} {E : XK} {R : Result → Shared → Prop} (he : ∀ e s', CX outer H s E e s' → R (.error e) s') (hv : ∀ u s', L2.CE outer P w H s Q u s' → R (.ok (.ret u)) s') : ∀ r s', CR CX outer P w H s Q E r s' → R r s'
  | .error e, s', h => he e s' h
  | .ok (.ret u), s', h => hv u s' h
  | .ok .next, _, h => h.elim
  | .ok .brk, _, h => h.elim
  | .ok .cont, _, h => h.elim
theorem fn_go {CX : CXT} {P : Program} {w : World} {K : PySem.W.Frag} {mg : Str → Option Value} {base : Heap} {outer : List Env} {A : Around} {s : Shared} {k : Nat} {f : Addr} {fd : FuncData} {ps : List Str} {sp : Sp} {us ds : List Value} {vs : List V} {Q : VK} {E : XK} {R : Result → Shared → Prop} (F : FnOk P w K mg base CX k f fd ps sp) (hr : Room k A) (e0 : Env0 P w K mg base A outer s H) (X : K.In s.heap)
    (hb : Binds K fd ps ds) (rv : Vals vs (us ++ ds)) (q : sp vs H Q E) (he : ∀ e s', CX outer H s E e s' → R (.error e) s') (hv : ∀ u s', L2.CE outer P w H s Q u s' → R (.ok (.ret u)) s') : codeAny (model P w) A (.call (.ref f) ⟨us, []⟩) R s :=
  codeAny_mono (F.run A outer s H ⟨us, []⟩ (us ++ ds) vs Q E hr e0 (hb s us X (rv.length.symm.trans (F.len _ _ _ _ q))) rv q) (cr_out he hv)
/-- a caller's slots are out of the callee's sight -/
def Ctx.sub (C : Ctx) (O : Ow) (H : Hp) : Ctx := { C with Z := fun a => C.Z a ∨ ∃ i, O i = some a, H0 := H, B := fun _ => none }
theorem hid_sub : hid (C.sub O H) now H' = hid C O H' := by
  funext a
  unfold hid
  by_cases c : C.Z a ∨ ∃ i, O i = some a
  · rw [if_pos c, if_pos (.inl c)]
  · rw [if_neg c, if_neg]
    rintro (z | ⟨i, z⟩)
    · exact c z
    · cases z
theorem ev_sub (E : Ev C ρ n σ H O) : Ev (C.sub O H) [] n [] H now := by
  refine ⟨rfl, fun i d h => by simp at h, fun i d h => by simp at h, fun i p h => (by cases h), fun i j p h => (by cases h), fun a z => ?_, fun a xs z e => ?_, fun a o h _ => h, fun b h => ⟨.inl (E.box b h).1, (E.box b h).2⟩, fun p hp j q d h => (by cases h), fun a o h => (by cases h)⟩
  rcases z with z | ⟨i, z⟩
  · obtain ⟨o, ho⟩ := E.zs a z
    by_cases c : C.T.bx = some a
    · obtain ⟨A, B, F, e, _⟩ := (E.box a c).2
      exact ⟨_, e⟩
    · exact ⟨o, E.keep a o ho c⟩
  · obtain ⟨⟨d, e⟩, _⟩ := E.only i a z
    obtain ⟨p, h1, _, h3⟩ := E.own i d e
    rw [z] at h1
    cases h1
    exact h3.some
  · replace e : H a = some (.tup xs) := e
    have := E.tup e
    obtain ⟨_, h2, h3⟩ := hid_some this
    rcases z with z | ⟨i, z⟩
    · exact h2 z
    · exact h3 i z
theorem ev_back {n' : Nat} (E : Ev C ρ n σ H O) (F : Fin (C.sub O H) n' H') : Ev C ρ n' σ H' O ∧ Same (hid C O H) (hid C O H') :=
  ⟨E.extB (fun a o h z => F.keep a o h z) F.box, E.hidKb fun a o h z => F.keep a o h z⟩
def cCall (sd : SpD) (ta : CA) : CE := fun ρ n k ke => ta ρ n (fun ds ρ' n' => sd ds n' (fun d n2 => k d ρ' n2) (fun x n2 => ke x ρ' n2)) ke
/-- the promise of the callee, from a caller's reading -/
theorem spD_use {sd : SpD} {ds : List D} {vs : List V} {k : D → Nat → Prop} {ke : KE} {Q : VK} (hK : C.On g) (E : Ev C ρ n σ H O) (x : XL C xk ke) (i : IsL C.T (hid C O H) vs ds) (s : sd ds n k (fun y n2 => ke y ρ n2))
    (q : ∀ (d : D) (n' : Nat) (v : V) (H' : Hp), k d n' → Ev C ρ n' σ H' O → Same (hid C O H) (hid C O H') → Is C.T (hid C O H') v d → Q v H') : spD g sd vs H Q (WE xk σ) := by
  refine ⟨C.sub O H, ds, n, k, fun y n2 => ke y ρ n2, hK, rfl, ev_sub E, by rw [hid_sub]; exact i, s, fun d n' v H' a F b => ?_, fun c fs n' dd H' a F b => ?_⟩
  · obtain ⟨e1, e2⟩ := ev_back E F
    rw [hid_sub] at b
    exact q d n' v H' a e1 e2 b
  · obtain ⟨e1, e2⟩ := ev_back E F
    rw [hid_sub] at b
    exact x c fs ρ n' σ H' O dd a e1 b
theorem pa0 {X : Cx} {σ : L2.St} {E : XK} : PassesAt CX0 X σ E := fun _ _ _ _ _ _ h => h.elim
theorem paF {X : Cx} (σ : L2.St) : PassesAt (L2.CX X.prog X.w) X σ (WE xF σ) := L2.passAt takes0 σ
theorem pd_call {CX : CXT} {sd : SpD} {k : Nat} {f : Addr} {fd : FuncData} {ps : List Str} {x : Str} {p : Pos} {e : Expr} {es : List Expr} {ta : CA} (F : FnOk X.prog X.w X.K X.mg X.base CX k f fd ps (spD g sd)) (hr : Room k X.A) (hg : Gl X x) (hm : X.mg x = some (.ref f)) (hk : PySem.W.keepIn X.K (.ref f) = true) (hb : Binds X.K fd ps [])
    (hx : ∀ σ, PassesAt CX X σ (WE xk σ)) (ha : PDA X g xk (e :: es) ta) (hdb : (x == ("__debug__" : Str)) = false := by decide) (he : starEach (e :: es) X.env = (false, eval e X.env) :: starEach es X.env := by rfl) (hpl : (backTo pos (starEach es X.env)).any (·.1) = false := by rfl) :
    PD X g xk (.Call (.Name x p) (e :: es) [] pos) (cCall sd ta) :=
  ⟨PE.imp (pe_callS F hr hg hm hk hb hx ha.pa hdb he hpl) fun σ H Q ⟨C, ρ, n, O, k, ke, hK, E, t, x, q⟩ => ⟨C, ρ, n, O, _, ke, hK, E, t, x, fun ds ρ1 n1 vs H1 O1 k1 E1 S1 i1 =>
    spD_use hK E1 x i1 k1 fun d n' v H' a b c i => q _ _ _ _ _ _ a b (S1.trans c) i⟩⟩
end
section
variable {P : Program} {w : World} {K : PySem.W.Frag} {mg : Str → Option Value} {base : Heap} {g : Glob}
/-- a def that raises nothing -/
theorem fnD {x qual : Str} {st : Stmt} {f : Addr} {fd : FuncData} {N ps : List Str} {k : Nat} {sd : SpD} {cs : CS} (F : Fun K x qual st f fd) (S : FnScope N ps (defScope st)) (hl : ∀ ds n k ke, sd ds n k ke → ds.length = ps.length)
    (hbody : ∀ (cdv : Value) (A : Around) (outer : List Env) (s : Shared) (H : Hp) (E : XK), Room k (A.deeper (envOfC qual (defScope st) s.heap.objs.size f cdv)) → PDSs (cxOf CX0 P w K mg base N qual (defScope st) f cdv A outer s H E).nox g xF (defBody st) cs)
    (himp : ∀ ds n k ke, sd ds n k ke → cs (startE N ds) n ⟨fun _ n' => k .none n', k, fun _ _ => False, fun _ _ => False, kF⟩) : FnOk P w K mg base CX0 (k + 1) f fd ps (spD g sd) := by
  refine F.ok S (fun vs H Q E h => ?_) (fun cdv A outer s H vs Q E hr h => ?_)
  · obtain ⟨C, ds, n, k, ke, _, _, _, i, sdd, _, _⟩ := h
    rw [i.length]
    exact hl _ _ _ _ sdd
  · refine ⟨_, (hbody cdv A outer s H E hr).pss, ?_⟩
    obtain ⟨C, ds, n, k, ke, hK, e0, Ev0, i, sdd, q, _⟩ := h
    exact ⟨C, _, n, now, _, hK, ev_start Ev0 i, himp _ _ _ _ sdd, ⟨fun ρ n' σ' H' O' a E' S' => q _ _ _ _ a E'.fin .non, fun d n' v H' a F b => q _ _ _ _ a F b, fun _ _ _ _ _ h => h.elim, fun _ _ _ _ _ h => h.elim, xl_F⟩⟩
/-- a def that may raise -/
theorem fnDX {x qual : Str} {st : Stmt} {f : Addr} {fd : FuncData} {N ps : List Str} {k : Nat} {sd : SpD} {cs : CS} (F : Fun K x qual st f fd) (S : FnScope N ps (defScope st)) (hl : ∀ ds n k ke, sd ds n k ke → ds.length = ps.length)
    (hbody : ∀ (cdv : Value) (A : Around) (outer : List Env) (s : Shared) (H : Hp) (E : XK), Room k (A.deeper (envOfC qual (defScope st) s.heap.objs.size f cdv)) → Takes (cxOf (L2.CX P w) P w K mg base N qual (defScope st) f cdv A outer s H E) (fun cls d _ H => E cls d H) →
      PDSs (cxOf (L2.CX P w) P w K mg base N qual (defScope st) f cdv A outer s H E) g (fun cls d _ H => E cls d H) (defBody st) cs)
    (himp : ∀ ds n k ke, sd ds n k ke → cs (startE N ds) n ⟨fun _ n' => k .none n', k, fun _ _ => False, fun _ _ => False, fun x _ n' => ke x n'⟩) : FnOk P w K mg base (L2.CX P w) (k + 1) f fd ps (spD g sd) := by
  refine F.okX S (fun vs H Q E h => ?_) (fun cdv A outer s H vs Q E hr h => ?_)
  · obtain ⟨C, ds, n, k, ke, _, _, _, i, sdd, _, _⟩ := h
    rw [i.length]
    exact hl _ _ _ _ sdd
  · refine ⟨_, (hbody cdv A outer s H E hr (takes_of rfl rfl rfl rfl)).pss, ?_⟩
    obtain ⟨C, ds, n, k, ke, hK, e0, Ev0, i, sdd, q, qe⟩ := h
    exact ⟨C, _, n, now, _, hK, ev_start Ev0 i, himp _ _ _ _ sdd, ⟨fun ρ n' σ' H' O' a E' S' => q _ _ _ _ a E'.fin .non, fun d n' v H' a F b => q _ _ _ _ a F b, fun _ _ _ _ _ h => h.elim, fun _ _ _ _ _ h => h.elim,
      fun c fs ρ' n' σ' H' O' dd a E' b => qe c fs n' dd H' a E'.fin (b.same hid_now)⟩⟩
end
end RM
namespace RM
open PySem PySem.Spec PyProof.Rows L2 CS RZ
/-! ### operands that are looked at, not taken: names of own things, values -/
def peekD (ρ : En) (i : Nat) : Option D := match ρ[i]? with
  | some (some (Sl.v d)) => some d
  | some (some (Sl.own d)) => some d
  | _ => none
inductive Pk (T : Tab) (Hh H : Hp) : V → D → Prop
  | val {v : V} {d : D} : Is T Hh v d → Pk T Hh H v d
  | own {p : Addr} {d : D} : OwnAt T Hh H p d → Pk T Hh H (.ref p) d
inductive Opd where
  | nm (i : Nat)
  | ex (t : CE)
def cOpd (o : Opd) (ρ : En) (n : Nat) (k : (En → Option D) → En → Nat → Prop) (ke : KE) : Prop := match o with
  | .nm i => (peekD ρ i).isSome = true ∧ k (fun ρ => peekD ρ i) ρ n
  | .ex t => t ρ n (fun d ρ' n' => k (fun _ => some d) ρ' n') ke
def liftQ (g : Glob) (xk : WX) (o : Opd) : TE := fun σ H Q => ∃ (C : Ctx) (ρ : En) (n : Nat) (O : Ow) (k : (En → Option D) → En → Nat → Prop) (ke : KE), C.On g ∧ Ev C ρ n σ H O ∧ cOpd o ρ n k ke ∧ XL C xk ke ∧
  ∀ (get : En → Option D) (ρ' : En) (n' : Nat) (v : V) (H' : Hp) (O' : Ow), k get ρ' n' → Ev C ρ' n' σ H' O' → Same (hid C O H) (hid C O' H') →
    (∀ (ρ2 : En) (n2 : Nat) (H2 : Hp) (O2 : Ow) (d : D), Ev C ρ2 n2 σ H2 O2 → Same (hid C O' H') (hid C O2 H2) → get ρ2 = some d → Pk C.T (hid C O2 H2) H2 v d) → Q v H'
structure PDQ (X : Cx) (g : Glob) (xk : WX) (e : Expr) (o : Opd) : Prop where
  pe : PE X e (liftQ g xk o)
section
variable {X : Cx} {g : Glob} {xk : WX} {pos : Pos} {C : Ctx} {ρ : En} {n : Nat} {σ : L2.St} {H H' : Hp} {O : Ow}
theorem peek_at (E : Ev C ρ n σ H O) {i : Nat} {d : D} (h : peekD ρ i = some d) : ∃ v, σ[i]? = some (some v) ∧ Pk C.T (hid C O H) H v d := by
  unfold peekD at h
  split at h
  · rename_i e
    cases h
    obtain ⟨v, h1, h2⟩ := E.val i _ e
    exact ⟨v, h1, .val h2⟩
  · rename_i e
    cases h
    obtain ⟨p, _, h1, h2⟩ := E.own i _ e
    exact ⟨_, h1, .own h2⟩
  · cases h
theorem Pk.is {T : Tab} {Hh H : Hp} {v : V} {d : D} (s : Same Hh H) (h : Pk T Hh H v d) : Is T H v d := by
  cases h with
  | val h => exact h.same s
  | own h =>
    cases h with
    | lst h r => exact .lst h (r.same s)
    | dk h r => exact .dk (.inl h) (r.same s)
    | dt h r => exact .dt (.inl h) (r.same s)
    | obj h h2 r => exact .obj h (s _ _ h2) (r.same s)
def scalD : D → Bool
  | .none => true
  | .bool _ => true
  | .int _ => true
  | .str _ => true
  | _ => false
theorem Is.scal {T : Tab} {H H' : Hp} {v : V} {d : D} (h : Is T H v d) (s : scalD d = true) : Is T H' v d := by
  cases h <;> first | exact .non | exact .bl _ | exact .int _ | exact .str _ | (cases s)
theorem scalQ {z : D} {Q : VK} (E : Ev C ρ n σ H O) (s : scalD z = true) (h : ∀ (v : V) (H' : Hp), Ev C ρ n σ H' O → Same (hid C O H) (hid C O H') → Is C.T (hid C O H') v z → Q v H') : NewQ C.T H H z Q := fun v H' s1 i =>
  h v H' (E.ext s1) (hid_same s1) ((i H' s1 fun a o e _ => e).scal s)
theorem pdq_nm (i : Nat) {x : Str} (hN : X.N[i]? = some x := by rfl) (hv : Vis X.env.scope x := by first | exact Or.inl rfl | exact Or.inr (Or.inl rfl) | exact Or.inr (Or.inr rfl)) (hd : (x == ("__debug__" : Str)) = false := by decide)
    (hcd : (x == ("__classdict__" : Str)) = false := by decide) : PDQ X g xk (.Name x pos) (.nm i) := by
  refine ⟨PE.imp (pe_var hN hv hd hcd) fun σ H Q r => ?_⟩
  obtain ⟨C, ρ, n, O, k, ke, hK, E, t, x, q⟩ := r
  obtain ⟨d, hd⟩ := Option.isSome_iff_exists.mp t.1
  obtain ⟨v, h1, h2⟩ := peek_at E hd
  refine ⟨v, h1, q _ _ _ _ _ _ t.2 E (Same.refl _) fun ρ2 n2 H2 O2 d2 E2 S2 hd2 => ?_⟩
  obtain ⟨v2, h3, h4⟩ := peek_at E2 hd2
  rw [h1] at h3
  cases h3
  exact h4
/-! scalar results -/
def cOpQ (u : D → D → Option D) (o : Opd) (tb : CE) : CE := fun ρ n k ke => cOpd o ρ n (fun get ρ1 n1 => tb ρ1 n1 (fun y ρ2 n2 => ∃ x z, get ρ2 = some x ∧ u x y = some z ∧ scalD z = true ∧ k z ρ2 n2) ke) ke
theorem opQ_use {u : D → D → Option D} {o : Opd} {tb : CE} {r : R2} (G : Good X g) (hg : ∀ (T : Tab) (Hh H : Hp) (x y : V) (dx dy z : D) (Q : VK), T.K = X.K → Same Hh H → Is T Hh x dx → Is T Hh y dy → u dx dy = some z → NewQ T Hh H z Q → r x y H Q)
    {σ : L2.St} {H : Hp} {Q : VK} (h : lift g xk (cOpQ u o tb) σ H Q) : tOp r (liftQ g xk o) (lift g xk tb) σ H Q := by
  obtain ⟨C, ρ, n, O, k, ke, hK, E, t, x, q⟩ := h
  refine ⟨C, ρ, n, O, _, ke, hK, E, t, x, fun get ρ1 n1 v H1 O1 k1 E1 S1 p1 => ⟨C, ρ1, n1, O1, _, ke, hK, E1, k1, x, fun d2 ρ2 n2 v2 H2 O2 k2 E2 S2 i2 => ?_⟩⟩
  obtain ⟨x0, z, h1, hz, sc, k2⟩ := k2
  exact hg C.T H2 H2 v v2 x0 d2 z Q (hK.1.trans G.K) (Same.refl _) ((p1 _ _ _ _ _ E2 S2 h1).is hid_le) (i2.same hid_le) hz (scalQ E2 sc fun v3 H3 E3 S3 i3 => q _ _ _ _ _ _ k2 E3 ((S1.trans S2).trans S3) i3)
theorem tB_use {t : TE} {td : CE} (ht : ∀ σ H Q, lift g xk td σ H Q → t σ H Q) {σ : L2.St} {H : Hp} {Q : Bool → Hp → Prop} (h : liftT g xk (cB td) σ H Q) : t σ H fun x H1 => ∃ b, x = .bl b ∧ Q b H1 := by
  obtain ⟨C, ρ, n, O, k, ke, hK, E, t, x, q⟩ := h
  refine ht _ _ _ ⟨C, ρ, n, O, _, ke, hK, E, t, x, fun d ρ1 n1 v H1 O1 k1 E1 S1 i1 => ?_⟩
  obtain ⟨b, rfl, k1⟩ := k1
  exact ⟨b, isBl i1, q _ _ _ _ _ k1 E1 S1⟩
theorem pdt_cmpQ {op : CmpOp} {u : D → D → Option D} {a b : Expr} {o : Opd} {tb : CE} (ho : OpD X (compareOp op) u) (G : Good X g) (ha : PDQ X g xk a o) (hb : PD X g xk b tb) (hm : behindInMarks op b = false) : PDT X g xk (.Compare a [op] [b] pos) (cB (cOpQ u o tb)) := by
  obtain ⟨r, hr, hg⟩ := ho
  exact ⟨PT.imp (pt_cmpR hr ha.pe hb.pe hm) fun σ H Q h => tB_use (fun _ _ _ h => opQ_use G hg h) h⟩
def cCBQ (u : List D → D → Prop) (o : Opd) : CE := fun ρ n k ke => cOpd o ρ n (fun get ρ1 n1 => ∃ x z, get ρ1 = some x ∧ u [x] z ∧ scalD z = true ∧ k z ρ1 n1) ke
theorem pd_callBQ {id : String} {u : List D → D → Prop} {x : Str} {p : Pos} {e : Expr} {o : Opd} (hc : CallD X (.builtin id) u) (G : Good X g) (hg : Gl X x) (hm : X.mg x = none) (hv : bootBuiltins x = some (.builtin id)) (ha : PDQ X g xk e o) (hn : x ≠ "__name__" := by decide) (hdb : (x == ("__debug__" : Str)) = false := by decide)
    (hs : starEach [e] X.env = (false, eval e X.env) :: starEach [] X.env := by rfl) (hpl : (backTo pos (starEach [] X.env)).any (·.1) = false := by rfl) : PD X g xk (.Call (.Name x p) [e] [] pos) (cCBQ u o) := by
  obtain ⟨r, hr, hg'⟩ := hc
  refine ⟨PE.imp (pe_callB hr hg hm hv (pa_cons ha.pe pa_nil hs) hn hdb hs hpl) fun σ H Q h => ?_⟩
  obtain ⟨C, ρ, n, O, k, ke, hK, E, t, x, q⟩ := h
  refine ⟨C, ρ, n, O, _, ke, hK, E, t, x, fun get ρ1 n1 v H1 O1 k1 E1 S1 p1 => ?_⟩
  obtain ⟨x0, z, h1, hz, sc, k1⟩ := k1
  exact hg' C.T H1 H1 [v] [x0] z Q (hK.1.trans G.K) (Same.refl _) (.cons ((p1 _ _ _ _ _ E1 (Same.refl _) h1).is hid_le) .nil) hz (scalQ E1 sc fun v3 H3 E3 S3 i3 => q _ _ _ _ _ _ k1 E3 (S1.trans S3) i3)
/-! a member -/
def cIxQ (o : Opd) (tb : CE) : CE := fun ρ n k ke => cOpd o ρ n (fun get ρ1 n1 => tb ρ1 n1 (fun y ρ2 n2 => ∃ x z, get ρ2 = some x ∧ atD x y = some z ∧ k z ρ2 n2) ke) ke
theorem pd_ixQ {a b : Expr} {o : Opd} {tb : CE} (G : Good X g) (ha : PDQ X g xk a o) (hb : PD X g xk b tb) (hs : PlainIx b) : PD X g xk (.Subscript a b pos) (cIxQ o tb) := by
  refine ⟨PE.imp (pe_ix ix_seq ha.pe hb.pe hs) fun σ H Q h => ?_⟩
  obtain ⟨C, ρ, n, O, k, ke, hK, E, t, x, q⟩ := h
  refine ⟨C, ρ, n, O, _, ke, hK, E, t, x, fun get ρ1 n1 v H1 O1 k1 E1 S1 p1 => ⟨C, ρ1, n1, O1, _, ke, hK, E1, k1, x, fun d2 ρ2 n2 v2 H2 O2 k2 E2 S2 i2 => ?_⟩⟩
  obtain ⟨x0, z, h1, hz, k2⟩ := k2
  have pk := p1 _ _ _ _ _ E2 S2 h1
  have fin : ∀ u, Is C.T (hid C O2 H2) u z → Q u H2 := fun u iu => q _ _ _ _ _ _ k2 E2 (S1.trans S2) iu
  unfold atD at hz
  split at hz
  · rename_i ds0 i0
    rw [i2.int']
    have : ∃ a xs, v = .ref a ∧ H2 a = some (.lst xs) ∧ IsL C.T (hid C O2 H2) xs ds0 := by
      cases pk with
      | val h => obtain ⟨a, xs, e, h, r⟩ := h.list'; exact ⟨a, xs, e, hid_le _ _ h, r⟩
      | own h => cases h with | lst h r => exact ⟨_, _, rfl, h, r⟩
    obtain ⟨a, xs, rfl, ha, r⟩ := this
    obtain ⟨u, h3, h4⟩ := atI_is r hz
    exact .inl ⟨a, xs, _, u, rfl, rfl, SqL.of ha, h3, fin u h4⟩
  · rw [i2.int']
    cases pk with
    | val h =>
      obtain ⟨a, xs, rfl, ha, r⟩ := h.tup'
      obtain ⟨u, h3, h4⟩ := atI_is r hz
      exact .inr (.inl ⟨a, xs, _, u, rfl, rfl, (hK.1.trans G.K) ▸ sqt_same hid_le ha, h3, fin u h4⟩)
    | own h => cases h
  · rw [i2.int']
    cases pk with
    | own h => cases h
    | val h =>
      rw [h.str']
      split at hz
      · rename_i z0 i c
        cases h' : atI z0.cps.toList i with
        | none =>
          rw [h'] at hz
          cases hz
        | some c' =>
          rw [h'] at hz
          cases hz
          exact .inr (.inr ⟨_, _, c', rfl, rfl, lim_le c, h', fin _ (.str _)⟩)
      · cases hz
  · cases hz
/-! the truth of a list, a tuple, a text -/
/-! own lists change -/
def cApp (i : Nat) (tb : CE) : CE := fun ρ n k ke => (∃ xs, ρ[i]? = some (some (Sl.own (.list xs)))) ∧ tb ρ n (fun y ρ1 n1 => ∃ xs, ρ1[i]? = some (some (Sl.own (.list xs))) ∧ xs.length < lim ∧ k .none (ρ1.set i (some (Sl.own (.list (xs ++ [y]))))) n1) ke
theorem own_list (E : Ev C ρ n σ H O) {i : Nat} {xs : List D} (h : ρ[i]? = some (some (Sl.own (.list xs)))) : ∃ p us, O i = some p ∧ σ[i]? = some (some (.ref p)) ∧ H p = some (.lst us) ∧ IsL C.T (hid C O H) us xs := by
  obtain ⟨p, h1, h2, h3⟩ := E.own i _ h
  cases h3 with
  | lst h3 r => exact ⟨p, _, h1, h2, h3, r⟩
theorem pd_append (i : Nat) {x : Str} {a : Expr} {tb : CE} {p1 apos : Pos} (ha : PD X g xk a tb) (hN : X.N[i]? = some x := by rfl) (hv : Vis X.env.scope x := by first | exact Or.inl rfl | exact Or.inr (Or.inl rfl) | exact Or.inr (Or.inr rfl)) (hd : (x == ("__debug__" : Str)) = false := by decide)
    (hcd : (x == ("__classdict__" : Str)) = false := by decide) (hbase : attributeBase (.Name x p1) "append" X.env (eval (.Name x p1) X.env) = eval (.Name x p1) X.env := by rfl)
    (hfew : ((backTo pos (starEach [a] X.env)).all (fun x => !x.1) && (backToKw pos (keywordEach [] X.env)).all (fun x => x.1.isSome)
      && decide (([a] : List Expr).length + ([] : List Keyword).length + (if ([] : List Keyword).isEmpty then 0 else 1) < 30)) = true := by rfl)
    (hline : (apos.endLine == pos.line) = true := by rfl) (hs : starEach [a] X.env = (false, eval a X.env) :: starEach [] X.env := by rfl) (hplain : (backTo pos (starEach [] X.env)).any (·.1) = false := by rfl) :
    PD X g xk (.Call (.Attribute (.Name x p1) "append" apos) [a] [] pos) (cApp i tb) := by
  refine ⟨PE.imp (pe_bm PySem.F.plainAttrs_list PySem.F.slot_list_append PySem.F.type_list_append mt_append (pe_var (i := i) hN hv hd hcd) (pa_cons ha.pe pa_nil hs) hbase hfew hline hs hplain) fun σ H Q h => ?_⟩
  obtain ⟨C, ρ, n, O, k, ke, hK, E, ⟨⟨xs, e0⟩, t⟩, x, q⟩ := h
  obtain ⟨p, us, g1, g2, g3, g4⟩ := own_list E e0
  refine ⟨.ref p, g2, .inl ⟨rfl, us, SqL.of g3⟩, C, ρ, n, O, _, ke, hK, E, t, x, fun d ρ1 n1 v H1 O1 k1 E1 S1 i1 => ?_⟩
  obtain ⟨ys, e1, hl, k1⟩ := k1
  obtain ⟨p', us', w1, w2, w3, w4⟩ := own_list E1 e1
  rw [g2] at w2
  cases w2
  obtain ⟨E2, S2⟩ := E1.chg (d := .list (ys ++ [d])) (o := .lst (us' ++ [v])) (lt_of_get e1) w1 (.lst upd_same (w4.append (.cons i1 .nil)))
  exact ⟨p, us', v, rfl, rfl, w3, by rw [w4.length]; exact lim_lt hl, q _ _ _ _ _ _ k1 E2 (S1.trans S2) .non⟩
end
end RM
namespace RM
open PySem PySem.Spec PyProof.Rows L2 CS RZ
section
variable {X : Cx} {g : Glob} {xk : WX} {pos : Pos} {C : Ctx} {ρ : En} {n : Nat} {σ : L2.St} {H H' : Hp} {O : Ow}
/-! ### truth -/
/-! ### own lists change -/
theorem name_at (E : Ev C ρ n σ H O) {ρ1 : En} {n1 : Nat} {H1 : Hp} {O1 : Ow} (E1 : Ev C ρ1 n1 σ H1 O1) {i : Nat} {p : Addr} {ys : List D} (h : σ[i]? = some (some (.ref p))) (e : ρ1[i]? = some (some (Sl.own (.list ys)))) : ∃ us, O1 i = some p ∧ H1 p = some (.lst us) ∧ IsL C.T (hid C O1 H1) us ys := by
  obtain ⟨p', us', w1, w2, w3, w4⟩ := own_list E1 e
  rw [h] at w2
  cases w2
  exact ⟨us', w1, w3, w4⟩
def ownL (ρ : En) (i : Nat) (xs : List D) : Prop := ρ[i]? = some (some (Sl.own (.list xs)))
def cMut (i : Nat) (ta : CA) (u : List D → List D → Option (D × List D)) : CE := fun ρ n k ke => (∃ xs, ownL ρ i xs) ∧ ta ρ n (fun ds ρ1 n1 => ∃ xs r ys, ownL ρ1 i xs ∧ xs.length < lim ∧ u xs ds = some (r, ys) ∧ k r (ρ1.set i (some (Sl.own (.list ys)))) n1) ke
/-- x.m(..) of an own list: what it tells, what is left -/
def MutD (X : Cx) (r : V → List V → Hp → VK → Prop) (u : List D → List D → Option (D × List D)) : Prop := ∀ (T : Tab) (Hh H : Hp) (p : Addr) (us vs : List V) (xs ds ys : List D) (z : D) (Q : VK), Same Hh H → H p = some (.lst us) → IsL T Hh us xs → IsL T Hh vs ds → xs.length < lim → u xs ds = some (z, ys) →
  (∀ v us', IsL T Hh us' ys → Is T Hh v z → Q v (upd H p (.lst us'))) → r (.ref p) vs H Q
theorem mut_use {r : V → List V → Hp → VK → Prop} {u : List D → List D → Option (D × List D)} {i : Nat} {ta : CA} (hM : MutD X r u) {σ : L2.St} {H : Hp} {Q : VK} (h : lift g xk (cMut i ta u) σ H Q) : tBM X.K "list" r (tVar i) (liftA g xk ta) σ H Q := by
  obtain ⟨C, ρ, n, O, k, ke, hK, E, ⟨⟨xs, e0⟩, t⟩, x, q⟩ := h
  obtain ⟨p, us, g1, g2, g3, g4⟩ := own_list E e0
  refine ⟨.ref p, g2, .inl ⟨rfl, us, SqL.of g3⟩, C, ρ, n, O, _, ke, hK, E, t, x, fun ds ρ1 n1 vs H1 O1 k1 E1 S1 i1 => ?_⟩
  obtain ⟨ys, z, zs, e1, hl, hu, k1⟩ := k1
  obtain ⟨us', w1, w3, w4⟩ := name_at E E1 g2 e1
  refine hM C.T (hid C O1 H1) H1 p us' vs ys ds zs z Q hid_le w3 w4 i1 hl hu fun v us2 i2 iz => ?_
  obtain ⟨E2, S2⟩ := E1.chg (d := .list zs) (o := .lst us2) (lt_of_get e1) w1 (.lst upd_same i2)
  exact q _ _ _ _ _ _ k1 E2 (S1.trans S2) (iz.same S2)
def uPopAt (xs ds : List D) : Option (D × List D) := match ds with
  | [.int i] => if 0 ≤ i ∧ i < 2 ^ 63 then (xs[i.toNat]?).map fun d => (d, xs.eraseIdx i.toNat) else none
  | _ => none
def uIns (xs ds : List D) : Option (D × List D) := match ds with
  | [.int i, d] => if 0 ≤ i ∧ i < 2 ^ 63 then some (.none, xs.take i.toNat ++ [d] ++ xs.drop i.toNat) else none
  | _ => none
theorem mu_popAt : MutD X rPopAt uPopAt := by
  intro T Hh H p us vs xs ds ys z Q s hp r i hl hu q
  unfold uPopAt at hu
  split at hu
  · split at hu
    · rename_i j c
      obtain ⟨v, rfl, iv⟩ := i.one
      rw [iv.int']
      cases hx : xs[j.toNat]? with
      | none => rw [hx] at hu; cases hu
      | some d =>
        rw [hx] at hu
        cases hu
        obtain ⟨y, h1, h2⟩ := r.get hx
        have l1 := lt_of_get h1
        refine ⟨p, us, j, j.toNat, y, rfl, rfl, hp, by omega, c.2, ?_, h1, q _ _ (r.eraseIdx _) h2⟩
        have h0 : ixN us.length j = some j.toNat := by
          unfold ixN
          rw [if_pos c.1, if_pos (by omega)]
        exact (ixN_seq h0).1
    · cases hu
  · cases hu
theorem pd_mut (i : Nat) {x : Str} {m : Str} {id : String} {a : Expr} {as : List Expr} {ta : CA} {p1 apos : Pos} {r : V → List V → Hp → VK → Prop} {u : List D → List D → Option (D × List D)} (slot : Slot "list" m id) (hty : typeOf (.builtin id) = pure (.type "method_descriptor")) (hm : MtR X id r) (hM : MutD X r u)
    (ha : PDA X g xk (a :: as) ta) (hN : X.N[i]? = some x := by rfl) (hv : Vis X.env.scope x := by first | exact Or.inl rfl | exact Or.inr (Or.inl rfl) | exact Or.inr (Or.inr rfl)) (hd : (x == ("__debug__" : Str)) = false := by decide)
    (hcd : (x == ("__classdict__" : Str)) = false := by decide) (hbase : attributeBase (.Name x p1) m X.env (eval (.Name x p1) X.env) = eval (.Name x p1) X.env := by rfl)
    (hfew : ((backTo pos (starEach (a :: as) X.env)).all (fun x => !x.1) && (backToKw pos (keywordEach [] X.env)).all (fun x => x.1.isSome)
      && decide ((a :: as).length + ([] : List Keyword).length + (if ([] : List Keyword).isEmpty then 0 else 1) < 30)) = true := by rfl)
    (hline : (apos.endLine == pos.line) = true := by rfl) (hs : starEach (a :: as) X.env = (false, eval a X.env) :: starEach as X.env := by rfl) (hplain : (backTo pos (starEach as X.env)).any (·.1) = false := by rfl) :
    PD X g xk (.Call (.Attribute (.Name x p1) m apos) (a :: as) [] pos) (cMut i ta u) :=
  ⟨PE.imp (pe_bm PySem.F.plainAttrs_list slot hty hm (pe_var (i := i) hN hv hd hcd) ha.pa hbase hfew hline hs hplain) fun σ H Q h => mut_use hM h⟩
/-- x.pop() -/
def cPop (i : Nat) : CE := fun ρ n k ke => ∃ xs d, ownL ρ i (xs ++ [d]) ∧ k d (ρ.set i (some (Sl.own (.list xs)))) n
theorem pd_pop (i : Nat) {x : Str} {p1 apos : Pos} (hN : X.N[i]? = some x := by rfl) (hv : Vis X.env.scope x := by first | exact Or.inl rfl | exact Or.inr (Or.inl rfl) | exact Or.inr (Or.inr rfl)) (hd : (x == ("__debug__" : Str)) = false := by decide)
    (hcd : (x == ("__classdict__" : Str)) = false := by decide) (hbase : attributeBase (.Name x p1) "pop" X.env (eval (.Name x p1) X.env) = eval (.Name x p1) X.env := by rfl) (hline : (apos.endLine == pos.line) = true := by rfl) :
    PD X g xk (.Call (.Attribute (.Name x p1) "pop" apos) [] [] pos) (cPop i) := by
  refine ⟨PE.imp (pe_bm0 PySem.F.plainAttrs_list PySem.F.slot_list_pop PySem.F.type_list_pop mt_pop (pe_var (i := i) hN hv hd hcd) hbase hline) fun σ H Q h => ?_⟩
  obtain ⟨C, ρ, n, O, k, ke, hK, E, ⟨xs, d, e0, t⟩, x, q⟩ := h
  obtain ⟨p, us, g1, g2, g3, g4⟩ := own_list E e0
  have hl : us.length = xs.length + 1 := by rw [g4.length]; simp
  obtain ⟨y, h1, h2⟩ := g4.get (i := xs.length) (x := d) (by simp)
  have hdl : IsL C.T (hid C O H) us.dropLast xs := by
    have := g4.take xs.length
    rw [List.take_left] at this
    rw [List.dropLast_eq_take, show us.length - 1 = xs.length by omega]
    exact this
  refine ⟨.ref p, g2, .inl ⟨rfl, us, SqL.of g3⟩, p, us, y, rfl, rfl, g3, by rw [show us.length - 1 = xs.length by omega]; exact h1, ?_⟩
  obtain ⟨E2, S2⟩ := E.chg (d := .list xs) (o := .lst us.dropLast) (lt_of_get e0) g1 (.lst upd_same hdl)
  exact q _ _ _ _ _ _ t E2 S2 (h2.same S2)
end
end RM
namespace RM
open PySem PySem.Spec PyProof.Rows L2 CS RZ
/-! ### dicts -/
theorem eqv_kD (a b : L2.Key) : PyData.eqv (kD a) (kD b) = decide (a = b) := by
  cases a <;> cases b
  · rename_i i j
    show (i == j) = _
    rw [← key_ll]
  · rfl
  · rfl
  · rename_i x y
    show (x == y) = _
    rw [key_rr]
    by_cases c : x = y
    · rw [decide_eq_true c, c]
      exact beq_self_eq_true y
    · rw [decide_eq_false c]
      exact beq_eq_false_iff_ne.mpr c
theorem eqvAll_kD : ∀ a b : List L2.Key, PyData.eqvAll (a.map kD) (b.map kD) = decide (a = b)
  | [], [] => rfl
  | [], _ :: _ => rfl
  | _ :: _, [] => rfl
  | x :: a, y :: b => by
    show (PyData.eqv (kD x) (kD y) && PyData.eqvAll (a.map kD) (b.map kD)) = _
    rw [eqv_kD, eqvAll_kD a b]
    simp
theorem eqv_kT (a b : List L2.Key) : PyData.eqv (.tuple (a.map kD)) (.tuple (b.map kD)) = decide (a = b) := eqvAll_kD a b
def flatK : D → Bool
  | .int _ => true
  | .str _ => true
  | _ => false
inductive KeyAt (Hh : Hp) : V → D → Prop
  | k (k : L2.Key) : KeyAt Hh (kV k) (kD k)
  | t {b : Addr} {ks : List L2.Key} : Hh b = some (.tup (ks.map kV)) → KeyAt Hh (.ref b) (.tuple (ks.map kD))
theorem KeyAt.same {H H' : Hp} {v : V} {d : D} (h : KeyAt H v d) (s : Same H H') : KeyAt H' v d := by
  cases h with
  | k k => exact .k k
  | t h => exact .t (s _ _ h)
theorem isT_look {T : Tab} {H : Hp} (k : List L2.Key) : ∀ {kvs : List (List L2.Key × V)} {ks : List (D × D)}, IsT T H kvs ks → match keyD ks (.tuple (k.map kD)) with
    | some d => ∃ v, valV kvs k = some v ∧ Is T H v d
    | none => valV kvs k = none
  | _, _, .nil => rfl
  | _, _, .cons (k := k') (v := v) (d := d) h r => by
    have ih := isT_look k r
    unfold keyD at ih ⊢
    rw [List.find?_cons]
    show match (match PyData.eqv (.tuple (k'.map kD)) (.tuple (k.map kD)) with | true => _ | false => _ : Option (D × D)).map (·.2) with | some d => _ | none => _
    rw [eqv_kT]
    by_cases c : k' = k
    · rw [decide_eq_true c]
      exact ⟨v, valV_pos (p := (k', v)) c, h⟩
    · rw [decide_eq_false c]
      rw [valV_neg (p := (k', v)) c]
      exact ih
/-- what a marked dict holds at a key: none where it may not be asked -/
def lookD : D → D → Option (Option D)
  | .dict ((.none, .bool false) :: ks), x => if flatK x = true then some (keyD ks x) else none
  | .dict ((.none, .bool true) :: ks), .tuple xs => if xs.all flatK = true then some (keyD ks (.tuple xs)) else none
  | _, _ => none
def isDct : D → Bool
  | .dict ((.none, .bool _) :: _) => true
  | _ => false
theorem flat_key {d : D} (h : flatK d = true) : ∃ k, d = kD k := by
  cases d <;> first | (exact ⟨.inl _, rfl⟩) | (exact ⟨.inr _, rfl⟩) | (cases h)
theorem pk_dt {T : Tab} {Hh H : Hp} {v : V} {ks : List (D × D)} (s : Same Hh H) (h : Pk T Hh H v (.dict ((.none, .bool true) :: ks))) : ∃ a kvs, v = .ref a ∧ Rd H a (.dT kvs) ∧ IsT T Hh kvs ks := by
  cases h with
  | val h => cases h with | dt h r => exact ⟨_, _, rfl, rd_same s h, r⟩
  | own h => cases h with | dt h r => exact ⟨_, _, rfl, .inl h, r⟩
def liftK (g : Glob) (xk : WX) (td : CE) : TE := fun σ H Q => ∃ (C : Ctx) (ρ : En) (n : Nat) (O : Ow) (k : D → En → Nat → Prop) (ke : KE), C.On g ∧ Ev C ρ n σ H O ∧ td ρ n k ke ∧ XL C xk ke ∧
  ∀ (d : D) (ρ' : En) (n' : Nat) (v : V) (H' : Hp) (O' : Ow), k d ρ' n' → Ev C ρ' n' σ H' O' → Same (hid C O H) (hid C O' H') → KeyAt (hid C O' H') v d → Q v H'
structure PDK (X : Cx) (g : Glob) (xk : WX) (e : Expr) (td : CE) : Prop where
  pe : PE X e (liftK g xk td)
section
variable {X : Cx} {g : Glob} {xk : WX} {pos : Pos}
def cKey (t : CE) : CE := fun ρ n k ke => t ρ n (fun d ρ' n' => flatK d = true ∧ k d ρ' n') ke
theorem isL_keys {T : Tab} {H : Hp} : ∀ {vs : List V} {ds : List D}, IsL T H vs ds → ds.all flatK = true → ∃ ks : List L2.Key, ds = ks.map kD ∧ vs = ks.map kV
  | _, _, .nil, _ => ⟨[], rfl, rfl⟩
  | _, _, .cons h r, f => by
    rw [List.all_cons, Bool.and_eq_true] at f
    obtain ⟨ks, e1, e2⟩ := isL_keys r f.2
    obtain ⟨k, rfl⟩ := flat_key f.1
    refine ⟨k :: ks, by rw [e1]; rfl, ?_⟩
    rw [e2]
    cases k with
    | inl i => rw [h.int']; rfl
    | inr i => rw [h.str']; rfl
def cDGet2 (o : Opd) (tk tx : CE) : CE := fun ρ n k ke => cOpd o ρ n (fun get ρ1 n1 => (∃ x0, get ρ1 = some x0 ∧ isDct x0 = true) ∧ tk ρ1 n1 (fun y ρ2 n2 => tx ρ2 n2 (fun dv ρ3 n3 => ∃ x z, get ρ3 = some x ∧ lookD x y = some z ∧ k (z.getD dv) ρ3 n3) ke) ke) ke
/-! a new dict, a store -/
def putKD (ks : List (D × D)) (x d : D) : List (D × D) := if (ks.any fun kv => PyData.eqv kv.1 x) = true then ks.map (fun kv => if PyData.eqv kv.1 x = true then (kv.1, d) else kv) else ks ++ [(x, d)]
def putD : D → D → D → Option D
  | .dict ((.none, .bool false) :: ks), x, d => if flatK x = true ∧ ks.length < lim then some (.dict ((.none, .bool false) :: putKD ks x d)) else none
  | .dict ((.none, .bool true) :: ks), .tuple xs, d => if xs.all flatK = true ∧ ks.length < lim then some (.dict ((.none, .bool true) :: putKD ks (.tuple xs) d)) else none
  | _, _, _ => none
theorem isK_any {T : Tab} {H : Hp} (k : L2.Key) : ∀ {kvs : List (L2.Key × V)} {ks : List (D × D)}, IsK T H kvs ks → (ks.any fun kv => PyData.eqv kv.1 (kD k)) = (kvs.any fun kv => decide (kv.1 = k))
  | _, _, .nil => rfl
  | _, _, .cons (k := k') h r => by rw [List.any_cons, List.any_cons, isK_any k r, eqv_kD]
theorem isK_map {T : Tab} {H : Hp} (k : L2.Key) {v : V} {d : D} (iv : Is T H v d) : ∀ {kvs : List (L2.Key × V)} {ks : List (D × D)}, IsK T H kvs ks → IsK T H (kvs.map fun kv => if kv.1 = k then (kv.1, v) else kv) (ks.map fun kv => if PyData.eqv kv.1 (kD k) = true then (kv.1, d) else kv)
  | _, _, .nil => .nil
  | _, _, .cons (k := k') (v := v') (d := d') h r => by
    rw [List.map_cons, List.map_cons]
    simp only [eqv_kD]
    by_cases c : k' = k
    · rw [if_pos c, if_pos (decide_eq_true c)]
      exact .cons iv (isK_map k iv r)
    · rw [if_neg c, if_neg (by rw [decide_eq_false c]; simp)]
      exact .cons h (isK_map k iv r)
theorem isK_snoc {T : Tab} {H : Hp} (k : L2.Key) {v : V} {d : D} (iv : Is T H v d) : ∀ {kvs : List (L2.Key × V)} {ks : List (D × D)}, IsK T H kvs ks → IsK T H (kvs ++ [(k, v)]) (ks ++ [(kD k, d)])
  | _, _, .nil => .cons iv .nil
  | _, _, .cons h r => .cons h (isK_snoc k iv r)
theorem isK_put {T : Tab} {H : Hp} (k : L2.Key) {v : V} {d : D} {kvs : List (L2.Key × V)} {ks : List (D × D)} (iv : Is T H v d) (i : IsK T H kvs ks) : IsK T H (L2.putK kvs k v) (putKD ks (kD k) d) := by
  unfold L2.putK putKD
  rw [isK_any k i]
  split
  · exact isK_map k iv i
  · exact isK_snoc k iv i
theorem isT_any {T : Tab} {H : Hp} (k : List L2.Key) : ∀ {kvs : List (List L2.Key × V)} {ks : List (D × D)}, IsT T H kvs ks → (ks.any fun kv => PyData.eqv kv.1 (.tuple (k.map kD))) = (kvs.any fun kv => decide (kv.1 = k))
  | _, _, .nil => rfl
  | _, _, .cons (k := k') h r => by rw [List.any_cons, List.any_cons, isT_any k r, eqv_kT]
theorem isT_map {T : Tab} {H : Hp} (k : List L2.Key) {v : V} {d : D} (iv : Is T H v d) : ∀ {kvs : List (List L2.Key × V)} {ks : List (D × D)}, IsT T H kvs ks → IsT T H (kvs.map fun kv => if kv.1 = k then (kv.1, v) else kv) (ks.map fun kv => if PyData.eqv kv.1 (.tuple (k.map kD)) = true then (kv.1, d) else kv)
  | _, _, .nil => .nil
  | _, _, .cons (k := k') (v := v') (d := d') h r => by
    rw [List.map_cons, List.map_cons]
    simp only [eqv_kT]
    by_cases c : k' = k
    · rw [if_pos c, if_pos (decide_eq_true c)]
      exact .cons iv (isT_map k iv r)
    · rw [if_neg c, if_neg (by rw [decide_eq_false c]; simp)]
      exact .cons h (isT_map k iv r)
theorem isT_snoc {T : Tab} {H : Hp} (k : List L2.Key) {v : V} {d : D} (iv : Is T H v d) : ∀ {kvs : List (List L2.Key × V)} {ks : List (D × D)}, IsT T H kvs ks → IsT T H (kvs ++ [(k, v)]) (ks ++ [(.tuple (k.map kD), d)])
  | _, _, .nil => .cons iv .nil
  | _, _, .cons h r => .cons h (isT_snoc k iv r)
theorem isT_put {T : Tab} {H : Hp} (k : List L2.Key) {v : V} {d : D} {kvs : List (List L2.Key × V)} {ks : List (D × D)} (iv : Is T H v d) (i : IsT T H kvs ks) : IsT T H (L2.putK kvs k v) (putKD ks (.tuple (k.map kD)) d) := by
  unfold L2.putK putKD
  rw [isT_any k i]
  split
  · exact isT_map k iv i
  · exact isT_snoc k iv i
theorem isK_len {T : Tab} {H : Hp} : ∀ {kvs : List (L2.Key × V)} {ks : List (D × D)}, IsK T H kvs ks → kvs.length = ks.length
  | _, _, .nil => rfl
  | _, _, .cons _ r => by rw [List.length_cons, List.length_cons, isK_len r]
theorem isT_len {T : Tab} {H : Hp} : ∀ {kvs : List (List L2.Key × V)} {ks : List (D × D)}, IsT T H kvs ks → kvs.length = ks.length
  | _, _, .nil => rfl
  | _, _, .cons _ r => by rw [List.length_cons, List.length_cons, isT_len r]
end
end RM
namespace RM
open PySem PySem.Spec PyProof.Rows L2 CS RZ
/-! ### objects -/
def fieldD (fs : List (D × D)) (f : Str) : Option D := (fs.find? fun kv => PyData.eqv kv.1 (.str f)).map (·.2)
theorem eqv_str (a b : Str) : PyData.eqv (.str a) (.str b) = decide (a = b) := by
  show (a == b) = _
  by_cases c : a = b
  · rw [decide_eq_true c, c]
    exact beq_self_eq_true b
  · rw [decide_eq_false c]
    exact beq_eq_false_iff_ne.mpr c
theorem isF_look {T : Tab} {H : Hp} (f : Str) : ∀ {us : List (Str × V)} {fs : List (D × D)}, IsF T H us fs → match fieldD fs f with
    | some d => ∃ v, us.lookup f = some v ∧ Is T H v d
    | none => us.lookup f = none
  | _, _, .nil => rfl
  | _, _, .cons (f := f') (v := v) (d := d) h r => by
    have ih := isF_look f r
    unfold fieldD at ih ⊢
    rw [List.find?_cons]
    show match (match PyData.eqv (.str f') (.str f) with | true => _ | false => _ : Option (D × D)).map (·.2) with | some d => _ | none => _
    rw [eqv_str]
    by_cases c : f' = f
    · rw [decide_eq_true c]
      subst c
      exact ⟨v, by rw [List.lookup_cons_self], h⟩
    · rw [decide_eq_false c]
      have e : (f == f') = false := beq_eq_false_iff_ne.mpr (Ne.symm c)
      simp only [List.lookup_cons, e]
      exact ih
section
variable {X : Cx} {g : Glob} {xk : WX} {pos : Pos} {C : Ctx} {ρ : En} {n : Nat} {σ : L2.St} {H H' : Hp} {O : Ow}
/-- o.f, a property: what its def tells -/
def cProp (sd : SpD) (ta : CE) (c : Nat) : CE := fun ρ n k ke => ta ρ n (fun d ρ1 n1 => (∃ fs, d = obj c fs) ∧ sd [d] n1 (fun z n2 => k z ρ1 n2) (fun _ _ => False)) ke
/-- o.m(..) -/
def cMeth (sd : SpD) (to : CE) (ta : CA) (c : Nat) (m : Str) : CE := fun ρ n k ke => to ρ n (fun d ρ1 n1 => (∃ fs, d = obj c fs ∧ fieldD fs m = none) ∧ ta ρ1 n1 (fun ds ρ2 n2 => sd (d :: ds) n2 (fun z n3 => k z ρ2 n3) (fun y n3 => ke y ρ2 n3)) ke) ke
/-! ### a new object -/
abbrev SpI := List D → Nat → (List (D × D) → Nat → Prop) → (Xv → Nat → Prop) → Prop
def cMake (c : Nat) (sd : SpI) (ta : CA) : CE := fun ρ n k ke => ta ρ n (fun ds ρ1 n1 => sd ds n1 (fun fs n2 => k (obj c fs) ρ1 n2) (fun y n2 => ke y ρ1 n2)) ke
end
end RM
namespace L2
open PySem PySem.Spec PyProof.Rows CS
section
variable {X : Cx} {e : Expr} {es : List Expr} {ta : TA} {p pos : Pos}
/-- C(e, ..) for a raise, C an own error class whose __init__ stores fields, over any built-in base -/
theorem pmk_ox {CX : CXT} {x : Str} {C fI : Addr} {k : Nat} {fd : FuncData} {ps : List Str} {sp : Sp} (T : OxC X.K C fI) (exC : PySem.W.subIn X.K (.ref C) (.type "BaseException") = some true) (tyC : PySem.W.typeIn X.K (.ref C) = some (.type "type"))
    (F1 : FnOk X.prog X.w X.K X.mg X.base CX k fI fd ps sp) (hr : Room (k + 1) X.A) (hb : Binds X.K fd ps []) (hx : Passes CX X (fun _ _ _ => False)) (hg : Gl X x) (hm : X.mg x = some (.ref C)) (ha : PA X (e :: es) ta)
    (hdb : (x == ("__debug__" : Str)) = false := by decide) (he : starEach (e :: es) X.env = (false, eval e X.env) :: starEach es X.env := by rfl) (hpl : (backTo pos (starEach es X.env)).any (·.1) = false := by rfl) :
    PMk X (.Call (.Name x p) (e :: es) [] pos) (tMkO C sp [] ta) := by
  intro pins s σ H Q I h
  obtain ⟨B, newId, initId, bm, F, _, _, nm, q, N, bs, sn, sub, ab, col, dd, k0, k1, k2, k3, k5, hC⟩ := T.base
  refine wpAny_Call_Name_kw (ld_glob I hg hm ?_ hdb)
  refine PySem.W.callWith_K (h₀ := X.base) I.ok.mod.kin T.kC (thn (ha.run pos pins s σ H _ I h) fun us s1 ⟨vs, H1, I1, r1, hz, q1⟩ => ⟨I1.kIn, ?_⟩) he hpl
  show wpAny _ _ (call (.ref C) us) _ _ _
  obtain ⟨hp, g, dr, tk, os⟩ := s1
  have hsz : hp.objs.size ≤ hp.objs.size + 1 := Nat.le_succ _
  have hn : H1 (hp.objs.size + 1) = none := I1.hok.fresh hsz
  have hq := q1 (hp.objs.size + 1) hn
  rw [List.append_nil] at hq
  have kk : ∀ b o, hp.get? b = some o → ((hp.push (PySem.W.kdv_tup us)).push (PySem.HandSPX.excO C hp.objs.size)).get? b = some o := fun b o e => Heap.get?_push_of_some _ (Heap.get?_push_of_some _ e)
  have hget : ((hp.push (PySem.W.kdv_tup us)).push (PySem.HandSPX.excO C hp.objs.size)).get? (hp.objs.size + 1) = some (PySem.HandSPX.excO C hp.objs.size) := by heap_get
  have I2 : Inv X pins σ (upd H1 (hp.objs.size + 1) (exo (hp.objs.size + 1) C none)) ⟨(hp.push (PySem.W.kdv_tup us)).push (PySem.HandSPX.excO C hp.objs.size), g, dr, tk, os⟩ :=
    I1.laid (t' := tk) (a := hp.objs.size + 1) (o := exo (hp.objs.size + 1) C none) (h' := (hp.push (PySem.W.kdv_tup us)).push (PySem.HandSPX.excO C hp.objs.size)) kk hsz (exo_ok hget)
  have r2 : Vals (V.ref (hp.objs.size + 1) :: vs) (Value.ref (hp.objs.size + 1) :: us) := .cons rfl r1
  have hus : us.length ≤ sizeLine := by
    rw [← Paired.length r1, sizeLine_eq]
    omega
  refine wpAny_call (PySem.HandSPX.call_own F (fun _ => rfl) (I1.kIn _ _ hC) (PySem.W.looks_findIn I1.kIn T.iC) (fun self => PySem.W.bind_fn I1.kIn self T.tI) hus ?_)
  refine RM.fn_go F1 (hr.make C us []) (I2.env0.make C us []) I2.kIn hb (vs := V.ref (hp.objs.size + 1) :: vs) (by rw [List.append_nil]; exact r2) hq (fun er s' c => hx pins σ _ _ er s' I2 c) fun u s' c => ?_
  obtain ⟨_, H2, os2, bare2, un2, hok2, ru, rfl, d, fs, ea, ed, hd1, q2⟩ := c
  cases s'
  exact ⟨ru, mk_end (raises_own exC tyC) I1 hsz kk un2 hok2 os2 bare2 ea ed hd1 q2⟩
end
end L2
namespace RM
open PySem PySem.Spec PyProof.Rows L2 CS RZ
/-! ### __init__ -/
section
variable {P : Program} {w : World} {K : PySem.W.Frag} {mg : Str → Option Value} {base : Heap} {g : Glob}
def at0 (x : Addr) : Ow := fun i => if i = 0 then some x else none
end
/-! ### own errors -/
structure ErrC (K : PySem.W.Frag) (C fI : Addr) (fs : List Str) : Prop where
  o : OxC K C fI
  no : ∀ f ∈ fs, PySem.W.findIn K (.ref C) f = some none
  ex : PySem.W.subIn K (.ref C) (.type "BaseException") = some true
  ty : PySem.W.typeIn K (.ref C) = some (.type "type")
def spErr (K : PySem.W.Frag) (C fI : Addr) (fs : List Str) : Sp := fun vs H Q _ => ∃ (a : Addr) (ys : List V), vs = .ref a :: ys ∧ ys.length = fs.length ∧ ErrC K C fI fs ∧ H a = some (exo a C none) ∧
  ∀ (dx : Addr) (H' : Hp), H dx = none → dx ≠ a → H' a = some (exo a C (some dx)) → H' dx = some (exd dx (fs.zip ys).reverse) → (∀ b, b ≠ a → b ≠ dx → H' b = H b) → Q .non H'
section
variable {P : Program} {w : World} {K : PySem.W.Frag} {mg : Str → Option Value} {base : Heap} {g : Glob}
/-- an __init__ of one field -/
theorem err1 {qual : Str} {st : Stmt} {f C fI : Addr} {fd : FuncData} {k : Nat} {f1 : Str} (F : Fun K "__init__" qual st f fd) (S : FnScope ["self", f1] ["self", f1] (defScope st))
    (hb : ∀ (cdv : Value) (A : Around) (outer : List Env) (s : Shared) (H : Hp) (E : XK), PSs (cxOf CX0 P w K mg base ["self", f1] qual (defScope st) f cdv A outer s H E).nox (defBody st) (tOx K f1 (tVar 0) (tVar 1))) :
    FnOk P w K mg base CX0 (k + 1) f fd ["self", f1] (spErr K C fI [f1]) := by
  refine F.ok S (fun vs H Q E h => ?_) (fun cdv A outer s H vs Q E hr h => ?_)
  · obtain ⟨a, ys, rfl, hl, _⟩ := h
    rw [List.length_cons, hl]
    rfl
  · obtain ⟨a, ys, rfl, hl, T, ea, q⟩ := h
    obtain ⟨x0, rfl⟩ : ∃ x0, ys = [x0] := by
      match ys, hl with
      | [x0], _ => exact ⟨x0, rfl⟩
    refine ⟨_, hb cdv A outer s H E, ?_⟩
    refine ⟨x0, rfl, .ref a, rfl, a, C, fI, rfl, T.o, T.no f1 (by simp), .inl ⟨ea, fun dx nd ne => ?_⟩⟩
    refine q dx _ nd ne upd_same ?_ fun b h1 h2 => ?_
    · rw [upd_ne ne, upd_same]
      rfl
    · rw [upd_ne h1, upd_ne h2]
end
def errF (fs : List Str) (ds : List D) : List (D × D) := ((fs.zip ds).map fun p => (.str p.1, p.2)).reverse
def cRaise (c : Nat) (fs : List Str) (ta : CA) : CS := fun ρ n e => ta ρ n (fun ds ρ' n' => ds.length = fs.length ∧ e.xc (c, errF fs ds) ρ' n') e.xc
theorem isF_snoc {T : Tab} {H : Hp} {f : Str} {v : V} {d : D} (iv : Is T H v d) : ∀ {us : List (Str × V)} {fs : List (D × D)}, IsF T H us fs → IsF T H (us ++ [(f, v)]) (fs ++ [(.str f, d)])
  | _, _, .nil => .cons iv .nil
  | _, _, .cons h r => .cons h (isF_snoc iv r)
theorem isF_zip {T : Tab} {H : Hp} : ∀ (fs : List Str) {vs : List V} {ds : List D}, IsL T H vs ds → IsF T H (fs.zip vs).reverse (errF fs ds)
  | [], _, _, _ => .nil
  | _ :: _, _, _, .nil => .nil
  | f :: fs, _, _, .cons h r => by
    unfold errF
    rw [List.zip_cons_cons, List.zip_cons_cons, List.map_cons, List.reverse_cons, List.reverse_cons]
    exact isF_snoc h (isF_zip fs r)
section
variable {X : Cx} {g : Glob} {xk : WX} {pos : Pos}
theorem pds_raise {x : Str} {c : Nat} {fI : Addr} {k : Nat} {fd : FuncData} {ps fs : List Str} {p pos2 : Pos} {e : Expr} {es : List Expr} {ta : CA} (hc : X.calm = true) (tk : Takes X xk) (T : ErrC X.K (g.cls c) fI fs) (F1 : FnOk X.prog X.w X.K X.mg X.base CX0 k fI fd ps (spErr X.K (g.cls c) fI fs)) (hr : Room (k + 1) X.A) (hb : Binds X.K fd ps [])
    (hg : Gl X x) (hm : X.mg x = some (.ref (g.cls c))) (ha : PDA X g xk (e :: es) ta) (hn : fs.length ≤ 1000 := by decide) (hdb : (x == ("__debug__" : Str)) = false := by decide) (he : starEach (e :: es) X.env = (false, eval e X.env) :: starEach es X.env := by rfl) (hpl : (backTo pos2 (starEach es X.env)).any (·.1) = false := by rfl) :
    PDS X g xk (.Raise (some (.Call (.Name x p) (e :: es) [] pos2)) none pos) (cRaise c fs ta) := by
  refine ⟨ps_imp (ps_raise hc tk (pmk_ox T.o T.ex T.ty F1 hr hb L2.pass0 hg hm ha.pa hdb he hpl)) fun F σ H h => ?_⟩
  obtain ⟨C, ρ, n, O, e, hK, E, t, l⟩ := h
  refine ⟨C, ρ, n, O, _, _, hK, E, t, l.xc, fun ds ρ1 n1 vs H1 O1 k1 E1 S1 i1 => ?_⟩
  have hlen : vs.length = fs.length := by rw [i1.length]; exact k1.1
  refine ⟨by omega, fun a na => ⟨a, vs, by rw [List.append_nil], hlen, T, upd_same, fun dx H' nd ne e1 e2 rest => ⟨rfl, dx, _, e1, e2, ?_, ?_⟩⟩⟩
  · rw [upd_ne ne] at nd
    exact nd
  · rw [upd_ne ne] at nd
    have S2 : Same H1 (upd (del H' a) dx (.xd (fs.zip vs).reverse)) := fun b o hb => by
      have h1 : b ≠ a := ne_of_none hb na
      have h2 : b ≠ dx := ne_of_none hb nd
      rw [upd_ne h2, del_ne h1, rest b h1 h2, upd_ne h1]
      exact hb
    have E2 := E1.ext S2
    obtain ⟨f1, f2, _, _⟩ := E1.fresh nd
    have h2 := l.xc c (errF fs ds) ρ1 n1 σ _ O1 (some dx) k1.2 E2 (.inr ⟨dx, _, rfl, hid_of upd_same f1 f2, (isF_zip fs i1).same (hid_same S2)⟩)
    rw [hK.2] at h2
    exact h2
end
end RM
namespace RM
open PySem PySem.Spec PyProof.Rows L2 CS RZ
/-! ### try: .. except C as n: .. -/
/-- what is seen now stays in sight -/
def Ctx.see (C : Ctx) (B : Hp) : Ctx := { C with B := B }
section
variable {C : Ctx} {ρ : En} {n : Nat} {σ : L2.St} {H H' B : Hp} {O : Ow}
theorem Ev.see (E : Ev C ρ n σ H O) : Ev (C.see (hid C O H)) ρ n σ H O := ⟨E.len, E.val, E.own, E.only, E.inj, E.zs, E.zt, E.keep, E.box, E.slf, Same.refl _⟩
theorem Ev.unsee (E : Ev (C.see B) ρ n σ H O) (s : Same C.B B) : Ev C ρ n σ H O ∧ Same B (hid C O H) := ⟨⟨E.len, E.val, E.own, E.only, E.inj, E.zs, E.zt, E.keep, E.box, E.slf, s.trans E.vis⟩, E.vis⟩
end
theorem exc_is {T : Tab} {H : Hp} {a : Addr} {c : Nat} {dd : Option Addr} {fs : List (D × D)} (h : H a = some (XO (.ref (T.cls c)) dd a)) (x : XIs T H dd fs) : Is T H (.ref a) (exc c fs) := by
  rcases x with ⟨rfl, rfl⟩ | ⟨d, us, rfl, h1, h2⟩
  · exact .exn h
  · exact .exc h h1 h2
section
variable {X : Cx} {g : Glob} {xk : WX} {pos : Pos}
/-! ### errors looked at -/
theorem isExc {T : Tab} {H : Hp} {v : V} {c : Nat} {fs : List (D × D)} (h : Is T H v (exc c fs)) : ∃ a dd, v = .ref a ∧ H a = some (XO (.ref (T.cls c)) dd a) ∧ XIs T H dd fs := by
  unfold exc at h
  generalize hd : (PyData.dict ((.none, .list [.int (c : Nat)]) :: fs)) = d at h
  cases h with
  | exc h1 h2 r =>
    injection hd with hd
    injection hd with hd hf
    injection hd with _ hd
    injection hd with hd
    injection hd with hd _
    injection hd with hd
    rw [← Int.ofNat.inj hd] at h1
    subst hf
    exact ⟨_, _, rfl, h1, .inr ⟨_, _, rfl, h2, r⟩⟩
  | exn h1 =>
    injection hd with hd
    injection hd with hd hf
    injection hd with _ hd
    injection hd with hd
    injection hd with hd _
    injection hd with hd
    rw [← Int.ofNat.inj hd] at h1
    subst hf
    exact ⟨_, _, rfl, h1, .inl ⟨rfl, rfl⟩⟩
  | _ => cases hd
theorem pkExc {T : Tab} {Hh H : Hp} {v : V} {c : Nat} {fs : List (D × D)} (h : Pk T Hh H v (exc c fs)) : Is T Hh v (exc c fs) := by
  generalize hd : exc c fs = d at h ⊢
  cases h with
  | val h => exact h
  | own h =>
    unfold exc at hd
    cases h <;> cases hd
def cXFld (o : Opd) (ms : List Nat) (f : Str) : CE := fun ρ n k ke => cOpd o ρ n (fun get ρ1 n1 => ∃ c fs d, get ρ1 = some (exc c fs) ∧ c ∈ ms ∧ fieldD fs f = some d ∧ k d ρ1 n1) ke
/-- e.f of an own error -/
theorem pd_xfld {e : Expr} {o : Opd} {ms : List Nat} {f : Str} (G : Good X g) (h : PDQ X g xk e o) (hf : ∀ c ∈ ms, XfC X.K (g.cls c)) (hn : ∀ c ∈ ms, PySem.W.findIn X.K (.ref (g.cls c)) f = some none) (hb : attributeBase e f X.env (eval e X.env) = eval e X.env := by rfl) : PD X g xk (.Attribute e f pos) (cXFld o ms f) := by
  refine ⟨PE.imp (pe_xof h.pe hb) fun σ H Q r => ?_⟩
  obtain ⟨C, ρ, n, O, k, ke, hK, E, t, x, q⟩ := r
  refine ⟨C, ρ, n, O, _, ke, hK, E, t, x, fun get ρ1 n1 v H1 O1 k1 E1 S1 p1 => ?_⟩
  obtain ⟨c, fs, d, h1, hc, h2, k1⟩ := k1
  obtain ⟨a, dd, rfl, g1, xi⟩ := isExc (pkExc (p1 _ _ _ _ _ E1 (Same.refl _) h1))
  rw [hK.2] at g1
  rcases xi with ⟨_, rfl⟩ | ⟨ad, us, rfl, g2, r⟩
  · cases h2
  · have := isF_look f r
    rw [h2] at this
    obtain ⟨w, l, iw⟩ := this
    exact ⟨a, _, ad, us, w, rfl, hid_le _ _ g1, hid_le _ _ g2, hf c hc, hn c hc, l, q _ _ _ _ _ _ k1 E1 S1 iw⟩
end
end RM
namespace RM
open PySem PySem.Spec PyProof.Rows L2 CS RZ
/-! ### operators of own classes -/
section
variable {X : Cx} {g : Glob} {xk : WX} {pos : Pos}
def cBinO (sd : SpD) (ta tb : CE) (c : Nat) : CE := fun ρ n k ke => ta ρ n (fun x ρ1 n1 => tb ρ1 n1 (fun y ρ2 n2 => (∃ fs, x = obj c fs) ∧ (∃ fs, y = obj c fs) ∧ sd [x, y] n2 (fun z n3 => k z ρ2 n3) (fun w n3 => ke w ρ2 n3)) ke) ke
/-! o[e] -/
def cSubO (sd : SpD) (ta tb : CE) (c : Nat) : CE := fun ρ n k ke => ta ρ n (fun x ρ1 n1 => tb ρ1 n1 (fun y ρ2 n2 => (∃ fs, x = obj c fs) ∧ sd [x, y] n2 (fun z n3 => k z ρ2 n3) (fun w n3 => ke w ρ2 n3)) ke) ke
/-! e in o, e not in o -/
/-! a == b of one own class -/
def cEqO (sd : SpD) (ta tb : CE) (c : Nat) : CE := cBinO sd ta tb c
end
end RM
namespace L2
open PySem PySem.Spec PyProof.Rows
/-! ### {k: v for ..} whose keys may be tuples -/
/-- the reading: o0 is what the new dict is at first -/
def tDcP (o0 : HO) (wi : TI) (g : TG) (tt : TT) (tk tv : TE) (vs : List Nat) : TE := fun σ H Q => wi σ H fun J H1 => ∀ D, H1 D = none → ∃ W : Nat → Nat → Hp → Prop, (∃ m, W 0 m (upd H1 D o0)) ∧
  ∀ i m H, W i m H → (J.stop i H ∧ Q (.ref D) H) ∨ (J.go i H ∧ ∃ Nx : Hp → Prop, (∀ H', Nx H' → ∃ m', m' < m ∧ W (i + 1) m' H') ∧
    ∀ x H', J.yld i H x H' → g x (wipe σ vs) H' fun σ2 H2 => wipe σ2 vs = wipe σ vs ∧ tt σ2 H2 fun b H3 => if b = true then tk σ2 H3 fun y H4 => tv σ2 H4 fun z H5 => ∃ H6, DPut H5 D y z H6 ∧ Nx H6 else Nx H3)
/-- an empty dict of either kind -/
def Void (o : HO) : Prop := o = .dK [] ∨ o = .dT []
section
variable {X : Cx} {pins : List (Addr × Obj)} {σ : St} {H H' : Hp} {s : Shared} {D : Addr}
theorem void_laid {o : HO} (v : Void o) (I : Inv X pins σ H s) : Inv X pins σ (upd H s.heap.objs.size o) { s with heap := s.heap.push { cls := .type "dict", data := .dict #[] } } :=
  I.laid (t' := s.toks) (fun _ _ q => Heap.get?_push_of_some _ q) (Nat.le_refl _) (v.elim (fun e => e ▸ dk_empty s.heap I.big) fun e => e ▸ dt_empty s.heap I.big)
/-- a comprehension's d[k] = v -/
theorem void_put {E : Value → Shared → Prop} {Q : Unit → Shared → Prop} {y z : V} {u r : Value} (hu : X.A.units + 1 < cLine) (I : Inv X pins σ H s) (p : DPut H D y z H') (ry : RelV y u) (rz : RelV z r) (q : ∀ s', Inv X pins σ H' s' → Q () s') :
    wpAny (model X.prog X.w) X.A (dictSet D u r) Q E s := by
  rcases p with ⟨kvs, k, e, rfl, l, rfl⟩ | ⟨kvs, k, b, e, rfl, eb, l, rfl⟩
  · exact d_dictSet I e l ry rz q
  · obtain rfl : u = Value.ref b := ry
    obtain ⟨small, low, xs, rel, dd⟩ := dt_of I.hok e
    have few : xs.length ≤ sizeLine := (Paired.length rel) ▸ small
    have more : (L2.putK kvs k z).length ≤ sizeLine := by
      have := length_putK kvs k z
      omega
    refine wpAny_dictSet_heap (knd := tupleKind (mixKind X.prog X.w)) (hsz := few) (show X.A.units < cLine by omega) (key_of I.hok eb) dd fun h' dd' only => q _ ?_
    obtain ⟨ob, es, ep, there, shape⟩ := dd'
    obtain ⟨s2, s3, s4, _, s5⟩ := shape
    refine d_write I (by rw [e]; trivial) only ⟨ob, there⟩ ⟨more, low, _, (rel.put k eb rz).keeps fun c ys ec => ?_, ob, es, ep, there, s2, s3, s4, s5⟩
    have ne : c ≠ D := ne_of ec e (fun w => nomatch w)
    rw [upd_ne ne]
    exact ec
end
section
variable {X : Cx} {pins : List (Addr × Obj)} {σ : St} {H : Hp} {s : Shared} {Q : VK}
/-- the block of a comprehension begins: where it stands, what of the iterator's objects holds there -/
structure Block (X : Cx) (pins : List (Addr × Obj)) (s : Shared) (H : Hp) (scope : Scope) (fp : List Addr) (vs : List Nat) (σ : St) (E : Env) (s4 : Shared) : Prop where
  env : ∃ cl, E = compEnvC scope cl s.heap.objs.size X.env
  inv : Inv (X.blk s H scope E fp) [] (wipe σ vs) H s4
  loc : E.locals = s.heap.objs.size
  old : ∀ b o, s.heap.get? b = some o → s4.heap.get? b = some o
theorem block_at {scope : Scope} {own : List (Str × Nat)} {fp : List Addr} (I : Inv X pins σ H s) (ok : BlkOk X.N X.env.scope scope own) (nd : X.N.Nodup) (f : ∀ b ∈ fp, FpOk X pins H b ∧ b < s.heap.objs.size) :
    Block X pins s H scope fp (own.map (·.2)) σ (compEnvC scope (cellsFrom (s.heap.objs.size + 1) scope.names (cloFrom X.env.cells scope.names [])) s.heap.objs.size X.env) { s with heap := pushCells (s.heap.push { cls := .type "dict", data := .dict #[] }) scope.names } :=
  ⟨⟨_, rfl⟩, block_start I ok nd f, rfl, fun b o e => pushCells_keeps _ _ _ _ (Heap.get?_push_of_some _ e)⟩
theorem dcP_core {kx vx tg iter : Expr} {ifs : List Expr} {scope : Scope} {own : List (Str × Nat)} {pos pos' : Pos} {o0 : HO} {wi : TI} {g : TG} {tt : TT} {tk tv : TE} {use : Option (Value → Sem Unit)} {Qf : Value → Shared → Prop} (v0 : Void o0) (hu : X.A.units + 1 < cLine)
    (calm : X.calm = true) (nd : X.N.Nodup) (I : Inv X pins σ H s) (hi : PI X tg iter wi) (ok : BlkOk X.N X.env.scope scope own)
    (hg : ∀ (s : Shared) (H : Hp) (C : Addr) (cl : List (Str × Addr)) (fp : List Addr), PG (X.blk s H scope (compEnvC scope cl C X.env) fp) tg g) (ht : ∀ (s : Shared) (H : Hp) (C : Addr) (cl : List (Str × Addr)) (fp : List Addr), PTs (X.blk s H scope (compEnvC scope cl C X.env) fp) ifs tt)
    (hk : ∀ (s : Shared) (H : Hp) (C : Addr) (cl : List (Str × Addr)) (fp : List Addr), PE (X.blk s H scope (compEnvC scope cl C X.env) fp) kx tk) (hv : ∀ (s : Shared) (H : Hp) (C : Addr) (cl : List (Str × Addr)) (fp : List Addr), PE (X.blk s H scope (compEnvC scope cl C X.env) fp) vx tv)
    (fold : ∀ x, foldedSetIterable iter X.env x = pure x) (h : tDcP o0 wi g tt tk tv (own.map (·.2)) σ H Q)
    (done : ∀ D C s' m H', Inv X pins σ H' s' → Q (.ref D) H' → s'.heap.Ns C m → FpOk X pins H' C → compPost (model X.prog X.w) X.A X.xe use Qf (.ref D) C (.ok .next) s') :
    wpAny (model X.prog X.w) X.A (comprehension (.DictComp kx vx [⟨tg, iter, ifs, 0⟩] scope pos) scope X.env pos' newDict false (eval iter X.env) use) Qf X.xe s := by
  have caught : ∀ y ∈ scope.names, y.2 = .free → ∃ c, X.env.cells.lookup y.1 = some c := fun y hy e => (ok.free y hy e).elim (fun k => I.ok.has _ (.inl k)) fun k => I.ok.has _ (.inr k)
  refine wpAny_comprehension_free (use := use) rfl fold (closure_ok caught) ok.kind (fun y hy e => (ok.uniq y hy).trans (congrArg some e)) (thn (hi.run pins s σ H _ I h) fun src s1 w1 => thn w1 fun walker s2 w2 => ?_)
  obtain ⟨it, fp, tn, J, H2, rfl, I2, T, at0, f2, q⟩ := w2
  refine wpAny_newObj_type (newEnv_comp ?_)
  have room : H2 s2.heap.objs.size = none := I2.hok.fresh (Nat.le_refl _)
  obtain ⟨W, ⟨m0, w0⟩, turn⟩ := q s2.heap.objs.size room
  have I3 := void_laid v0 I2
  have young : ∀ b ∈ fp, b < s2.heap.objs.size := fun b hb => let ⟨_, e, _⟩ := T.obj _ _ at0 b hb; Heap.lt_size e
  have f3 : ∀ b ∈ fp, FpOk X pins (upd H2 s2.heap.objs.size o0) b ∧ b < (s2.heap.push { cls := .type "dict", data := .dict #[] }).objs.size := fun b hb =>
    ⟨⟨(upd_ne (Nat.ne_of_lt (young b hb))).trans (f2 b hb).1, (f2 b hb).2⟩, Nat.lt_of_lt_of_le (young b hb) (by rw [Heap.size_push]; exact Nat.le_succ _)⟩
  have step0 : tn 0 (s2.heap.push { cls := .type "dict", data := .dict #[] }) := T.keep _ _ _ at0 fun b _ o e => Heap.get?_push_of_some _ e
  generalize hD : s2.heap.objs.size = D at *
  generalize hs3 : ({ s2 with heap := s2.heap.push { cls := .type "dict", data := .dict #[] } } : Shared) = s3 at *
  have e3 : s2.heap.push { cls := .type "dict", data := .dict #[] } = s3.heap := by rw [← hs3]
  rw [e3] at f3 step0
  generalize hH : upd H2 D o0 = H3 at *
  have B := block_at I3 ok nd f3
  have step1 : tn 0 (pushCells (s3.heap.push { cls := .type "dict", data := .dict #[] }) scope.names) := T.keep _ _ _ step0 fun b _ o e => B.old b o e
  show codeAny _ _ (.compStart _ 0 (.ref it) (.ref D) (compEnvC scope (cellsFrom (s3.heap.objs.size + 1) scope.names (cloFrom X.env.cells scope.names [])) s3.heap.objs.size X.env)) (compPost _ X.A X.xe use Qf (.ref D) s3.heap.objs.size) { s3 with heap := pushCells (s3.heap.push { cls := .type "dict", data := .dict #[] }) scope.names }
  have nG := hg s3 H3 s3.heap.objs.size (cellsFrom (s3.heap.objs.size + 1) scope.names (cloFrom X.env.cells scope.names [])) fp
  have nT := ht s3 H3 s3.heap.objs.size (cellsFrom (s3.heap.objs.size + 1) scope.names (cloFrom X.env.cells scope.names [])) fp
  have nK := hk s3 H3 s3.heap.objs.size (cellsFrom (s3.heap.objs.size + 1) scope.names (cloFrom X.env.cells scope.names [])) fp
  have nV := hv s3 H3 s3.heap.objs.size (cellsFrom (s3.heap.objs.size + 1) scope.names (cloFrom X.env.cells scope.names [])) fp
  generalize hce : compEnvC scope (cellsFrom (s3.heap.objs.size + 1) scope.names (cloFrom X.env.cells scope.names [])) s3.heap.objs.size X.env = ce at B nG nT nK nV ⊢
  have free0 : ∀ b ∈ fp, H3 b = none := fun b hb => (f3 b hb).1.1
  have I4 := B.inv
  have cL := B.loc
  have mine : ∀ {σ' : St} {H' : Hp} {s' : Shared}, Inv (X.blk s3 H3 scope ce fp) [] σ' H' s' → (∀ b ∈ fp, H' b = none) → ∀ b ∈ fp, FpOk (X.blk s3 H3 scope ce fp) [] H' b := fun J' no b hb =>
    ⟨no b hb, (J'.ok.exf b hb).1, J'.ok.exfs b hb, .inl hb, fun x c e => (J'.ok.exf b hb).2 x c e, fun p hp => nomatch (show p ∈ ([] : List (Addr × Obj)) by simpa using hp)⟩
  generalize hs4 : ({ s3 with heap := pushCells (s3.heap.push { cls := .type "dict", data := .dict #[] }) scope.names } : Shared) = s4 at I4 ⊢
  have step4 : tn 0 s4.heap := by
    rw [← hs4]
    exact step1
  have turns : codeAny (model X.prog X.w) X.A (.compLoop (.DictComp kx vx [⟨tg, iter, ifs, 0⟩] scope pos) 0 (.ref it) (.ref D) ce) (compPost (model X.prog X.w) X.A X.xe use Qf (.ref D) s3.heap.objs.size) s4 := by
    refine compLoop_anyD (fun m t => ∃ i G, Inv (X.blk s3 H3 scope ce fp) [] (wipe σ (own.map (·.2))) G t ∧ tn i t.heap ∧ (∀ b ∈ fp, G b = none) ∧ W i m G) ?_ m0 ⟨0, H3, I4, step4, free0, w0⟩
    rintro m t ⟨i, G, IG, stepG, freeG, wG⟩
    rcases turn i m G wG with ⟨halt, qG⟩ | ⟨goes, Nx, toNx, each⟩
    · refine thnF (T.done (X.blk s3 H3 scope ce fp) rfl rfl rfl calm i [] t _ G (fun _ _ => False) IG (mine IG freeG) stepG halt) fun r t1 ⟨rNone, I1⟩ => ?_
      subst rNone
      have home : Inv X pins σ G t1 := I3.call' (ch := fp) I1.os I1.base I1.hok I1.bare fun b hb => let z := (f3 b hb).1; ⟨z.2.2.2.1, z.2.1, z.2.2.2.2.1, z.2.2.2.2.2⟩
      have noC : G s3.heap.objs.size = none := by
        rw [← cL]
        exact I1.free
      obtain ⟨mm, names, _⟩ := I1.loc
      rw [show (X.blk s3 H3 scope ce fp).env.locals = s3.heap.objs.size from cL] at names
      exact done D s3.heap.objs.size t1 mm G home qG names (I3.fpOk (Nat.le_refl _) noC)
    · refine thnF (T.item (X.blk s3 H3 scope ce fp) rfl rfl rfl calm i [] t _ G (fun _ _ => False) IG (mine IG freeG) stepG goes) fun r t1 ⟨u, rSome, w1⟩ => ?_
      subst rSome
      refine thnF w1 fun _ t2 ⟨x, G2, I2', r2, y2, step2, free2⟩ => ?_
      refine thnF (nG.run _ t2 _ G2 x u _ (I2'.pinned (mine I2' free2) (T.obj _ _ step2)) r2 (each x G2 y2)) fun _ t3 ⟨σ3, G3, I3', wiped, q3⟩ => ?_
      refine thnF (nT.run _ t3 σ3 G3 _ I3' q3) fun b t4 ⟨G4, I4', q4⟩ => ?_
      have next : ∀ {t' : Shared} {G' : Hp}, Inv (X.blk s3 H3 scope ce fp) ([] ++ pinsAt fp t2.heap) σ3 G' t' → Nx G' → ∃ k, k < m ∧ ∃ i G, Inv (X.blk s3 H3 scope ce fp) [] (wipe σ (own.map (·.2))) G t' ∧ tn i t'.heap ∧ (∀ b ∈ fp, G b = none) ∧ W i k G := fun {t' G'} I' nx => by
        obtain ⟨k, less, w'⟩ := toNx G' nx
        have held : ∀ b ∈ fp, ∀ o, t2.heap.get? b = some o → t'.heap.get? b = some o ∧ G' b = none := fun b hb o e =>
          let z := I'.pin (b, o) (List.mem_append_right _ (List.mem_append_right _ (mem_pinsAt hb e)))
          ⟨z.1, z.2.1⟩
        have len : (wipe σ (own.map (·.2))).length = σ3.length := by
          rw [← wiped, wipe_length]
        refine ⟨k, less, i + 1, G', (I'.unpinned (pins := [])).weak len (fun j v e => ?_), T.keep _ _ _ step2 fun b hb o e => (held b hb o e).1, fun b hb => ?_, w'⟩
        · rw [← wiped] at e
          exact (wipe_some e).1
        · obtain ⟨o, e, _⟩ := T.obj _ _ step2 b hb
          exact (held b hb o e).2
      cases b with
      | false =>
        rw [if_neg Bool.false_ne_true] at q4 ⊢
        exact next I4' q4
      | true =>
        rw [if_pos rfl] at q4 ⊢
        refine thnF (nK.run _ t4 σ3 G4 _ I4' q4) fun a t5 ⟨y, G5, I5', r5, q5⟩ => ?_
        refine thnF (nV.run _ t5 σ3 G5 _ I5' q5) fun b t6 ⟨z, G6, I6', r6, G7, put, nx⟩ => ?_
        exact void_put (X := X.blk s3 H3 scope ce fp) hu I6' put r5 r6 fun t7 I7' => next I7' nx
  exact codeAny_compStart_dict turns (T.self X.A 0 _ _ _ step4 turns)
theorem pe_dcP {kx vx tg iter : Expr} {ifs : List Expr} {scope : Scope} {own : List (Str × Nat)} {pos : Pos} {o0 : HO} {wi : TI} {g : TG} {tt : TT} {tk tv : TE} (v0 : Void o0) (hu : X.A.units + 1 < cLine) (calm : X.calm = true) (nd : X.N.Nodup) (hi : PI X tg iter wi) (ok : BlkOk X.N X.env.scope scope own)
    (hg : ∀ (s : Shared) (H : Hp) (C : Addr) (cl : List (Str × Addr)) (fp : List Addr), PG (X.blk s H scope (compEnvC scope cl C X.env) fp) tg g) (ht : ∀ (s : Shared) (H : Hp) (C : Addr) (cl : List (Str × Addr)) (fp : List Addr), PTs (X.blk s H scope (compEnvC scope cl C X.env) fp) ifs tt)
    (hk : ∀ (s : Shared) (H : Hp) (C : Addr) (cl : List (Str × Addr)) (fp : List Addr), PE (X.blk s H scope (compEnvC scope cl C X.env) fp) kx tk) (hv : ∀ (s : Shared) (H : Hp) (C : Addr) (cl : List (Str × Addr)) (fp : List Addr), PE (X.blk s H scope (compEnvC scope cl C X.env) fp) vx tv)
    (fold : ∀ x, foldedSetIterable iter X.env x = pure x := by intro _; rfl) : PE X (.DictComp kx vx [⟨tg, iter, ifs, 0⟩] scope pos) (tDcP o0 wi g tt tk tv (own.map (·.2))) := by
  constructor
  intro pins s σ H Q I h
  rw [arm_eval_DictComp]
  refine dcP_core v0 hu calm nd I hi ok hg ht hk hv fold h fun D C s' m H' I' q names f => ⟨m, names, fun h'' same => ?_⟩
  exact ⟨.ref D, H', I'.turned (t' := s'.toks) (fun b o hb e => (same.2 b hb).trans e) f.1 f.2.1 f.2.2.2.1 f.2.2.2.2.1 f.2.2.2.2.2, rfl, q⟩
end
end L2
namespace RM
open PySem PySem.Spec PyProof.Rows L2 CS RZ
/-! ### dict comprehensions -/
theorem put_use {T : Tab} {Hh H : Hp} {p : Addr} {y v : V} {m m' key d : D} (s : Same Hh H) (ow : OwnAt T Hh H p m) (hy : KeyAt Hh y key) (iv : Is T Hh v d) (e : putD m key d = some m') : ∃ o', DPut H p y v (upd H p o') ∧ OwnAt T Hh (upd H p o') p m' ∧ isObjD m' = false := by
  unfold putD at e
  split at e
  · obtain ⟨⟨c1, c2⟩, rfl⟩ := ifs e
    cases ow with
    | dk h r =>
      cases hy with
      | t h => cases c1
      | k k => exact ⟨_, .k h (by rw [isK_len r]; exact lim_lt c2), .dk upd_same (isK_put k iv r), rfl⟩
  · obtain ⟨⟨c1, c2⟩, rfl⟩ := ifs e
    cases ow with
    | dt h r =>
      generalize hk : (PyData.tuple _) = kk at hy
      cases hy with
      | k k => cases k <;> cases hk
      | @t b ks hb =>
        injection hk with e4
        subst e4
        exact ⟨_, .t h (s _ _ hb) (by rw [isT_len r]; exact lim_lt c2), .dt upd_same (isT_put ks iv r), rfl⟩
  · cases e
theorem dcP_it {J : It} {m : Nat} {G : Hp → Prop} {Y : Nat → Hp → V → Hp → Prop} (w : Walk J m G Y) {o0 : HO} {g : TG} {tt : TT} {tk tv : TE} {vs : List Nat} {σ : L2.St} {H1 : Hp} {Da : Addr} {Qd : Hp → Prop} (Pv : Nat → Hp → Prop) (h0 : Pv 0 (upd H1 Da o0)) (hG : ∀ i H, i ≤ m → Pv i H → G H)
    (hs : ∀ i x H H', i < m → Pv i H → Y i H x H' → g x (wipe σ vs) H' fun σ2 H2 => wipe σ2 vs = wipe σ vs ∧ tt σ2 H2 fun b H3 => if b = true then tk σ2 H3 fun y H4 => tv σ2 H4 fun z H5 => ∃ H6, DPut H5 Da y z H6 ∧ Pv (i + 1) H6 else Pv (i + 1) H3) (hd : ∀ H, Pv m H → Qd H) :
    ∃ W : Nat → Nat → Hp → Prop, (∃ k, W 0 k (upd H1 Da o0)) ∧ ∀ i k H, W i k H → (J.stop i H ∧ Qd H) ∨ (J.go i H ∧ ∃ Nx : Hp → Prop, (∀ H', Nx H' → ∃ k', k' < k ∧ W (i + 1) k' H') ∧
      ∀ x H', J.yld i H x H' → g x (wipe σ vs) H' fun σ2 H2 => wipe σ2 vs = wipe σ vs ∧ tt σ2 H2 fun b H3 => if b = true then tk σ2 H3 fun y H4 => tv σ2 H4 fun z H5 => ∃ H6, DPut H5 Da y z H6 ∧ Nx H6 else Nx H3) := by
  refine ⟨fun i k H => k + i = m ∧ Pv i H, ⟨m, rfl, h0⟩, fun i k H z => ?_⟩
  have g0 := hG i H (by omega) z.2
  rcases Nat.lt_or_ge i m with lt | ge
  · exact .inr ⟨w.goes i H lt g0, Pv (i + 1), fun H' q => ⟨m - (i + 1), by omega, by omega, q⟩, fun x H' y => hs i x H H' lt z.2 (w.yields i H x H' lt g0 y)⟩
  · have e : i = m := by omega
    subst e
    exact .inl ⟨w.stops H g0, hd H z.2⟩
def cDcL (cg : CG) (tt : CT) (tk tv : CE) (vs : List Nat) : List D → En → Nat → D → (D → En → Nat → Prop) → Prop
  | [], ρ, n, m, k => k m ρ n
  | d :: ds, ρ, n, m, k => ∃ ρ1, cg d ρ = some ρ1 ∧ tt ρ1 n (fun b ρ2 n2 => if b = true then tk ρ2 n2 (fun y ρ3 n3 => tv ρ3 n3 (fun z ρ4 n4 => ∃ m', putD m y z = some m' ∧ cDcL cg tt tk tv vs ds (wipeE ρ4 vs) n4 m' k) kF) kF
      else cDcL cg tt tk tv vs ds (wipeE ρ2 vs) n2 m k) kF
def cDc (b : Bool) (ci : CA) (cg : CG) (tt : CT) (tk tv : CE) (vs : List Nat) : CE := fun ρ n k ke => ci ρ n (fun ds ρ' n' => cDcL cg tt tk tv vs ds (wipeE ρ' vs) n' (.dict [(.none, .bool b)]) k) ke
def void (b : Bool) : HO := if b = true then .dT [] else .dK []
theorem void_is (b : Bool) : Void (void b) := by
  cases b
  · exact .inl rfl
  · exact .inr rfl
theorem void_own {T : Tab} {Hh H : Hp} {p : Addr} (b : Bool) (h : H p = some (void b)) : OwnAt T Hh H p (.dict [(.none, .bool b)]) := by
  cases b
  · exact .dk h .nil
  · exact .dt h .nil
section
variable {X : Cx} {g : Glob} {xk : WX} {pos : Pos}
theorem wipe_again {σ : L2.St} {vs : List Nat} : wipe (wipe σ vs) vs = wipe σ vs := by
  refine List.ext_getElem? fun j => ?_
  rw [wipe_get, wipe_get]
  split
  · cases σ[j]? <;> rfl
  · rfl
theorem dc_use {b0 : Bool} {ci : CA} {cg : CG} {js vs : List Nat} {tt : CT} {tk tv : CE} (hj : ∀ j ∈ js, j ∈ vs) {σ : L2.St} {H : Hp} {Q : VK} (r : liftF g xk (cDc b0 ci cg tt tk tv vs) σ H Q) : tDcP (void b0) (liftI g xk ci) (liftG g js cg) (liftT g xF tt) (liftK g xF tk) (lift g xF tv) vs σ H Q := by
  obtain ⟨C, ρ, n, O, k, ke, hK, E, t, x, q⟩ := r
  refine ⟨C, ρ, n, O, _, ke, hK, E, t, x, fun ds ρ1 n1 J H1 O1 k1 E1 S1 WD => ?_⟩
  intro Da nD
  obtain ⟨f1, f2, f3, f4⟩ := E1.fresh nD
  obtain ⟨Gd, Y, WK, hG, hY⟩ := WD.ex
  refine dcP_it WK (fun i H => ∃ (ρ : En) (n : Nat) (O : Ow) (m : D), Ev C ρ n (wipe σ vs) (out H Da) O ∧ OwnAt C.T (hid C O (out H Da)) H Da m ∧ isObjD m = false ∧ cDcL cg tt tk tv vs (ds.drop i) ρ n m k ∧ Same (hid C O1 H1) (hid C O (out H Da))) ?_ ?_ ?_ ?_
  · refine ⟨_, n1, _, _, (by rw [out_new nD]; exact E1.wipes vs), void_own b0 upd_same, rfl, k1, ?_⟩
    rw [out_new nD]
    exact hid_cuts vs
  · rintro i H2 _ ⟨ρ2, n2, O2, m, E2, ow, no, c2, S2⟩
    exact hG _ ((S2.trans hid_le).trans out_le)
  · rintro i x0 H2 H3 hi' ⟨ρ2, n2, O2, m, E2, ow, no, c2, S2⟩ y
    obtain ⟨o, eD⟩ := ow.some
    have hd : ds.drop i = ds[i] :: ds.drop (i + 1) := List.drop_eq_getElem_cons hi'
    rw [hd] at c2
    obtain ⟨ρ3, e3, c3⟩ := c2
    obtain ⟨sY, iY⟩ := hY i x0 H2 H3 ds[i] ((S2.trans hid_le).trans out_le) y (List.getElem?_eq_getElem hi')
    have E4 := E2.hide eD fun xs z => ow.notup xs (eD.trans (congrArg some z))
    have E5 := E4.ext sY
    have h45 := hid_same (C := C.plus Da o) (O := O2) sY
    have S6 : Same (hid C O1 H1) (hid (C.plus Da o) O2 H3) := by
      refine Same.trans ?_ h45
      rw [hid_plus]
      exact S2
    have ix : Is C.T (hid (C.plus Da o) O2 H3) x0 ds[i] := iY _ S6 fun b u h1 h2 => let ⟨g1, g2, _, _⟩ := E4.fresh h2; hid_of h1 g1 g2
    refine ⟨C.plus Da o, ρ2, ρ3, n2, O2, ds[i], hK, E5, ix, e3, fun σ4 O4 E6 S7 A4 => ?_⟩
    have wp : wipe σ4 vs = wipe σ vs := (wipe_agree (σ := wipe σ vs) A4 hj).trans wipe_again
    refine ⟨wp, C.plus Da o, ρ3, n2, O4, _, kF, hK, E6, c3, xl_F, fun b ρ5 n5 H5 O5 c5 E7 S8 => ?_⟩
    cases b with
    | false =>
      show ∃ _, _
      obtain ⟨E8, eD8⟩ := E7.unhide f1 f4 f3
      have E9 := E8.wipes vs
      rw [wp] at E9
      have Sx := (h45.trans S7).trans S8
      rw [hid_plus, hid_plus] at Sx
      exact ⟨_, _, _, m, E9, (ow.same Sx (eD8.trans eD.symm)).same (hid_cuts vs) rfl, no, c5, (S2.trans Sx).trans (hid_cuts vs)⟩
    | true =>
      refine ⟨C.plus Da o, ρ5, n5, O5, _, kF, hK, E7, c5, xl_F, fun yd ρ6 n6 yv H6 O6 c6 E8 S9 ky => ?_⟩
      refine ⟨C.plus Da o, ρ6, n6, O6, _, kF, hK, E8, c6, xl_F, fun zd ρ7 n7 zv H7 O7 c7 E9 S10 iz => ?_⟩
      obtain ⟨m', hp, c7⟩ := c7
      obtain ⟨E10, eD10⟩ := E9.unhide f1 f4 f3
      have E11 := E10.wipes vs
      rw [wp] at E11
      have Sx := ((h45.trans S7).trans S8).trans (S9.trans S10)
      have ky2 := ky.same S10
      rw [hid_plus, hid_plus] at Sx
      rw [hid_plus] at ky2 iz
      obtain ⟨o', pu, ow', no'⟩ := put_use (Same.trans hid_le out_le) (ow.same Sx (eD10.trans eD.symm)) ky2 iz hp
      refine ⟨_, pu, _, _, cutOs O7 vs, m', ?_, ?_, no', c7, ?_⟩
      · rw [out_upd]
        exact E11
      · rw [out_upd]
        exact ow'.same (hid_cuts vs) rfl
      · rw [out_upd]
        exact (S2.trans Sx).trans (hid_cuts vs)
  · rintro H2 ⟨ρ2, n2, O2, m, E2, ow, no, c2, S2⟩
    rw [List.drop_length] at c2
    exact q _ _ _ _ _ _ _ c2 E2.unwipe (S1.trans S2) out_same out_le ow no
theorem pf_dc (b0 : Bool) {kx vx tg iter : Expr} {ifs : List Expr} {scope : Scope} {own : List (Str × Nat)} {ci : CA} {cg : CG} {js : List Nat} {tt : CT} {tk tv : CE} (hu : X.A.units + 1 < cLine) (hc : X.calm = true) (hN : X.N.Nodup) (hi : PDI X g xk tg iter ci) (ok : BlkOk X.N X.env.scope scope own)
    (hg : ∀ (s : Shared) (H : Hp) (C : Addr) (cl : List (Str × Addr)) (fp : List Addr), PDG (X.blk s H scope (compEnvC scope cl C X.env) fp) g js tg cg) (ht : ∀ (s : Shared) (H : Hp) (C : Addr) (cl : List (Str × Addr)) (fp : List Addr), PDTs (X.blk s H scope (compEnvC scope cl C X.env) fp) g xF ifs tt)
    (hk : ∀ (s : Shared) (H : Hp) (C : Addr) (cl : List (Str × Addr)) (fp : List Addr), PDK (X.blk s H scope (compEnvC scope cl C X.env) fp) g xF kx tk) (hv : ∀ (s : Shared) (H : Hp) (C : Addr) (cl : List (Str × Addr)) (fp : List Addr), PD (X.blk s H scope (compEnvC scope cl C X.env) fp) g xF vx tv)
    (hj : ∀ j ∈ js, j ∈ own.map (·.2) := by decide) (hs : ∀ x, foldedSetIterable iter X.env x = pure x := by intro _; rfl) :
    PDF X g xk (.DictComp kx vx [⟨tg, iter, ifs, 0⟩] scope pos) (cDc b0 ci cg tt tk tv (own.map (·.2))) :=
  ⟨PE.imp (pe_dcP (void_is b0) hu hc hN hi.pi ok (fun s H C cl fp => (hg s H C cl fp).pg) (fun s H C cl fp => (ht s H C cl fp).pts) (fun s H C cl fp => (hk s H C cl fp).pe) (fun s H C cl fp => (hv s H C cl fp).pe) hs) fun σ H Q r => dc_use hj r⟩
/-! ### stars, and, or, not, minus -/
def cAndV (ta tb : CE) : CE := fun ρ n k ke => ta ρ n (fun d ρ1 n1 => ∃ b, d = .bool b ∧ if b = true then tb ρ1 n1 k ke else k (.bool false) ρ1 n1) ke
def cNotV (ta : CE) : CE := fun ρ n k ke => ta ρ n (fun d ρ1 n1 => ∃ b, d = .bool b ∧ k (.bool (!b)) ρ1 n1) ke
def cNeg (ta : CE) : CE := fun ρ n k ke => ta ρ n (fun d ρ1 n1 => ∃ i, d = .int i ∧ k (.int (-i)) ρ1 n1) ke
variable {a b : Expr} {rest : List Expr} {ta tb : CE} {ca cb : CT}
theorem pd_one {op} (h : PD X g xk a ta) : PD X g xk (.BoolOp op [a] pos) ta := ⟨pe_one h.pe⟩
theorem pd_and (ha : PD X g xk a ta) (hb : PD X g xk (.BoolOp .And (b :: rest) pos) tb) : PD X g xk (.BoolOp .And (a :: b :: rest) pos) (cAndV ta tb) := by
  refine ⟨PE.imp (pe_and ha.pe hb.pe) fun σ H Q r => ?_⟩
  obtain ⟨C, ρ, n, O, k, ke, hK, E, t, x, q⟩ := r
  refine ⟨C, ρ, n, O, _, ke, hK, E, t, x, fun d ρ1 n1 v H1 O1 k1 E1 S1 i1 => ?_⟩
  obtain ⟨b, rfl, k1⟩ := k1
  refine ⟨b, isBl i1, ?_⟩
  cases b with
  | true => exact ⟨C, ρ1, n1, O1, k, ke, hK, E1, k1, x, fun d ρ2 n2 v H2 O2 k2 E2 S2 i2 => q _ _ _ _ _ _ k2 E2 (S1.trans S2) i2⟩
  | false => exact q _ _ _ _ _ _ k1 E1 S1 (.bl false)
theorem pd_not (ha : PD X g xk a ta) : PD X g xk (.UnaryOp .Not a pos) (cNotV ta) := by
  refine ⟨PE.imp (pe_not ha.pe) fun σ H Q r => ?_⟩
  obtain ⟨C, ρ, n, O, k, ke, hK, E, t, x, q⟩ := r
  refine ⟨C, ρ, n, O, _, ke, hK, E, t, x, fun d ρ1 n1 v H1 O1 k1 E1 S1 i1 => ?_⟩
  obtain ⟨b, rfl, k1⟩ := k1
  exact ⟨b, isBl i1, q _ _ _ _ _ _ k1 E1 S1 (.bl _)⟩
theorem pd_neg (ha : PD X g xk a ta) : PD X g xk (.UnaryOp .USub a pos) (cNeg ta) := by
  refine ⟨PE.imp (pe_un un_neg ha.pe) fun σ H Q r => ?_⟩
  obtain ⟨C, ρ, n, O, k, ke, hK, E, t, x, q⟩ := r
  refine ⟨C, ρ, n, O, _, ke, hK, E, t, x, fun d ρ1 n1 v H1 O1 k1 E1 S1 i1 => ?_⟩
  obtain ⟨i, rfl, k1⟩ := k1
  exact ⟨i, i1.int', q _ _ _ _ _ _ k1 E1 S1 (.int _)⟩
/-! tests of and, or -/
structure PDW (X : Cx) (g : Glob) (xk : WX) (e : Expr) (td : CT) : Prop where
  pw : PW X e (liftT g xk td)
theorem pw_imp {e : Expr} {t t' : TT} (h : PW X e t) (q : ∀ σ H Q, t' σ H Q → t σ H Q) : PW X e t' := ⟨fun wh pins s σ H Q I r => h.run wh pins s σ H Q I (q _ _ _ r)⟩
def cAndT (ta tb : CT) : CT := fun ρ n k ke => ta ρ n (fun b ρ1 n1 => if b = true then tb ρ1 n1 k ke else k false ρ1 n1) ke
def cOrT (ta tb : CT) : CT := fun ρ n k ke => ta ρ n (fun b ρ1 n1 => if b = true then k true ρ1 n1 else tb ρ1 n1 k ke) ke
theorem pdw_and1 (h : PDT X g xk a ca) : PDW X g xk (.BoolOp .And [a] pos) ca := ⟨pw_and1 h.pt⟩
theorem pdw_or1 (h : PDT X g xk a ca) : PDW X g xk (.BoolOp .Or [a] pos) ca := ⟨pw_or1 h.pt⟩
theorem pdw_and (ha : PDT X g xk a ca) (hb : PDW X g xk (.BoolOp .And (b :: rest) pos) cb) : PDW X g xk (.BoolOp .And (a :: b :: rest) pos) (cAndT ca cb) := by
  refine ⟨pw_imp (pw_and ha.pt hb.pw) fun σ H Q r => ?_⟩
  obtain ⟨C, ρ, n, O, k, ke, hK, E, t, x, q⟩ := r
  refine ⟨C, ρ, n, O, _, ke, hK, E, t, x, fun b ρ1 n1 H1 O1 k1 E1 S1 => ?_⟩
  cases b with
  | true => exact ⟨C, ρ1, n1, O1, k, ke, hK, E1, k1, x, fun d ρ2 n2 H2 O2 k2 E2 S2 => q _ _ _ _ _ k2 E2 (S1.trans S2)⟩
  | false => exact q _ _ _ _ _ k1 E1 S1
theorem pdw_or (ha : PDT X g xk a ca) (hb : PDW X g xk (.BoolOp .Or (b :: rest) pos) cb) : PDW X g xk (.BoolOp .Or (a :: b :: rest) pos) (cOrT ca cb) := by
  refine ⟨pw_imp (pw_or ha.pt hb.pw) fun σ H Q r => ?_⟩
  obtain ⟨C, ρ, n, O, k, ke, hK, E, t, x, q⟩ := r
  refine ⟨C, ρ, n, O, _, ke, hK, E, t, x, fun b ρ1 n1 H1 O1 k1 E1 S1 => ?_⟩
  cases b with
  | true => exact q _ _ _ _ _ k1 E1 S1
  | false => exact ⟨C, ρ1, n1, O1, k, ke, hK, E1, k1, x, fun d ρ2 n2 H2 O2 k2 E2 S2 => q _ _ _ _ _ k2 E2 (S1.trans S2)⟩
theorem PDW.pdt {e : Expr} (h : PDW X g xk e ca) : PDT X g xk e ca := ⟨h.pw.pt⟩
end
end RM
namespace RM
open PySem PySem.Spec PyProof.Rows L2 CS RZ
/-! ### short words for what is generated -/
theorem hu1 {k : Nat} {A : Around} (r : Room k A) : A.units + 1 < cLine := by have := r.un; omega
theorem hu64 {k : Nat} {A : Around} (r : Room k A) : A.units + 64 < cLine := by have := r.un; omega
theorem hu65 {k : Nat} {A : Around} (r : Room k A) : A.units + 65 < cLine := by have := r.un; omega
/-- the built-in names are what they are -/
structure Bl (mg : Str → Option Value) : Prop where
  len : mg "len" = none
  sum : mg "sum" = none
  all : mg "all" = none
  any : mg "any" = none
  min : mg "min" = none
  max : mg "max" = none
  sorted : mg "sorted" = none
  tuple : mg "tuple" = none
  list : mg "list" = none
  set : mg "set" = none
  dict : mg "dict" = none
  range : mg "range" = none
  zip : mg "zip" = none
  enumerate : mg "enumerate" = none
  isinstance : mg "isinstance" = none
  abs : mg "abs" = none
  int : mg "int" = none
  str : mg "str" = none
  repr : mg "repr" = none
  bool : mg "bool" = none
  ValueError : mg "ValueError" = none
  LookupError : mg "LookupError" = none
/-- a def of the module, by its name, and what it keeps -/
structure HasF (P : Program) (w : World) (K : PySem.W.Frag) (mg : Str → Option Value) (base : Heap) (CX : CXT) (g : Glob) (k : Nat) (x : Str) (ps : List Str) (sd : SpD) : Prop where
  ex : ∃ f fd, FnOk P w K mg base CX k f fd ps (spD g sd) ∧ Binds K fd ps [] ∧ PySem.W.keepIn K (.ref f) = true ∧ mg x = some (.ref f)
section
variable {P : Program} {w : World} {K : PySem.W.Frag} {mg : Str → Option Value} {base : Heap} {X : Cx} {g : Glob} {xk : WX} {pos : Pos} {CX : CXT} {k j : Nat} {x : Str} {ps : List Str} {sd : SpD}
theorem pd_fun {p : Pos} {e : Expr} {es : List Expr} {ta : CA} (h : HasF X.prog X.w X.K X.mg X.base CX g j x ps sd) (hr : Room k X.A) (l : j ≤ k) (hg : Gl X x) (hx : ∀ σ, PassesAt CX X σ (WE xk σ)) (ha : PDA X g xk (e :: es) ta)
    (hdb : (x == ("__debug__" : Str)) = false := by decide) (he : starEach (e :: es) X.env = (false, eval e X.env) :: starEach es X.env := by rfl) (hpl : (backTo pos (starEach es X.env)).any (·.1) = false := by rfl) : PD X g xk (.Call (.Name x p) (e :: es) [] pos) (cCall sd ta) := by
  obtain ⟨f, fd, a, b, c, d⟩ := h.ex
  exact pd_call a (hr.mono l) hg d c b hx ha hdb he hpl
end
end RM
namespace RM
open PySem PySem.Spec PyProof.Rows L2 CS RZ
/-! ### sorted of a dict whose keys are tuples -/
end RM
namespace RM
open PySem PySem.Spec PyProof.Rows L2 CS RZ
section
variable {X : Cx} {g : Glob} {xk : WX} {pos : Pos}
/-! sorted of a dict with keys of text -/
theorem isL_strs {T : Tab} {H : Hp} : ∀ ss : List Str, IsL T H (ss.map V.str) (ss.map PyData.str)
  | [] => .nil
  | s :: ss => .cons (.str s) (isL_strs ss)
/-! ### a, b = x, y -/
def cPar (i j : Nat) (ta : CA) : CS := fun ρ n e => ta ρ n (fun ds ρ' n' => ∃ x y, ds = [x, y] ∧ e.nx ((ρ'.set i (some (Sl.v x))).set j (some (Sl.v y))) n') e.xc
theorem pds_par {i j : Nat} {x y : Str} {a b : Expr} {ta : CA} {px py pt : Pos} {kt k2 pt2} (hc : X.calm = true) (hN : X.N.Nodup) (hi : X.N[i]? = some x) (hj : X.N[j]? = some y) (hij : i ≠ j)
    (hx : X.env.scope.names.lookup x = some .local) (hy : X.env.scope.names.lookup y = some .local) (ha : PDA X g xk [a, b] ta)
    (hw : swappedStores [.Tuple [.Name x px, .Name y py] kt pt] (.Tuple [a, b] k2 pt2) X.env = pure (some [x, y]) := by rfl)
    (hs : swapsWithSole [.Tuple [.Name x px, .Name y py] kt pt] (.Tuple [a, b] k2 pt2) pos.line X.env = pure false := by rfl) :
    PDS X g xk (.Assign [.Tuple [.Name x px, .Name y py] kt pt] (.Tuple [a, b] k2 pt2) pos) (cPar i j ta) := by
  refine ⟨ps_imp (ps_par hc hN hi hj hij hx hy ha.pa hw hs) fun D σ H h => ?_⟩
  obtain ⟨C, ρ, n, O, e, hK, E, t, l⟩ := h
  refine ⟨C, ρ, n, O, _, _, hK, E, t, l.xc, fun ds ρ1 n1 vs H1 O1 k1 E1 S1 i1 => ?_⟩
  obtain ⟨x, y, rfl, k1⟩ := k1
  obtain ⟨v, u, rfl, iv, iu⟩ := i1.two
  refine ⟨v, u, rfl, ?_⟩
  obtain ⟨E2, S2⟩ := E1.set (i := i) iv
  obtain ⟨E3, S3⟩ := E2.set (i := j) (iu.same S2)
  exact l.nx _ _ _ _ _ k1 E3 ((S1.trans S2).trans S3)
/-- a, b = a new list, [] : both this frame's own -/
def cPar0 (i j : Nat) (t : CE) : CS := fun ρ n e => t ρ n (fun d ρ' n' => i < ρ'.length ∧ j < ρ'.length ∧ e.nx ((ρ'.set i (some (Sl.own d))).set j (some (Sl.own (.list [])))) n') e.xc
theorem pds_par0 {i j : Nat} {x y : Str} {a : Expr} {t : CE} {px py pt pn : Pos} {kt k2 pt2} (hc : X.calm = true) (hN : X.N.Nodup) (hi : X.N[i]? = some x) (hj : X.N[j]? = some y) (hij : i ≠ j)
    (hx : X.env.scope.names.lookup x = some .local) (hy : X.env.scope.names.lookup y = some .local) (ha : PDF X g xk a t)
    (hst : starEach [a, .List [] pn] X.env = (false, eval a X.env) :: starEach [.List [] pn] X.env := by rfl)
    (hw : swappedStores [.Tuple [.Name x px, .Name y py] kt pt] (.Tuple [a, .List [] pn] k2 pt2) X.env = pure (some [x, y]) := by rfl)
    (hs : swapsWithSole [.Tuple [.Name x px, .Name y py] kt pt] (.Tuple [a, .List [] pn] k2 pt2) pos.line X.env = pure false := by rfl) :
    PDS X g xk (.Assign [.Tuple [.Name x px, .Name y py] kt pt] (.Tuple [a, .List [] pn] k2 pt2) pos) (cPar0 i j t) := by
  refine ⟨ps_imp (ps_par hc hN hi hj hij hx hy (pa_cons ha.pe (pa_cons (pe_lst pa_nil) pa_nil) hst) hw hs) fun D σ H h => ?_⟩
  obtain ⟨C, ρ, n, O, e, hK, E, t, l⟩ := h
  refine ⟨C, ρ, n, O, _, _, hK, E, t, l.xc, fun d ρ1 n1 p H1 H' O1 k1 E1 S1 hp s ow no => ⟨Nat.zero_le _, fun p2 hp2 => ⟨.ref p, .ref p2, rfl, ?_⟩⟩⟩
  obtain ⟨E2, S2⟩ := E1.setOwn (i := i) k1.1 hp s ow no
  obtain ⟨E3, S3⟩ := E2.setOwn (i := j) (by rw [List.length_set]; exact k1.2.1) hp2 (same_new hp2) (.lst upd_same .nil) rfl
  exact l.nx _ _ _ _ _ k1.2.2 E3 ((S1.trans S2).trans S3)
/-! ### list of a text -/
def charsD (z : Str) : List D := z.cps.toList.map fun c => .str ⟨#[c]⟩
def gListS (ds : List D) (z : List D) : Prop := ∃ s, ds = [.str s] ∧ s.length ≤ lim ∧ z = charsD s
end
end RM
namespace RM
open PySem PySem.Spec PyProof.Rows L2 CS RZ
section
variable {X : Cx}
def signs (z : Str) : List Str := z.cps.toList.map fun c => ⟨#[c]⟩
theorem vals_signs : ∀ (l : List Nat) (us : List Value), us.length = l.length → (∀ (j : Nat) (u : Value), us[j]? = some u → ∃ (c : Nat) (t : Tok), l[j]? = some c ∧ u = Value.str ⟨#[c]⟩ t) → Vals (l.map fun c => V.str ⟨#[c]⟩) us
  | [], [], _, _ => .nil
  | [], _ :: _, h, _ => by cases h
  | _ :: _, [], h, _ => by cases h
  | c :: l, u :: us, h, q => by
    obtain ⟨c', t, e1, e2⟩ := q 0 u rfl
    cases e1
    refine .cons ⟨t, e2⟩ (vals_signs l us (Nat.succ.inj h) fun j v e => q (j + 1) v e)
theorem call_list_txt (hc : X.calm = true) : CallR X (.type "list") (fun xs H Q => ∃ z : Str, xs = [.str z] ∧ z.cps.size ≤ lim ∧ ∀ l, H l = none → Q (.ref l) (upd H l (.lst ((signs z).map V.str)))) := by
  intro pins s σ H xs us Q I r h
  obtain ⟨z, rfl, hz, q⟩ := h
  obtain ⟨u, rfl, rx⟩ := vals1 r
  obtain ⟨t, rfl⟩ := rx
  have hfit : z.cps.size ≤ sizeLine := lim_le hz
  refine call_list_str (I.ok.hd hc) z t (fun h' tk acc c' hk hS it => ?_) hfit
  have rv : Vals ((signs z).map V.str) acc.toList := by
    unfold signs
    rw [List.map_map]
    refine vals_signs z.cps.toList acc.toList (by rw [Array.length_toList, Array.length_toList]; exact it.1) fun j u e => ?_
    rw [Array.getElem?_toList] at e
    obtain ⟨c, u', e1, e2⟩ := it.2 j u e
    exact ⟨c, u', by rw [Array.getElem?_toList]; exact e1, e2⟩
  refine ⟨.ref s.heap.objs.size, _, I.laid (t' := tk) hk (Nat.le_refl _) (show ObjOk X.prog X.w _ h' _ (.lst _) from ⟨?_, acc.toList, c', rv, ?_⟩), rfl, q _ (I.hok.fresh (Nat.le_refl _))⟩
  · unfold signs
    rw [List.length_map, List.length_map, Array.length_toList]
    exact hfit
  · simpa using hS
theorem cf_listS (hc : X.calm = true) : CallF X (.type "list") gListS := by
  refine ⟨_, call_list_txt hc, fun T Hh H vs ds z Q hK s il hg q => ?_⟩
  obtain ⟨z, rfl, hl, rfl⟩ := hg
  obtain ⟨v, rfl, iv⟩ := il.one
  rw [iv.str']
  refine ⟨z, rfl, hl, q _ ?_⟩
  have : charsD z = (signs z).map PyData.str := by
    unfold charsD signs
    rw [List.map_map]
    rfl
  rw [this]
  exact isL_strs _
def gList' (ds : List D) (z : List D) : Prop := gList ds z ∨ gListS ds z
theorem cf_list' (hc : X.calm = true) : CallF X (.type "list") gList' := cf_list.or (cf_listS hc)
end
/-! ### draws -/
def sdTake : SpD := fun ds n k _ => ∃ m : Int, ds = [boxD, .int m] ∧ n ≤ 900000 ∧ 0 < m ∧ m < 2 ^ 200 ∧ ∀ r : Int, 0 ≤ r → r < m → k (.int r) (n + 1)
theorem Is.box' {T : Tab} {H : Hp} {v : V} (h : Is T H v boxD) : ∃ a, v = .ref a ∧ T.bx = some a := by
  unfold boxD at h
  cases h with
  | box h => exact ⟨_, rfl, h⟩
theorem take_imp {g : Glob} {vs : List V} {H : Hp} {Q : VK} {E : XK} (h : spD g sdTake vs H Q E) :
    ∃ (b : Addr) (n : Nat) (m : Int), vs = [.ref b, .int m] ∧ BoxAt H b n ∧ n ≤ 1000000 ∧ 0 < m ∧ m < 2 ^ 200 ∧ ∀ (H' : Hp) (r : Int), (∀ c o, c ≠ b → H c = some o → H' c = some o) → BoxAt H' b (n + 1) → 0 ≤ r → r < m → Q (.int r) H' := by
  obtain ⟨C, ds, n, k, ke, hK, e0, E0, i, ⟨m, rfl, hn, hm, hm2, s⟩, q, _⟩ := h
  obtain ⟨v, u, rfl, iv, iu⟩ := i.two
  obtain ⟨b, rfl, hb⟩ := iv.box'
  rw [iu.int']
  refine ⟨b, n, m, rfl, (E0.box b hb).2, by omega, hm, hm2, fun H' r kp bx h0 h1 => q _ _ _ _ (s r h0 h1) ⟨fun a o h nb => kp a o (fun z => nb (z ▸ hb)) (e0 ▸ h), fun b' hb' => ?_⟩ (.int r)⟩
  rw [hb] at hb'
  cases hb'
  exact bx
/-- one of some things -/
def sdOf : SpD := fun ds n k _ => ∃ (x : D) (l : List D), ds = [boxD, x] ∧ seqD x = some l ∧ n ≤ 900000 ∧ 0 < l.length ∧ l.length < 1000000 ∧ ∀ d ∈ l, k d (n + 1)
def cs_of : CS := cRet (cOp atD (cVar 1) (cCall sdTake (cCons (cVar 0) (cCons (cCB gLen (cCons (cVar 1) (cNil))) (cNil)))))
theorem atD_seq {x : D} {l : List D} {i : Int} (h : seqD x = some l) : atD x (.int i) = atI l i := by
  unfold seqD at h
  split at h <;> cases h <;> rfl
theorem lenD_seq {x : D} {l : List D} (h : seqD x = some l) : lenD x = some l.length := by
  unfold seqD at h
  split at h <;> cases h <;> rfl
theorem atI_in {α : Type} {l : List α} {i : Int} (h0 : 0 ≤ i) (h1 : i < l.length) : ∃ d ∈ l, atI l i = some d := by
  have hj : i.toNat < l.length := by omega
  refine ⟨l[i.toNat], List.getElem_mem hj, ?_⟩
  have := atI_nat (xs := l) (j := i.toNat) (List.getElem?_eq_getElem hj)
  rwa [Int.toNat_of_nonneg h0] at this
abbrev n_of : List Str := ["_law_box_here", "_law_some"]
theorem himp_of {e : EndsD} (ds : List D) (n : Nat) (k : D → Nat → Prop) (ke : Xv → Nat → Prop) (h : sdOf ds n k ke) (he : e.rt = k) : cs_of (startE n_of ds) n e := by
  obtain ⟨x, l, rfl, hs, hn, h0, h1, q⟩ := h
  refine ⟨_, ⟨x, l.length, rfl, lenD_seq hs, rfl⟩, (l.length : Int), rfl, hn, by omega, by omega, fun r r0 r1 => ?_⟩
  obtain ⟨d, hd, e1⟩ := atI_in r0 r1
  exact ⟨d, (atD_seq hs).trans e1, he ▸ q d hd⟩
/-- up to so many of some things, in any order -/
def sdPick : SpD := fun ds n k _ => ∃ (x : D) (l : List D) (m : Int), ds = [boxD, x, .int m] ∧ gList' [x] l ∧ n ≤ 800000 ∧ 0 ≤ m ∧ m ≤ 1000 ∧ l.length ≤ 1000 ∧
  ∀ (out rest : List D) (n' : Nat), (out ++ rest).Perm l → out.length = min m.toNat l.length → n' ≤ n + 1000 → k (.list out) n'
def cs_pick : CS := cSq (cPar0 4 5 (cCF gList' (cCons (cVar 1) (cNil)))) (cSq (cFor (cRange1 (cCons (cCB (fun ds z => gMin2 ds z ∨ gMin1 ds z) (cCons (cVar 2) (cCons (cCBQ gLen (.nm 4)) (cNil)))) (cNil))) (stN 3) (cDrop (cApp 5 (cMut 4 (cCons (cCall sdTake (cCons (cVar 0) (cCons (cCBQ gLen (.nm 4)) (cNil)))) (cNil)) uPopAt)))) (cRet (cVar 5)))
abbrev n_pick : List Str := ["_law_box_here", "_law_pool_so", "_law_many_so", "_law_turn", "_law_rest", "_law_found"]
theorem erase_perm {α : Type} : ∀ {l : List α} {i : Nat} (h : i < l.length), (l[i] :: l.eraseIdx i).Perm l
  | [], _, h => absurd h (Nat.not_lt_zero _)
  | _ :: _, 0, _ => List.Perm.refl _
  | x :: l, i + 1, h => (List.Perm.swap x _ _).trans ((erase_perm (l := l) (i := i) (Nat.lt_of_succ_lt_succ h)).cons x)
theorem pick_loop {e : EndsD} {b x m : D} : ∀ (turns : List D) (t0 : Option Sl) (rest found : List D) (n : Nat), turns.length ≤ rest.length → rest.length + found.length ≤ 1000 → n ≤ 900000 → turns.length ≤ 1000 → n + turns.length ≤ 900000 → b = boxD →
    (∀ (out rest' : List D) (t : Option Sl), (out ++ rest').Perm (found ++ rest) → out.length = found.length + turns.length → e.nx [some (.v b), some (.v x), some (.v m), t, some (.own (.list rest')), some (.own (.list out))] (n + turns.length)) →
    cForL (stN 3) (cDrop (cApp 5 (cMut 4 (cCons (cCall sdTake (cCons (cVar 0) (cCons (cCBQ gLen (.nm 4)) (cNil)))) (cNil)) uPopAt))) turns [some (.v b), some (.v x), some (.v m), t0, some (.own (.list rest)), some (.own (.list found))] n e
  | [], t0, rest, found, n, _, _, _, _, _, _, q => q found rest t0 (List.Perm.refl _) rfl
  | d :: ds, t0, rest, found, n, h1, h2, h3, h4, h5, hb, q => by
    rw [List.length_cons] at h1 h4 h5
    refine ⟨_, rfl, ⟨_, rfl⟩, ⟨_, rfl⟩, ?_⟩
    refine ⟨rfl, .list rest, .int (rest.length : Nat), rfl, ⟨.list rest, rest.length, rfl, rfl, rfl⟩, rfl, ?_⟩
    refine ⟨(rest.length : Int), by rw [hb], h3, by omega, by omega, fun r r0 r1 => ?_⟩
    have hj : r.toNat < rest.length := by omega
    have hu : uPopAt rest [.int r] = some (rest[r.toNat], rest.eraseIdx r.toNat) := by
      show (if 0 ≤ r ∧ r < 2 ^ 63 then (rest[r.toNat]?).map fun d => (d, rest.eraseIdx r.toNat) else none) = _
      rw [if_pos ⟨r0, by omega⟩, List.getElem?_eq_getElem hj]
      rfl
    refine ⟨rest, _, _, rfl, by unfold lim; omega, hu, found, rfl, by unfold lim; omega, ?_⟩
    have hl : (rest.eraseIdx r.toNat).length = rest.length - 1 := List.length_eraseIdx_of_lt hj
    show cForL _ _ ds [some (.v b), some (.v x), some (.v m), some (.v d), some (.own (.list (rest.eraseIdx r.toNat))), some (.own (.list (found ++ [rest[r.toNat]])))] (n + 1) e
    refine pick_loop ds _ _ _ _ (by omega) (by rw [List.length_append, List.length_singleton]; omega) (by omega) (by omega) (by omega) hb fun out rest' t hp hl2 => ?_
    have := q out rest' t (hp.trans ?_) (by rw [hl2, List.length_append, List.length_singleton, List.length_cons]; omega)
    · rw [List.length_cons] at this
      rw [show n + 1 + ds.length = n + (ds.length + 1) by omega]
      exact this
    · rw [List.append_assoc]
      exact List.Perm.append_left found (erase_perm hj)
theorem himp_pick {e : EndsD} (ds : List D) (n : Nat) (k : D → Nat → Prop) (ke : Xv → Nat → Prop) (h : sdPick ds n k ke) (he : e.rt = k) : cs_pick (startE n_pick ds) n e := by
  obtain ⟨x, l, m, rfl, hl, hn, m0, m1, l1, q⟩ := h
  refine ⟨l, hl, (by show 4 < 6; decide), (by show 5 < 6; decide), ?_⟩
  refine ⟨rfl, .list l, .int (l.length : Nat), rfl, ⟨.list l, l.length, rfl, rfl, rfl⟩, rfl, .int (if (l.length : Int) < m then (l.length : Int) else m), .inl ⟨m, (l.length : Nat), rfl, rfl⟩, ?_⟩
  have hm : 0 ≤ (if (l.length : Int) < m then (l.length : Int) else m) ∧ (if (l.length : Int) < m then (l.length : Int) else m) ≤ 1000 ∧ (if (l.length : Int) < m then (l.length : Int) else m).toNat = min m.toNat l.length := by
    split <;> omega
  refine ⟨_, rfl, ⟨by omega, by omega⟩, ?_⟩
  have hd : (rangeD 0 (if (l.length : Int) < m then (l.length : Int) else m).toNat).length = min m.toNat l.length := by
    unfold rangeD
    rw [List.length_map, List.length_range]
    exact hm.2.2
  refine pick_loop _ _ l [] n (by omega) (by rw [List.length_nil]; omega) (by omega) (by omega) (by omega) rfl fun out rest' t hp ho => ?_
  show e.rt (.list out) _
  rw [he]
  have h1 : out.length = min m.toNat l.length := by rw [ho, List.length_nil, hd]; omega
  have h2 : n + (rangeD 0 (if (l.length : Int) < m then (l.length : Int) else m).toNat).length ≤ n + 1000 := by rw [hd]; omega
  exact q out rest' _ hp h1 h2
end RM
namespace RM
open PySem PySem.Spec PyProof.Rows L2 CS RZ
/-! ### drawn places -/
def strD (ss : List Str) : List D := ss.map PyData.str
def unS : D → Str
  | .str s => s
  | _ => ⟨#[]⟩
def pool0 : List Str := ["a", "b", "c", "d", "e", "f", "g", "h"]
def pool1 : List Str := ["a", "ab", "abc", "b", "ba", "z", "zzzzzzzz", "y"]
def pool2 : List Str := ["hall", "hal", "desk", "shop", "yard", "gate", "inn", "ford"]
def tagPool : List Str := pool0 ++ pool1 ++ pool2
theorem strD_un {l : List D} {pl : List Str} (h : ∀ d ∈ l, d ∈ strD pl) : strD (l.map unS) = l := by
  unfold strD
  rw [List.map_map]
  refine (List.map_congr_left fun d hd => ?_).trans (List.map_id l)
  obtain ⟨s, _, rfl⟩ := List.mem_map.mp (h d hd)
  rfl
/-- what is picked of texts -/
theorem pick_strs {out rest : List D} {pl : List Str} (hp : (out ++ rest).Perm (strD pl)) (hn : pl.Nodup) : ∃ ss : List Str, out = strD ss ∧ ss.Nodup ∧ (∀ s ∈ ss, s ∈ pl) ∧ ss.length = out.length := by
  have hu : (strD pl).map unS = pl := by
    unfold strD
    rw [List.map_map]
    exact List.map_id' pl
  have hm := hp.map unS
  rw [hu, List.map_append] at hm
  refine ⟨out.map unS, (strD_un fun d hd => hp.mem_iff.mp (List.mem_append_left _ hd)).symm, (List.nodup_append.mp (hm.nodup_iff.mpr hn)).1, fun s hs => hm.mem_iff.mp (List.mem_append_left _ hs), List.length_map ..⟩
theorem pool0_chars : strD pool0 = charsD "abcdefgh" := by
  have h : pool0 = signs "abcdefgh" := by decide +kernel
  rw [h]
  unfold strD charsD signs
  rw [List.map_map]
  rfl
def sdTags : SpD := fun ds n k _ => ∃ m : Int, ds = [boxD, .int m] ∧ n ≤ 700000 ∧ 0 ≤ m ∧ m ≤ 8 ∧ ∀ (ss : List Str) (n' : Nat), ss.length = m.toNat → ss.Nodup → (∀ s ∈ ss, s ∈ tagPool) → n' ≤ n + 1001 → k (.list (strD ss)) n'
def cs_tags : CS := cSq (cSet 2 (cCall sdTake (cCons (cVar 0) (cCons (cC (.int 3)) (cNil))))) (cSq (cIfS (cB (cOp eqD (cVar 2) (cC (.int 0)))) (cRet (cCall sdPick (cCons (cVar 0) (cCons (cC (.str "abcdefgh")) (cCons (cVar 1) (cNil)))))) (cNext)) (cSq (cIfS (cB (cOp eqD (cVar 2) (cC (.int 1)))) (cRet (cCall sdPick (cCons (cVar 0) (cCons (cLst (cCons (cC (.str "a")) (cCons (cC (.str "ab")) (cCons (cC (.str "abc")) (cCons (cC (.str "b")) (cCons (cC (.str "ba")) (cCons (cC (.str "z")) (cCons (cC (.str "zzzzzzzz")) (cCons (cC (.str "y")) (cNil)))))))))) (cCons (cVar 1) (cNil)))))) (cNext)) (cRet (cCall sdPick (cCons (cVar 0) (cCons (cLst (cCons (cC (.str "hall")) (cCons (cC (.str "hal")) (cCons (cC (.str "desk")) (cCons (cC (.str "shop")) (cCons (cC (.str "yard")) (cCons (cC (.str "gate")) (cCons (cC (.str "inn")) (cCons (cC (.str "ford")) (cNil)))))))))) (cCons (cVar 1) (cNil))))))))
abbrev n_tags : List Str := ["_law_box_here", "_law_many_so", "_law_kind_so"]
theorem tag_pick {pl : List Str} {x : D} {m : Int} {n n0 : Nat} {k : D → Nat → Prop} {ke : Xv → Nat → Prop} (hg : gList' [x] (strD pl)) (hl : pl.length = 8) (hn : pl.Nodup) (hp : ∀ s ∈ pl, s ∈ tagPool) (h1 : n ≤ 700001) (m0 : 0 ≤ m) (m1 : m ≤ 8) (e0 : n ≤ n0 + 1)
    (q : ∀ (ss : List Str) (n' : Nat), ss.length = m.toNat → ss.Nodup → (∀ s ∈ ss, s ∈ tagPool) → n' ≤ n0 + 1001 → k (.list (strD ss)) n') : sdPick [boxD, x, .int m] n k ke := by
  refine ⟨x, strD pl, m, rfl, hg, by omega, m0, by omega, by unfold strD; rw [List.length_map]; omega, fun out rest n' hpm ho hn' => ?_⟩
  obtain ⟨ss, rfl, g1, g2, g3⟩ := pick_strs hpm hn
  refine q ss n' ?_ g1 (fun s hs => hp s (g2 s hs)) (by omega)
  rw [g3, ho]
  unfold strD
  rw [List.length_map]
  omega
theorem eqD_int (i j : Int) : eqD (.int i) (.int j) = some (.bool (i == j)) := rfl
theorem himp_tags {e : EndsD} (ds : List D) (n : Nat) (k : D → Nat → Prop) (ke : Xv → Nat → Prop) (h : sdTags ds n k ke) (he : e.rt = k) : cs_tags (startE n_tags ds) n e := by
  obtain ⟨m, rfl, hn, m0, m1, q⟩ := h
  subst he
  refine ⟨3, rfl, by omega, by decide, by decide, fun r r0 r1 => ?_⟩
  refine ⟨_, eqD_int r 0, _, rfl, ?_⟩
  dsimp only
  split
  · exact tag_pick (ke := fun _ _ => False) (pl := pool0) (.inr ⟨"abcdefgh", rfl, by decide, pool0_chars⟩) rfl (by decide +kernel) (fun s hs => List.mem_append_left _ (List.mem_append_left _ hs)) (by omega) m0 m1 (Nat.le_refl _) q
  · refine ⟨_, eqD_int r 1, _, rfl, ?_⟩
    dsimp only
    split
    · refine ⟨by show 8 ≤ lim; decide, ?_⟩
      exact tag_pick (ke := fun _ _ => False) (pl := pool1) (.inl ⟨_, rfl, rfl⟩) rfl (by decide +kernel) (fun s hs => List.mem_append_left _ (List.mem_append_right _ hs)) (by omega) m0 m1 (Nat.le_refl _) q
    · refine ⟨by show 8 ≤ lim; decide, ?_⟩
      exact tag_pick (ke := fun _ _ => False) (pl := pool2) (.inl ⟨_, rfl, rfl⟩) rfl (by decide +kernel) (fun s hs => List.mem_append_right _ hs) (by omega) m0 m1 (Nat.le_refl _) q
end RM
namespace RM
open PySem PySem.Spec PyProof.Rows L2 CS RZ
/-! ### drawn steps -/
def triD (t : Str × Str × Int) : D := .tuple [.str t.1, .str t.2.1, .int t.2.2]
def trisD (l : List (Str × Str × Int)) : List D := l.map triD
def sdStrewn : SpD := fun ds n k _ => ∃ (ss : List Str) (most high : Int), ds = [boxD, .list (strD ss), .int most, .int high] ∧ ss.Nodup ∧ 2 ≤ ss.length ∧ ss.length ≤ 8 ∧ n ≤ 600000 ∧ 0 ≤ most ∧ most ≤ 20 ∧ 0 ≤ high ∧ high < 2 ^ 199 ∧
  ∀ (l : List (Str × Str × Int)) (n' : Nat), l.length ≤ most.toNat → (∀ t ∈ l, t.1 ∈ ss ∧ t.2.1 ∈ ss ∧ t.1 ≠ t.2.1 ∧ 0 ≤ t.2.2 ∧ t.2.2 ≤ high) → n' ≤ n + 30000 → k (.tuple (trisD l)) n'
end RM
namespace RM
open PySem PySem.Spec PyProof.Rows L2 CS RZ
/-! ### a comprehension over a list that this frame alone knows -/
end RM
namespace RM
open PySem PySem.Spec PyProof.Rows L2 CS RZ
/-! ### triples added up -/
abbrev Tri := Str × Str × Int
def pr (t : Tri) : Str × Str := (t.1, t.2.1)
def sumAt (l : List Tri) (p : Str × Str) : Int := ((l.filter fun t => pr t = p).map fun t => t.2.2).sum
def putOne (acc : List (Str × Str)) (p : Str × Str) : List (Str × Str) := if p ∈ acc then acc else acc ++ [p]
def firsts (l : List (Str × Str)) : List (Str × Str) := l.foldl putOne []
theorem firsts_snoc (l : List (Str × Str)) (p : Str × Str) : firsts (l ++ [p]) = putOne (firsts l) p := by
  unfold firsts
  rw [List.foldl_append]
  rfl
theorem mem_putOne {acc : List (Str × Str)} {p q : Str × Str} : q ∈ putOne acc p ↔ q ∈ acc ∨ q = p := by
  unfold putOne
  split
  · rename_i h
    constructor
    · exact .inl
    · rintro (h2 | rfl)
      · exact h2
      · exact h
  · rw [List.mem_append, List.mem_singleton]
theorem nodup_putOne {acc : List (Str × Str)} {p : Str × Str} (h : acc.Nodup) : (putOne acc p).Nodup := by
  unfold putOne
  split
  · exact h
  · rename_i c
    rw [List.nodup_append]
    refine ⟨h, by simp, fun a ha b hb => ?_⟩
    rw [List.mem_singleton] at hb
    subst hb
    exact fun z => c (z ▸ ha)
theorem foldl_put : ∀ (l acc : List (Str × Str)), (∀ q, q ∈ l.foldl putOne acc ↔ q ∈ acc ∨ q ∈ l) ∧ (acc.Nodup → (l.foldl putOne acc).Nodup)
  | [], acc => ⟨fun q => by simp, fun h => h⟩
  | p :: l, acc => by
    obtain ⟨h1, h2⟩ := foldl_put l (putOne acc p)
    refine ⟨fun q => ?_, fun h => h2 (nodup_putOne h)⟩
    rw [List.foldl_cons, h1, mem_putOne, List.mem_cons, or_assoc]
theorem mem_firsts {l : List (Str × Str)} {q : Str × Str} : q ∈ firsts l ↔ q ∈ l := by
  unfold firsts
  rw [(foldl_put l []).1 q]
  simp
theorem nodup_firsts (l : List (Str × Str)) : (firsts l).Nodup := (foldl_put l []).2 List.nodup_nil
theorem sumAt_snoc (l : List Tri) (t : Tri) (q : Str × Str) : sumAt (l ++ [t]) q = sumAt l q + (if pr t = q then t.2.2 else 0) := by
  unfold sumAt
  rw [List.filter_append, List.map_append, List.sum_append]
  congr 1
  by_cases h : pr t = q
  · rw [if_pos h, List.filter_cons_of_pos (by simpa using h)]
    simp
  · rw [if_neg h, List.filter_cons_of_neg (by simpa using h)]
    rfl
theorem sumAt_none {l : List Tri} {q : Str × Str} (h : q ∉ l.map pr) : sumAt l q = 0 := by
  unfold sumAt
  rw [List.filter_eq_nil_iff.mpr]
  · rfl
  · intro t ht
    simp only [decide_eq_true_eq]
    exact fun z => h (z ▸ List.mem_map_of_mem ht)
/-- what is counted: the pairs ascend, their numbers added, without 0 -/
def canon (l : List Tri) : List Tri := (((firsts (l.map pr)).mergeSort leP).filter fun p => 0 < sumAt l p).map fun p => (p.1, p.2, sumAt l p)
/-! the dict -/
theorem tx_eqv (p q : Str × Str) : PyData.eqv (tx p) (tx q) = decide (p = q) := by
  obtain ⟨a, b⟩ := p
  obtain ⟨c, d⟩ := q
  show PyData.eqv (.tuple [.str a, .str b]) (.tuple [.str c, .str d]) = _
  have : PyData.eqv (.tuple [.str a, .str b]) (.tuple [.str c, .str d]) = (PyData.eqv (.str a) (.str c) && (PyData.eqv (.str b) (.str d) && true)) := by simp [PyData.eqv, PyData.eqvAll]
  rw [this, RM.eqv_str, RM.eqv_str, Bool.and_true]
  by_cases h1 : a = c
  · by_cases h2 : b = d
    · simp [h1, h2]
    · simp [h2]
  · simp [h1]
end RM
namespace RM
open PySem PySem.Spec PyProof.Rows L2 CS RZ
/-! ### a comprehension whose turns leave the frame as it is -/
theorem lcL_run {cg : CG} {tt : CT} {te : CE} {vs : List Nat} {ρ0 : En} {n : Nat} (f : D → Option D) {k : List D → En → Nat → Prop} : ∀ (ds acc : List D), (∀ d ∈ ds, ∃ ρ1, cg d ρ0 = some ρ1 ∧ wipeE ρ1 vs = ρ0 ∧ (∀ K1 : Bool → En → Nat → Prop, K1 (f d).isSome ρ1 n → tt ρ1 n K1 kF) ∧ ∀ y, f d = some y → ∀ K2 : D → En → Nat → Prop, K2 y ρ1 n → te ρ1 n K2 kF) →
    acc.length + ds.length ≤ lim → k (acc ++ ds.filterMap f) ρ0 n → cLcL cg tt te vs ds ρ0 n acc k
  | [], acc, _, _, q => by simpa [cLcL] using q
  | d :: ds, acc, h, hl, q => by
    obtain ⟨ρ1, h1, h2, h3, h4⟩ := h d (List.mem_cons_self ..)
    rw [List.length_cons] at hl
    refine ⟨ρ1, h1, h3 _ ?_⟩
    cases e : f d with
    | none =>
      show cLcL cg tt te vs ds (wipeE ρ1 vs) n acc k
      rw [h2]
      refine lcL_run f ds acc (fun z hz => h z (List.mem_cons_of_mem _ hz)) (by omega) ?_
      rw [List.filterMap_cons, e] at q
      exact q
    | some y =>
      show te ρ1 n _ kF
      refine h4 y e _ ⟨by omega, ?_⟩
      rw [h2]
      refine lcL_run f ds (acc ++ [y]) (fun z hz => h z (List.mem_cons_of_mem _ hz)) (by rw [List.length_append, List.length_singleton]; omega) ?_
      rw [List.filterMap_cons, e] at q
      rw [List.append_assoc]
      exact q
/-- rows of a triple each, lists or tuples -/
def RowsAre (rows : List D) (l : List Tri) : Prop := rows.map seqD = l.map fun t => some [PyData.str t.1, .str t.2.1, .int t.2.2]
theorem firsts_len (l : List (Str × Str)) : (firsts l).length ≤ l.length := by
  have : ∀ (l acc : List (Str × Str)), (l.foldl putOne acc).length ≤ acc.length + l.length := by
    intro l
    induction l with
    | nil => intro acc; simp
    | cons p l ih =>
      intro acc
      rw [List.foldl_cons, List.length_cons]
      have h1 := ih (putOne acc p)
      have h2 : (putOne acc p).length ≤ acc.length + 1 := by
        unfold putOne
        split
        · omega
        · rw [List.length_append, List.length_singleton]
          exact Nat.le_refl _
      omega
  have := this l []
  unfold firsts
  simpa using this
theorem sort_tx' (l : List (Str × Str)) : (l.map tx).mergeSort leD' = (l.mergeSort leP).map tx := (List.map_mergeSort (f := tx) fun a _ b _ => rfl).symm
end RM
namespace RM
open PySem PySem.Spec PyProof.Rows L2 CS RZ
/-! ### what may be compared, by depth -/
def OkN (k : Nat) (d : D) : Prop := plain d = true ∧ d.canLay0 = true ∧ d.depth ≤ k
theorem OkN.ok {k : Nat} {d : D} (h : OkN k d) (hk : k ≤ 64) : okE d = true := by
  unfold okE SeqAt.shaped
  rw [h.1, h.2.1, decide_eq_true (Nat.le_trans h.2.2 hk)]
  rfl
theorem OkN.all {k : Nat} : ∀ {ds : List D}, (∀ d ∈ ds, OkN k d) → plains ds = true ∧ PyData.canLayAll0 ds = true ∧ PyData.depthAll ds ≤ k
  | [], _ => ⟨rfl, by simp [PyData.canLayAll0], by simp [PyData.depthAll]⟩
  | d :: ds, h => by
    obtain ⟨a1, a2, a3⟩ := h d (List.mem_cons_self ..)
    obtain ⟨b1, b2, b3⟩ := OkN.all (ds := ds) fun z hz => h z (List.mem_cons_of_mem _ hz)
    refine ⟨by unfold plains; rw [a1, b1]; rfl, by simp only [PyData.canLayAll0]; rw [a2, b2]; rfl, ?_⟩
    simp only [PyData.depthAll]
    omega
theorem OkN.tuple {k : Nat} {ds : List D} (h : ∀ d ∈ ds, OkN k d) : OkN (k + 1) (.tuple ds) := by
  obtain ⟨b1, b2, b3⟩ := OkN.all h
  exact ⟨by unfold plain; exact b1, by simp only [PyData.canLay0]; exact b2, by simp only [PyData.depth]; omega⟩
theorem OkN.list {k : Nat} {ds : List D} (h : ∀ d ∈ ds, OkN k d) : OkN (k + 1) (.list ds) := by
  obtain ⟨b1, b2, b3⟩ := OkN.all h
  exact ⟨by unfold plain; exact b1, by simp only [PyData.canLay0]; exact b2, by simp only [PyData.depth]; omega⟩
theorem OkN.int (k : Nat) (i : Int) : OkN k (.int i) := ⟨rfl, by simp [PyData.canLay0], by simp [PyData.depth]⟩
def GoodS (s : Str) : Prop := (PyData.str s).canLay0 = true
theorem OkN.str (k : Nat) {s : Str} (h : GoodS s) : OkN k (.str s) := ⟨rfl, h, by simp [PyData.depth]⟩
def GoodP (p : Str × Str) : Prop := GoodS p.1 ∧ GoodS p.2
theorem OkN.tx {p : Str × Str} (h : GoodP p) : OkN 1 (tx p) := OkN.tuple fun d hd => by
  rcases List.mem_cons.mp hd with rfl | hd
  · exact .str 0 h.1
  · rw [List.mem_singleton.mp hd]
    exact .str 0 h.2
theorem tag_good : ∀ s ∈ tagPool, GoodS s := by
  intro s hs
  have : ∀ s ∈ tagPool, (PyData.str s).canLay0 = true := by decide +kernel
  exact this s hs
/-! ### by this law's own sums -/
def sdSummed : SpD := fun ds n k _ => ∃ (x : D) (l : List Tri), ds = [x] ∧ seqD x = some (trisD l) ∧ (∀ t ∈ l, GoodP (pr t)) ∧ l.length ≤ 1000 ∧ k (.tuple (trisD (canon l))) n
end RM
namespace RM
open PySem PySem.Spec PyProof.Rows L2 CS RZ
theorem firsts_sub : ∀ (l m : List (Str × Str)), (firsts m).Sublist m → (firsts (m ++ l)).Sublist (m ++ l)
  | [], m, h => by rwa [List.append_nil]
  | p :: l, m, h => by
    have e : m ++ p :: l = (m ++ [p]) ++ l := by rw [List.append_assoc]; rfl
    rw [e]
    refine firsts_sub l (m ++ [p]) ?_
    rw [firsts_snoc]
    unfold putOne
    split
    · exact h.trans (List.sublist_append_left ..)
    · exact h.append (List.Sublist.refl _)
theorem firsts_sublist (l : List (Str × Str)) : (firsts l).Sublist l := by
  have := firsts_sub l [] (List.Sublist.refl _)
  rwa [List.nil_append] at this
/-- in order with the like left out, or the other way round -/
theorem firsts_sort (l : List (Str × Str)) : firsts (l.mergeSort leP) = (firsts l).mergeSort leP := by
  have p1 : (firsts (l.mergeSort leP)).Pairwise fun a b => leP a b = true := (PySem.W.sort_pairwise leP_total l).sublist (firsts_sublist _)
  have p2 := PySem.W.sort_pairwise leP_total (firsts l)
  have hp : (firsts (l.mergeSort leP)).Perm ((firsts l).mergeSort leP) := by
    refine ((List.perm_ext_iff_of_nodup (nodup_firsts _) ((List.mergeSort_perm _ _).nodup_iff.mpr (nodup_firsts l))).mpr fun q => ?_)
    rw [mem_firsts, (List.mergeSort_perm l leP).mem_iff, (List.mergeSort_perm (firsts l) leP).mem_iff, mem_firsts]
  exact List.Perm.eq_of_pairwise (fun a b _ _ x y => leP_anti x y) p1 p2 hp
end RM
namespace RM
open PySem PySem.Spec PyProof.Rows L2 CS RZ
/-! ### classes by what they keep -/
section
variable (P : Program) (w : World) (K : PySem.W.Frag) (mg : Str → Option Value) (base : Heap) (g : Glob) (j : Nat)
structure HasE (x : Str) (c : Nat) (ps fs : List Str) : Prop where
  ex : ∃ fI fd, ErrC K (g.cls c) fI fs ∧ FnOk P w K mg base CX0 j fI fd ps (spErr K (g.cls c) fI fs) ∧ Binds K fd ps [] ∧ mg x = some (.ref (g.cls c))
end
section
variable {X : Cx} {g : Glob} {xk : WX} {pos p : Pos} {j k c : Nat} {x m : Str} {ps fs : List Str} {CX : CXT} {e o a b : Expr} {es : List Expr} {ta : CA} {to t1 t2 : CE}
theorem pds_raiseH {pos2 : Pos} (hc : X.calm = true) (h : HasE X.prog X.w X.K X.mg X.base g j x c ps fs) (tk : Takes X xk) (hr : Room k X.A) (l : j + 1 ≤ k) (hg : Gl X x) (ha : PDA X g xk (e :: es) ta) (hn : fs.length ≤ 1000 := by decide) (hdb : (x == ("__debug__" : Str)) = false := by decide)
    (he : starEach (e :: es) X.env = (false, eval e X.env) :: starEach es X.env := by rfl) (hpl : (backTo pos2 (starEach es X.env)).any (·.1) = false := by rfl) : PDS X g xk (.Raise (some (.Call (.Name x p) (e :: es) [] pos2)) none pos) (cRaise c fs ta) := by
  obtain ⟨fI, fd, a, b, d, m⟩ := h.ex
  exact pds_raise hc tk a b (hr.mono l) d hg m ha hn hdb he hpl
end
end RM
namespace RM
open PySem PySem.Spec PyProof.Rows L2 CS RZ
abbrev LtJ (j k : Nat) := j + 1 ≤ k
def cCnt : Nat := 20
def cStill : Nat := 4
def cBelow : Nat := 5
/-! ### Counts, as data -/
def manyD (l : List Tri) : List (D × D) := l.map fun t => (tx (pr t), PyData.int t.2.2)
def cntF (s : Str) (l : List Tri) : List (D × D) := [(.str "_start", .str s), (.str "_steps", .tuple (trisD l)), (.str "_many", .dict ((.none, .bool true) :: manyD l))]
def cntD (s : Str) (l : List Tri) : D := obj cCnt (cntF s l)
def numAt (l : List Tri) (p : Str × Str) : Int := ((l.find? fun t => pr t = p).map fun t => t.2.2).getD 0
/-! properties -/
def sdP_start : SpD := fun ds n k _ => ∃ s l, ds = [cntD s l] ∧ k (.str s) n
/-! numbers of steps -/
def sdSub : SpD := fun ds n k _ => ∃ s l x a b, ds = [cntD s l, x] ∧ seqD x = some [.str a, .str b] ∧ k (.int (numAt l (a, b))) n
end RM
namespace RM
open PySem PySem.Spec PyProof.Rows L2 CS RZ
/-! ### what leads out and in -/
theorem eqD_str {a b : Str} (ha : GoodS a) (hb : GoodS b) : eqD (.str a) (.str b) = some (.bool (decide (a = b))) := by
  unfold eqD
  rw [(OkN.str 0 ha).ok (by decide), (OkN.str 0 hb).ok (by decide), RM.eqv_str]
  rfl
def sdM_outs : SpD := fun ds n k _ => ∃ s l a, ds = [cntD s l, .str a] ∧ GoodS a ∧ (∀ t ∈ l, GoodP (pr t)) ∧ l.length ≤ 1000 ∧ k (.int ((l.filter fun t => t.1 = a).map fun t => t.2.2).sum) n
def sdM_ins : SpD := fun ds n k _ => ∃ s l a, ds = [cntD s l, .str a] ∧ GoodS a ∧ (∀ t ∈ l, GoodP (pr t)) ∧ l.length ≤ 1000 ∧ k (.int ((l.filter fun t => t.2.1 = a).map fun t => t.2.2).sum) n
/-! ### triples that are none -/
def stillT (t : Tri) : Bool := decide (t.1 = t.2.1)
def belowT (t : Tri) : Bool := decide (t.2.2 < 0)
def stillX (t : Tri) : Xv := (cStill, errF ["place"] [.str t.1])
def belowX (t : Tri) : Xv := (cBelow, errF ["one", "other", "number"] [.str t.1, .str t.2.1, .int t.2.2])
/-- what is raised for the triples, if something is -/
def wrongT (l : List Tri) : Option Xv := match l.find? stillT with
  | some t => some (stillX t)
  | none => (l.find? belowT).map belowX
end RM
namespace RM
open PySem PySem.Spec PyProof.Rows L2 CS RZ
/-! ### Counts made -/
theorem canon_pr (l : List Tri) : (canon l).map pr = ((firsts (l.map pr)).mergeSort leP).filter fun p => 0 < sumAt l p := by
  unfold canon
  rw [List.map_map]
  exact List.map_id' _
theorem canon_nodup (l : List Tri) : ((canon l).map pr).Nodup := by
  rw [canon_pr]
  exact ((List.mergeSort_perm _ _).nodup_iff.mpr (nodup_firsts _)).sublist List.filter_sublist
theorem canon_len (l : List Tri) : (canon l).length ≤ l.length := by
  have h1 := congrArg List.length (canon_pr l)
  rw [List.length_map] at h1
  have h2 := List.length_filter_le (fun p => decide (0 < sumAt l p)) ((firsts (l.map pr)).mergeSort leP)
  rw [List.length_mergeSort] at h2
  have h3 := firsts_len (l.map pr)
  rw [List.length_map] at h3
  omega
theorem canon_mem {l : List Tri} {t : Tri} (h : t ∈ canon l) : pr t ∈ l.map pr ∧ 0 < t.2.2 ∧ t.2.2 = sumAt l (pr t) := by
  unfold canon at h
  obtain ⟨p, hp, rfl⟩ := List.mem_map.mp h
  obtain ⟨h1, h2⟩ := List.mem_filter.mp hp
  exact ⟨mem_firsts.mp ((List.mergeSort_perm _ _).mem_iff.mp h1), of_decide_eq_true h2, rfl⟩
def sdInit : SpI := fun ds n k ke => ∃ (s : Str) (x : D) (rows : List D) (l : List Tri), ds = [.str s, x] ∧ seqD x = some rows ∧ RowsAre rows l ∧ (∀ t ∈ l, GoodP (pr t)) ∧ l.length ≤ 1000 ∧ match wrongT l with
  | some y => ke y n
  | none => k (cntF s (canon l)) n
/-! + and - -/
def sdBinAdd : SpD := fun ds n k ke => ∃ s l s2 l2, ds = [cntD s l, cntD s2 l2] ∧ (∀ t ∈ l, GoodP (pr t)) ∧ (∀ t ∈ l2, GoodP (pr t)) ∧ l.length + l2.length ≤ 1000 ∧ match wrongT (l ++ l2) with
  | some y => ke y n
  | none => k (cntD s (canon (l ++ l2))) n
def leftT (l l2 : List Tri) : List Tri := l.map fun t => (t.1, t.2.1, t.2.2 - numAt l2 (pr t))
end RM
namespace PySem.W
open PySem PySem.Spec PyProof.Rows
end PySem.W
namespace RM
open PySem PySem.Spec PyProof.Rows L2 CS RZ
/-! ### x op= e of an own class without in-place methods -/
def cAugO (i : Nat) (sd : SpD) (te : CE) (c : Nat) : CS := fun ρ n e => ∃ fs, ρ[i]? = some (some (Sl.v (obj c fs))) ∧ te ρ n (fun y ρ1 n1 => (∃ fs2, y = obj c fs2) ∧ sd [obj c fs, y] n1 (fun z n2 => e.nx (ρ1.set i (some (Sl.v z))) n2) (fun w n2 => e.xc w ρ1 n2)) e.xc
section
variable {X : Cx} {g : Glob} {xk : WX} {pos pos' p : Pos} {j k c i : Nat} {x : Str} {ps : List Str} {e : Expr} {te : CE}
/-! isinstance of an own class -/
def kindD : D → Option String
  | .none => some "NoneType"
  | .bool _ => some "bool"
  | .int _ => some "int"
  | .str _ => some "str"
  | .list _ => some "list"
  | .tuple _ => some "tuple"
  | .dict _ => none
def kinds : List String := ["NoneType", "bool", "int", "str", "list", "tuple"]
theorem kind_mem {d : D} {t : String} (h : kindD d = some t) : t ∈ kinds := by
  cases d <;> cases h <;> decide
theorem kind_ty {T : Tab} {H : Hp} {v : V} {d : D} {t : String} (h : Is T H v d) (e : kindD d = some t) : TyX T.K H v (.type t) := by
  cases h with
  | lst h r =>
    cases e
    exact .base (.lst h)
  | tup h r =>
    cases e
    rcases h.1 with (h | ⟨o, h⟩) | ⟨o, its, n, h, hc, _⟩
    · exact .base (.tup h)
    · exact .fTuple h
    · exact .kTuple h hc
  | non => cases e; exact .base .non
  | bl b => cases e; exact .base (.bl b)
  | int b => cases e; exact .base (.int b)
  | str b => cases e; exact .base (.str b)
  | _ => cases e
/-! x[::-1] -/
def revD : D → Option D
  | .list ds => some (.list ds.reverse)
  | .tuple ds => some (.tuple ds.reverse)
  | _ => none
def cRev (te ts : CE) : CE := fun ρ n k ke => te ρ n (fun x ρ1 n1 => ts ρ1 n1 (fun y ρ2 n2 => y = .int (-1) ∧ ∃ z, revD x = some z ∧ k z ρ2 n2) ke) ke
theorem pd_rev {st : Expr} {ts : CE} {p2 : Pos} (G : Good X g) (he : PD X g xk e te) (hs : PD X g xk st ts) : PD X g xk (.Subscript e (.Slice none none (some st) p2) pos) (cRev te ts) := by
  refine ⟨PE.imp (pe_back he.pe hs.pe) fun σ H Q r => ?_⟩
  obtain ⟨C, ρ, n, O, k, ke, hK, E, t, x, q⟩ := r
  refine ⟨C, ρ, n, O, _, ke, hK, E, t, x, fun d ρ1 n1 v H1 O1 k1 E1 S1 i1 => ⟨C, ρ1, n1, O1, _, ke, hK, E1, k1, x, fun d2 ρ2 n2 v2 H2 O2 k2 E2 S2 i2 => ?_⟩⟩
  obtain ⟨rfl, z, hz, k2⟩ := k2
  have i3 := i1.same S2
  refine ⟨i2.int', ?_⟩
  unfold revD at hz
  split at hz
  · cases hz
    obtain ⟨a, xs, rfl, ha, r⟩ := i3.list'
    refine ⟨a, xs, rfl, .inr ⟨SqL.of (hid_le _ _ ha), fun p hp => ?_⟩⟩
    obtain ⟨E3, S3, e3⟩ := E2.new (o := .lst xs.reverse) hp
    exact q _ _ _ _ _ _ k2 E3 ((S1.trans S2).trans S3) (.lst e3 (r.reverse.same S3))
  · cases hz
    obtain ⟨a, xs, rfl, ha, r⟩ := i3.tup'
    refine ⟨a, xs, rfl, .inl ⟨(hK.1.trans G.K) ▸ sqt_same hid_le ha, fun p hp => ?_⟩⟩
    obtain ⟨E3, S3, e3⟩ := E2.new (o := .tup xs.reverse) hp
    exact q _ _ _ _ _ _ k2 E3 ((S1.trans S2).trans S3) (.tup (tph_in e3) (r.reverse.same S3))
  · cases hz
end
end RM
namespace RM
open PySem PySem.Spec PyProof.Rows L2 CS RZ
/-! ### an object made with its last argument left out -/
def cMake1 (c : Nat) (sd : SpI) (d0 : D) (ta : CA) : CE := fun ρ n k ke => ta ρ n (fun ds ρ1 n1 => sd (ds ++ [d0]) n1 (fun fs n2 => k (obj c fs) ρ1 n2) (fun y n2 => ke y ρ1 n2)) ke
end RM
namespace RM
open PySem PySem.Spec PyProof.Rows L2 CS RZ
/-! ### dict of a list of pairs, keys of text, none twice -/
def pairsD (ps : List (Str × D)) : List D := ps.map fun p => .tuple [.str p.1, p.2]
def strK (ps : List (Str × D)) : List (D × D) := ps.map fun p => (.str p.1, p.2)
def gDictS (ds : List D) (z : D) : Prop := ∃ ps : List (Str × D), ds = [.list (pairsD ps)] ∧ (ps.map Prod.fst).Nodup ∧ z = .dict ((.none, .bool false) :: strK ps)
end RM
namespace RM
open PySem PySem.Spec PyProof.Rows L2 CS RZ
/-! ### a comprehension with two walks -/
end RM
namespace RM
open PySem PySem.Spec PyProof.Rows L2 CS RZ
end RM
namespace RM
open PySem PySem.Spec PyProof.Rows L2 CS RZ
/-! ### own == and in as tests -/
end RM
namespace RM
open PySem PySem.Spec PyProof.Rows L2 CS RZ
/-! ### Counts that are equal -/
theorem triD_eqv (t u : Tri) : PyData.eqv (triD t) (triD u) = decide (t = u) := by
  obtain ⟨a, b, c⟩ := t
  obtain ⟨a', b', c'⟩ := u
  have : PyData.eqv (triD (a, b, c)) (triD (a', b', c')) = (PyData.eqv (.str a) (.str a') && (PyData.eqv (.str b) (.str b') && (PyData.eqv (.int c) (.int c') && true))) := by simp [triD, PyData.eqv, PyData.eqvAll]
  rw [this, RM.eqv_str, RM.eqv_str, Bool.and_true, show PyData.eqv (.int c) (.int c') = (c == c') from rfl]
  by_cases h1 : a = a'
  · by_cases h2 : b = b'
    · by_cases h3 : c = c'
      · simp [h1, h2, h3]
      · simp [h3]
    · simp [h2]
  · simp [h1]
theorem tris_eqv : ∀ l m : List Tri, PyData.eqvAll (trisD l) (trisD m) = decide (l = m)
  | [], [] => by simp [trisD, PyData.eqvAll]
  | [], _ :: _ => by simp [trisD, PyData.eqvAll]
  | _ :: _, [] => by simp [trisD, PyData.eqvAll]
  | t :: l, u :: m => by
    have ih := tris_eqv l m
    unfold trisD at ih ⊢
    rw [List.map_cons, List.map_cons]
    simp only [PyData.eqvAll]
    rw [triD_eqv, ih]
    by_cases h1 : t = u
    · by_cases h2 : l = m
      · simp [h1, h2]
      · simp [h2]
    · simp [h1]
theorem OkN.tri {t : Tri} (h : GoodP (pr t)) : OkN 1 (triD t) := OkN.tuple fun d hd => by
  rcases List.mem_cons.mp hd with rfl | hd
  · exact .str 0 h.1
  rcases List.mem_cons.mp hd with rfl | hd
  · exact .str 0 h.2
  · rw [List.mem_singleton.mp hd]
    exact .int 0 _
theorem OkN.tris {l : List Tri} (h : ∀ t ∈ l, GoodP (pr t)) : OkN 2 (.tuple (trisD l)) := OkN.tuple fun d hd => by
  obtain ⟨t, ht, rfl⟩ := List.mem_map.mp hd
  exact OkN.tri (h t ht)
theorem eqD_tris {l m : List Tri} (h1 : ∀ t ∈ l, GoodP (pr t)) (h2 : ∀ t ∈ m, GoodP (pr t)) : eqD (.tuple (trisD l)) (.tuple (trisD m)) = some (.bool (decide (l = m))) := by
  unfold eqD
  rw [(OkN.tris h1).ok (by decide), (OkN.tris h2).ok (by decide)]
  rw [if_pos (show (true && true) = true from rfl)]
  have : PyData.eqv (.tuple (trisD l)) (.tuple (trisD m)) = PyData.eqvAll (trisD l) (trisD m) := by simp [PyData.eqv]
  rw [this, tris_eqv]
def sdEq : SpD := fun ds n k _ => ∃ s l y, ds = [cntD s l, y] ∧ GoodS s ∧ (∀ t ∈ l, GoodP (pr t)) ∧ ((∃ s2 l2, y = cntD s2 l2 ∧ GoodS s2 ∧ (∀ t ∈ l2, GoodP (pr t)) ∧ k (.bool (decide (s = s2 ∧ l = l2))) n) ∨ ((∃ t, kindD y = some t) ∧ k (.bool false) n))
/-! ### surplus -/
def putS (ns : List Str) (a : Str) : List Str := if a ∈ ns then ns else ns ++ [a]
def over (l : List Tri) (p : Str) : Int := ((l.filter fun t => t.1 = p).map fun t => t.2.2).sum - ((l.filter fun t => t.2.1 = p).map fun t => t.2.2).sum
def ends (l : List Tri) (p : Str) : Prop := ∃ t ∈ l, t.1 = p ∨ t.2.1 = p
def overD (l : List Tri) (ys : List Str) : List D := (ys.filter fun p => over l p ≠ 0).map fun p => .tuple [.str p, .int (over l p)]
def sdSurplus : SpD := fun ds n k _ => ∃ s l, ds = [cntD s l] ∧ l.length ≤ 30 ∧ (∀ t ∈ l, t.1 ≠ t.2.1) ∧ ∀ ys : List Str, ys.Nodup → (∀ p, p ∈ ys ↔ ends l p) → sortedS ys = true → k (.tuple (overD l ys)) n
theorem mem_putS {ns : List Str} {a p : Str} : p ∈ putS ns a ↔ p ∈ ns ∨ p = a := by
  unfold putS
  split
  · rename_i h
    exact ⟨.inl, fun z => z.elim id fun e => e ▸ h⟩
  · rw [List.mem_append, List.mem_singleton]
theorem nodup_putS {ns : List Str} {a : Str} (h : ns.Nodup) : (putS ns a).Nodup := by
  unfold putS
  split
  · exact h
  · rename_i c
    rw [List.nodup_append]
    refine ⟨h, by simp, fun x hx y hy => ?_⟩
    rw [List.mem_singleton] at hy
    subst hy
    exact fun z => c (z ▸ hx)
theorem len_putS (ns : List Str) (a : Str) : (putS ns a).length ≤ ns.length + 1 := by
  unfold putS
  split
  · omega
  · rw [List.length_append, List.length_singleton]
    exact Nat.le_refl _
end RM
namespace RM
open PySem PySem.Spec PyProof.Rows L2 CS RZ
/-! ### what canon tells -/
def Fine (l : List Tri) : Prop := ∀ t ∈ l, t.1 ≠ t.2.1 ∧ 0 ≤ t.2.2
theorem sumAt_append (l m : List Tri) (p : Str × Str) : sumAt (l ++ m) p = sumAt l p + sumAt m p := by
  unfold sumAt
  rw [List.filter_append, List.map_append, List.sum_append]
theorem sumAt_nil (p : Str × Str) : sumAt [] p = 0 := rfl
theorem sumAt_cons (t : Tri) (l : List Tri) (p : Str × Str) : sumAt (t :: l) p = (if pr t = p then t.2.2 else 0) + sumAt l p := by
  have := sumAt_append [t] l p
  rw [List.singleton_append] at this
  rw [this]
  congr 1
  have h2 := sumAt_snoc [] t p
  rw [List.nil_append, sumAt_nil, Int.zero_add] at h2
  exact h2
theorem sumAt_nonneg {l : List Tri} (h : ∀ t ∈ l, 0 ≤ t.2.2) (p : Str × Str) : 0 ≤ sumAt l p := by
  induction l with
  | nil => exact Int.le_refl 0
  | cons t l ih =>
    rw [sumAt_cons]
    have h1 := ih fun z hz => h z (List.mem_cons_of_mem _ hz)
    have h2 := h t (List.mem_cons_self ..)
    split <;> omega
theorem sumAt_in {l : List Tri} {p : Str × Str} (h : sumAt l p ≠ 0) : p ∈ l.map pr := Decidable.byContradiction fun c => h (sumAt_none c)
theorem numAt_cons (t : Tri) (l : List Tri) (p : Str × Str) : numAt (t :: l) p = if pr t = p then t.2.2 else numAt l p := by
  unfold numAt
  rw [List.find?_cons]
  by_cases c : pr t = p
  · rw [decide_eq_true c, if_pos c]
    rfl
  · rw [decide_eq_false c, if_neg c]
theorem numAt_sum {l : List Tri} (hn : (l.map pr).Nodup) (p : Str × Str) : numAt l p = sumAt l p := by
  induction l with
  | nil => rfl
  | cons t l ih =>
    rw [List.map_cons, List.nodup_cons] at hn
    rw [sumAt_cons]
    unfold numAt
    rw [List.find?_cons]
    by_cases c : pr t = p
    · rw [decide_eq_true c, if_pos c, sumAt_none (c ▸ hn.1), Int.add_zero]
      rfl
    · rw [decide_eq_false c, if_neg c, Int.zero_add]
      exact ih hn.2
theorem sumAt_canon (l : List Tri) (p : Str × Str) : sumAt (canon l) p = if 0 < sumAt l p then sumAt l p else 0 := by
  by_cases c : p ∈ (canon l).map pr
  · obtain ⟨t, ht, rfl⟩ := List.mem_map.mp c
    obtain ⟨h1, h2, h3⟩ := canon_mem ht
    rw [← numAt_sum (canon_nodup l)]
    unfold numAt
    have : (canon l).find? (fun u => pr u = pr t) = some t := by
      have hn := canon_nodup l
      generalize canon l = m at ht hn
      induction m with
      | nil => cases ht
      | cons u m ih =>
        rw [List.find?_cons]
        by_cases e : u = t
        · subst e
          rw [decide_eq_true rfl]
        · rcases List.mem_cons.mp ht with z | z
          · exact absurd z.symm e
          · rw [List.map_cons, List.nodup_cons] at hn
            have hne : ¬ pr u = pr t := fun w => hn.1 (by rw [w]; exact List.mem_map_of_mem z)
            rw [decide_eq_false hne]
            exact ih z hn.2
    rw [this]
    show t.2.2 = _
    rw [← h3, if_pos h2]
  · rw [sumAt_none c, if_neg]
    intro z
    refine c ?_
    rw [canon_pr, List.mem_filter]
    exact ⟨(List.mergeSort_perm _ _).mem_iff.mpr (mem_firsts.mpr (sumAt_in (by omega))), decide_eq_true z⟩
theorem sumAt_canon' {l : List Tri} (h : Fine l) (p : Str × Str) : sumAt (canon l) p = sumAt l p := by
  rw [sumAt_canon]
  have := sumAt_nonneg (fun t ht => (h t ht).2) p
  split <;> omega
theorem fine_canon {l : List Tri} (h : Fine l) : Fine (canon l) := fun t ht => by
  obtain ⟨h1, h2, _⟩ := canon_mem ht
  obtain ⟨u, hu, he⟩ := List.mem_map.mp h1
  refine ⟨fun z => (h u hu).1 ?_, by omega⟩
  have e1 : (pr u).1 = (pr t).1 := by rw [he]
  have e2 : (pr u).2 = (pr t).2 := by rw [he]
  change u.1 = t.1 at e1
  change u.2.1 = t.2.1 at e2
  rw [e1, e2, z]
end RM
namespace RM
open PySem PySem.Spec PyProof.Rows L2 CS RZ
/-! ### the promises, as they are used where nothing is raised -/
def GoodL (l : List Tri) : Prop := ∀ t ∈ l, GoodP (pr t)
theorem good_canon {l : List Tri} (h : GoodL l) : GoodL (canon l) := fun t ht => by
  obtain ⟨h1, _⟩ := canon_mem ht
  obtain ⟨u, hu, he⟩ := List.mem_map.mp h1
  rw [← he]
  exact h u hu
/-! ### the places -/
def sdP_places : SpD := fun ds n k _ => ∃ s l, ds = [cntD s l] ∧ l.length ≤ 30 ∧ ∀ ys : List Str, ys.Nodup → (∀ p, p ∈ ys ↔ p = s ∨ ends l p) → sortedS ys = true → k (.tuple (strD ys)) n
end RM
namespace RM
open PySem PySem.Spec PyProof.Rows L2 CS RZ
/-! ### sums over the places -/
def outsT (l : List Tri) (a : Str) : Int := ((l.filter fun t => t.1 = a).map fun t => t.2.2).sum
def insT (l : List Tri) (a : Str) : Int := ((l.filter fun t => t.2.1 = a).map fun t => t.2.2).sum
theorem outsT_cons (t : Tri) (l : List Tri) (a : Str) : outsT (t :: l) a = (if t.1 = a then t.2.2 else 0) + outsT l a := by
  unfold outsT
  rw [List.filter_cons]
  by_cases c : t.1 = a
  · rw [if_pos (decide_eq_true c), if_pos c, List.map_cons, List.sum_cons]
  · rw [if_neg (by simpa using c), if_neg c, Int.zero_add]
theorem insT_cons (t : Tri) (l : List Tri) (a : Str) : insT (t :: l) a = (if t.2.1 = a then t.2.2 else 0) + insT l a := by
  unfold insT
  rw [List.filter_cons]
  by_cases c : t.2.1 = a
  · rw [if_pos (decide_eq_true c), if_pos c, List.map_cons, List.sum_cons]
  · rw [if_neg (by simpa using c), if_neg c, Int.zero_add]
/-- a sum that one member alone gives -/
theorem sum_one {ys : List Str} (hn : ys.Nodup) (b : Str) (c : Int) : (ys.map fun y => if b = y then c else 0).sum = if b ∈ ys then c else 0 := by
  induction ys with
  | nil => rfl
  | cons y ys ih =>
    rw [List.nodup_cons] at hn
    rw [List.map_cons, List.sum_cons, ih hn.2]
    by_cases e : b = y
    · subst e
      rw [if_pos rfl, if_neg hn.1, if_pos (List.mem_cons_self ..), Int.add_zero]
    · rw [if_neg e, Int.zero_add]
      by_cases m : b ∈ ys
      · rw [if_pos m, if_pos (List.mem_cons_of_mem _ m)]
      · rw [if_neg m, if_neg fun z => (List.mem_cons.mp z).elim e m]
theorem sum_add (ys : List Str) (f g : Str → Int) : (ys.map fun y => f y + g y).sum = (ys.map f).sum + (ys.map g).sum := by
  induction ys with
  | nil => rfl
  | cons y ys ih =>
    rw [List.map_cons, List.map_cons, List.map_cons, List.sum_cons, List.sum_cons, List.sum_cons, ih]
    omega
theorem sum_zero (ys : List Str) : (ys.map fun _ => (0 : Int)).sum = 0 := by
  induction ys with
  | nil => rfl
  | cons y ys ih => rw [List.map_cons, List.sum_cons, ih]; rfl
theorem sum_outs {ys : List Str} (hn : ys.Nodup) (a : Str) : ∀ l : List Tri, (∀ p, ends l p → p ∈ ys) → (ys.map fun y => sumAt l (a, y)).sum = outsT l a
  | [], _ => sum_zero ys
  | t :: l, h => by
    have ih := sum_outs hn a l fun p ⟨u, hu, z⟩ => h p ⟨u, List.mem_cons_of_mem _ hu, z⟩
    rw [outsT_cons, ← ih]
    have : (fun y => sumAt (t :: l) (a, y)) = fun y => (if t.2.1 = y then (if t.1 = a then t.2.2 else 0) else 0) + sumAt l (a, y) := by
      funext y
      rw [sumAt_cons]
      congr 1
      by_cases c1 : t.1 = a
      · by_cases c2 : t.2.1 = y
        · rw [if_pos (show pr t = (a, y) by rw [← c1, ← c2]; rfl), if_pos c2, if_pos c1]
        · rw [if_neg (show ¬ pr t = (a, y) from fun z => c2 (congrArg Prod.snd (show (t.1, t.2.1) = (a, y) from z))), if_neg c2]
      · rw [if_neg (show ¬ pr t = (a, y) from fun z => c1 (congrArg Prod.fst (show (t.1, t.2.1) = (a, y) from z))), if_neg c1]
        split <;> rfl
    rw [this, sum_add, sum_one hn, if_pos (h _ ⟨t, List.mem_cons_self .., .inr rfl⟩)]
theorem sum_ins {ys : List Str} (hn : ys.Nodup) (a : Str) : ∀ l : List Tri, (∀ p, ends l p → p ∈ ys) → (ys.map fun y => sumAt l (y, a)).sum = insT l a
  | [], _ => sum_zero ys
  | t :: l, h => by
    have ih := sum_ins hn a l fun p ⟨u, hu, z⟩ => h p ⟨u, List.mem_cons_of_mem _ hu, z⟩
    rw [insT_cons, ← ih]
    have : (fun y => sumAt (t :: l) (y, a)) = fun y => (if t.1 = y then (if t.2.1 = a then t.2.2 else 0) else 0) + sumAt l (y, a) := by
      funext y
      rw [sumAt_cons]
      congr 1
      by_cases c1 : t.2.1 = a
      · by_cases c2 : t.1 = y
        · rw [if_pos (show pr t = (y, a) by rw [← c1, ← c2]; rfl), if_pos c2, if_pos c1]
        · rw [if_neg (show ¬ pr t = (y, a) from fun z => c2 (congrArg Prod.fst (show (t.1, t.2.1) = (y, a) from z))), if_neg c2]
      · rw [if_neg (show ¬ pr t = (y, a) from fun z => c1 (congrArg Prod.snd (show (t.1, t.2.1) = (y, a) from z))), if_neg c1]
        split <;> rfl
    rw [this, sum_add, sum_one hn, if_pos (h _ ⟨t, List.mem_cons_self .., .inl rfl⟩)]
end RM
namespace RM
open PySem PySem.Spec PyProof.Rows L2 CS RZ
/-! ### texts in order -/
def leS (a b : Str) : Prop := a.cps.toList ≤ b.cps.toList
theorem leS_anti {a b : Str} (h : leS a b) (h2 : leS b a) : a = b := PySem.W.str_of_cps (List.le_antisymm h h2)
theorem leS_trans {a b c : Str} (h : leS a b) (h2 : leS b c) : leS a c := List.le_trans h h2
theorem not_lt {a b : Str} (h : ltCps b.cps.toList a.cps.toList = false) : leS a b := by
  rw [ltCps_eq, decide_eq_false_iff_not] at h
  exact List.not_lt.mp h
theorem rising_pw : ∀ (p : Str) (l : List Str), risingS p l = true → (p :: l).Pairwise leS
  | p, [], _ => List.pairwise_singleton _ _
  | p, x :: r, h => by
    have h' : (!ltCps x.cps.toList p.cps.toList && risingS x r) = true := h
    rw [Bool.and_eq_true] at h'
    have ih := rising_pw x r h'.2
    have hx : leS p x := not_lt (by simpa using h'.1)
    rw [List.pairwise_cons] at ih ⊢
    refine ⟨fun y hy => ?_, List.pairwise_cons.mpr ih⟩
    rcases List.mem_cons.mp hy with rfl | hy
    · exact hx
    · exact leS_trans hx (ih.1 y hy)
theorem sorted_pw {l : List Str} (h : sortedS l = true) : l.Pairwise leS := by
  cases l with
  | nil => exact .nil
  | cons x r => exact rising_pw x r h
theorem sorted_one {ys zs : List Str} (h1 : ys.Pairwise leS) (h2 : zs.Pairwise leS) (n1 : ys.Nodup) (n2 : zs.Nodup) (hm : ∀ p, p ∈ ys ↔ p ∈ zs) : ys = zs :=
  List.Perm.eq_of_pairwise (le := leS) (fun a b _ _ x y => leS_anti x y) h1 h2 ((List.perm_ext_iff_of_nodup n1 n2).mpr hm)
/-! ### what comes next to a place -/
theorem canon_pw (l : List Tri) : (canon l).Pairwise fun t u => leP (pr t) (pr u) = true := by
  have h : ((canon l).map pr).Pairwise fun a b => leP a b = true := by
    rw [canon_pr]
    exact (PySem.W.sort_pairwise leP_total _).sublist List.filter_sublist
  exact List.pairwise_map.mp h
end RM
namespace RM
open PySem PySem.Spec PyProof.Rows L2 CS RZ
/-! ### k08: a turn -/
def okS : Nat → D → Prop
  | 0, _ => False
  | _ + 1, .int _ => True
  | _ + 1, .str _ => True
  | _ + 1, .bool _ => True
  | _ + 1, .none => True
  | n + 1, .list ds => ds.length ≤ 1000 ∧ ∀ d ∈ ds, okS n d
  | n + 1, .tuple ds => ds.length ≤ 1000 ∧ ∀ d ∈ ds, okS n d
  | _ + 1, _ => False
/-- alike with itself -/
def sdSame : SpD := fun ds n k _ => ∃ x, ds = [x, x] ∧ okS 4 x ∧ k (.bool true) n
def r1 : CS := cSet 2 (cCall sdTags (cCons (cVar 0) (cCons (cOp addD (cC (.int 2)) (cCall sdTake (cCons (cVar 0) (cCons (cC (.int 5)) (cNil))))) (cNil))))
def r2 : CS := cPar 6 7 (cCons (cCall sdOf (cCons (cVar 0) (cCons (cVar 2) (cNil)))) (cCons (cCall sdStrewn (cCons (cVar 0) (cCons (cVar 2) (cCons (cC (.int 9)) (cCons (cCall sdOf (cCons (cVar 0) (cCons (cLst (cCons (cC (.int 1)) (cCons (cC (.int 3)) (cCons (cOp powD (cC (.int 10)) (cC (.int 28))) (cNil))))) (cNil)))) (cNil)))))) (cNil)))
def r3 : CS := cSet 3 (cMake cCnt sdInit (cCons (cVar 6) (cCons (cVar 7) (cNil))))
def r5 : CS := cPar 8 9 (cCons (cMake1 cCnt sdInit (.tuple []) (cCons (cVar 6) (cNil))) (cCons (cVar 3) (cNil)))
def r6 : CS := cFor (cSeq (cCall sdPick (cCons (cVar 0) (cCons (cVar 7) (cCons (cCB gLen (cCons (cVar 7) (cNil))) (cNil)))))) (stN 4) (cAugO 8 sdBinAdd (cMake cCnt sdInit (cCons (cC (.str "yonder")) (cCons (cLst (cCons (cVar 4) (cNil))) (cNil)))) cCnt)
def r7 : CS := cIfS (cOrT (cNotT (cB (cEqO sdEq (cVar 8) (cVar 3) cCnt))) (cB (cOp neD (cProp sdP_start (cVar 8) cCnt) (cVar 6)))) (cRet (cC (.bool false))) (cNext)
def q1 : CS := cOwn 10 (cLc (cSeq (cProp sdP_places (cVar 3) cCnt)) (stN 13) (cYes) (cSubO sdSub (cVar 3) (cTup (cCons (cVar 5) (cCons (cVar 13) (cNil)))) cCnt) [13])
def q2 : CS := cOwn 11 (cLc (cSeq (cProp sdP_places (cVar 3) cCnt)) (stN 13) (cYes) (cSubO sdSub (cVar 3) (cTup (cCons (cVar 13) (cCons (cVar 5) (cNil)))) cCnt) [13])
def q3 : CS := cIfS (cNotT (cB (cCall sdSame (cCons (cLst (cCons (cCB gSum (cCons (cVar 10) (cNil))) (cCons (cCB gSum (cCons (cVar 11) (cNil))) (cNil)))) (cCons (cLst (cCons (cMeth sdM_outs (cVar 3) (cCons (cVar 5) (cNil)) cCnt "outs") (cCons (cMeth sdM_ins (cVar 3) (cCons (cVar 5) (cNil)) cCnt "ins") (cNil)))) (cNil)))))) (cRet (cC (.bool false))) (cNext)
def q4 : CS := cSet 12 (cDGet2 (.ex (cCB gDictS (cCons (cCF gList' (cCons (cCall sdSurplus (cCons (cVar 3) (cNil))) (cNil))) (cNil)))) (cKey (cVar 5)) (cC (.int 0)))
def q5 : CS := cIfS (cB (cOp neD (cOp subD (cMeth sdM_outs (cVar 3) (cCons (cVar 5) (cNil)) cCnt "outs") (cMeth sdM_ins (cVar 3) (cCons (cVar 5) (cNil)) cCnt "ins")) (cVar 12))) (cRet (cC (.bool false))) (cNext)
abbrev fr (t1 t2 t3 t4 t5 t6 t7 t8 t9 t10 t11 t12 t13 : Option Sl) : En := [some (.v boxD), t1, t2, t3, t4, t5, t6, t7, t8, t9, t10, t11, t12, t13]
section
variable {e : EndsD} {n : Nat} {t1 t2 t3 t4 t5 t6 t7 t8 t9 t10 t11 t12 t13 : Option Sl}
theorem strD_len (ss : List Str) : (strD ss).length = ss.length := by unfold strD; rw [List.length_map]
end
end RM
namespace RM
open PySem PySem.Spec PyProof.Rows L2 CS RZ
section
variable {e : EndsD} {n : Nat} {t1 t2 t3 t4 t5 t6 t7 t8 t9 t10 t11 t12 t13 : Option Sl}
theorem neD_str {a b : Str} (ha : GoodS a) (hb : GoodS b) : neD (.str a) (.str b) = some (.bool (!decide (a = b))) := by
  unfold neD
  rw [(OkN.str 0 ha).ok (by decide), (OkN.str 0 hb).ok (by decide), RM.eqv_str]
  rfl
end
end RM
namespace RM
open PySem PySem.Spec PyProof.Rows L2 CS RZ
theorem OkN.strs {ys : List Str} (h : ∀ y ∈ ys, GoodS y) : OkN 1 (.tuple (strD ys)) := OkN.tuple fun d hd => by
  obtain ⟨y, hy, rfl⟩ := List.mem_map.mp hd
  exact .str 0 (h y hy)
/-- what is known of the places that are told -/
structure Pl (f : Str) (L : List Tri) (ys : List Str) : Prop where
  nd : ys.Nodup
  mem : ∀ p, p ∈ ys ↔ p = f ∨ ends L p
  pw : ys.Pairwise leS
/-- what is known of what is counted -/
structure Ct (f : Str) (L : List Tri) : Prop where
  gf : GoodS f
  g : GoodL L
  fine : Fine L
  len : L.length ≤ 9
  nd : (L.map pr).Nodup
  pw : L.Pairwise fun t u => leP (pr t) (pr u) = true
theorem Pl.good {f : Str} {L : List Tri} {ys : List Str} (h : Pl f L ys) (c : Ct f L) : ∀ y ∈ ys, GoodS y := fun y hy => by
  rcases (h.mem y).mp hy with rfl | ⟨t, ht, rfl | rfl⟩
  · exact c.gf
  · exact (c.g t ht).1
  · exact (c.g t ht).2
theorem Pl.one {f : Str} {L : List Tri} {ys zs : List Str} (h : Pl f L ys) (h2 : Pl f L zs) : ys = zs := sorted_one h.pw h2.pw h.nd h2.nd fun p => (h.mem p).trans (h2.mem p).symm
theorem nodup_len : ∀ {ys zs : List Str}, ys.Nodup → (∀ y ∈ ys, y ∈ zs) → ys.length ≤ zs.length
  | [], _, _, _ => Nat.zero_le _
  | y :: ys, zs, hn, h => by
    have hy := h y (List.mem_cons_self ..)
    have hc := List.nodup_cons.mp hn
    have ih := nodup_len (ys := ys) (zs := zs.erase y) hc.2 fun z hz => (List.mem_erase_of_ne fun (e : z = y) => hc.1 (e ▸ hz)).mpr (h z (List.mem_cons_of_mem _ hz))
    rw [List.length_erase_of_mem hy] at ih
    have := List.length_pos_of_mem hy
    rw [List.length_cons]
    omega
theorem Pl.len {f : Str} {L : List Tri} {ys : List Str} (h : Pl f L ys) (c : Ct f L) : ys.length ≤ 100 := by
  have := nodup_len (zs := f :: (L.map (fun t => t.1) ++ L.map fun t => t.2.1)) h.nd fun y hy => by
    rcases (h.mem y).mp hy with rfl | ⟨t, ht, rfl | rfl⟩
    · exact List.mem_cons_self ..
    · exact List.mem_cons_of_mem _ (List.mem_append_left _ (List.mem_map.mpr ⟨t, ht, rfl⟩))
    · exact List.mem_cons_of_mem _ (List.mem_append_right _ (List.mem_map.mpr ⟨t, ht, rfl⟩))
  have lc := c.len
  rw [List.length_cons, List.length_append, List.length_map, List.length_map] at this
  omega
end RM
namespace RM
open PySem PySem.Spec PyProof.Rows L2 CS RZ
end RM
namespace RM
open PySem PySem.Spec PyProof.Rows L2 CS RZ
abbrev n_law_right : List Str := ["_law_box_here", "_law_turn", "_law_tags_here", "_law_made", "_law_own", "_law_tag", "_law_first_so", "_law_rows_so", "_law_sum_so", "_law_left_so", "_law_far_so", "_law_near_so", "_law_over_so", "_law_far"]
end RM
namespace RM
open PySem PySem.Spec PyProof.Rows L2 CS RZ
/-! ### k08 by hand -/
theorem firsts_id : ∀ (l m : List (Str × Str)), (m ++ l).Nodup → firsts m = m → firsts (m ++ l) = m ++ l
  | [], m, _, h => by rwa [List.append_nil]
  | p :: l, m, hn, h => by
    have e : m ++ p :: l = (m ++ [p]) ++ l := by rw [List.append_assoc]; rfl
    rw [e] at hn ⊢
    refine firsts_id l (m ++ [p]) hn ?_
    rw [firsts_snoc, h]
    unfold putOne
    rw [if_neg]
    intro z
    have := (List.nodup_append.mp hn).1
    exact (List.nodup_append.mp this).2.2 p z p (by simp) rfl
theorem canon_id {l : List Tri} (hn : (l.map pr).Nodup) (hp : (l.map pr).Pairwise fun a b => leP a b = true) (h0 : ∀ t ∈ l, 0 < t.2.2) : canon l = l := by
  have e1 : firsts (l.map pr) = l.map pr := firsts_id (l.map pr) [] (by simpa using hn) rfl
  have hs : ∀ t ∈ l, sumAt l (pr t) = t.2.2 := fun t ht => by
    rw [← numAt_sum hn]
    induction l with
    | nil => cases ht
    | cons u l ih =>
      rw [numAt_cons]
      rw [List.map_cons, List.nodup_cons] at hn
      rcases List.mem_cons.mp ht with rfl | ht
      · rw [if_pos rfl]
      · have hne : ¬ pr u = pr t := fun w => hn.1 (by rw [w]; exact List.mem_map_of_mem ht)
        rw [if_neg hne]
        rw [List.map_cons, List.pairwise_cons] at hp
        exact ih hn.2 hp.2 (fun z hz => h0 z (List.mem_cons_of_mem _ hz)) (firsts_id (l.map pr) [] (by simpa using hn.2) rfl) ht
  unfold canon
  rw [e1, List.mergeSort_of_pairwise hp, List.filter_eq_self.mpr fun p hp => ?_]
  · rw [List.map_map]
    refine (List.map_congr_left fun t ht => ?_).trans (List.map_id l)
    show (t.1, t.2.1, sumAt l (pr t)) = t
    rw [hs t ht]
  · obtain ⟨t, ht, rfl⟩ := List.mem_map.mp hp
    rw [hs t ht]
    exact decide_eq_true (h0 t ht)
def sdByHand : SpD := fun ds n k _ => ds = [] ∧ k (.bool true) n
end RM
namespace RM
open PySem PySem.Spec PyProof.Rows L2 CS RZ
/-! ### from the bare heap to data -/
theorem ev_bare {C : Ctx} {n : Nat} {H : Hp} (hB : C.B = fun _ => none) (h0 : C.H0 = H) (hz : ∀ a, C.Z a → C.T.bx = some a) (hb : ∀ b, C.T.bx = some b → C.Z b ∧ BoxAt H b n) : Ev C [] n [] H now := by
  refine ⟨rfl, fun i d h => by simp at h, fun i d h => by simp at h, fun i p h => (by cases h), fun i j p h => (by cases h), fun a z => ?_, fun a xs z e => ?_, fun a o h _ => h0 ▸ h, hb, fun p hp i q d h => (by cases h), fun a o h => ?_⟩
  · obtain ⟨A, B, F, e, _⟩ := (hb a (hz a z)).2
    exact ⟨_, h0 ▸ e⟩
  · obtain ⟨A, B, F, e2, _⟩ := (hb a (hz a z)).2
    rw [h0, e2] at e
    cases e
  · rw [hB] at h
    cases h
theorem hand_imp {g : Glob} {vs : List V} {H : Hp} {Q : VK} {E : XK} (h : vs = [] ∧ ∀ H' : Hp, Same H H' → Q (.bl true) H') : spD g sdByHand vs H Q E := by
  obtain ⟨rfl, q⟩ := h
  refine ⟨{ T := ⟨g.K, g.cls, none⟩, Z := fun _ => False, H0 := H }, [], 0, fun d _ => d = .bool true, fun _ _ => False, ⟨rfl, rfl⟩, rfl, ev_bare rfl rfl (fun a z => z.elim) (fun b' h => by cases h), .nil, ⟨rfl, rfl⟩, fun d n' v H' hd F i => ?_, fun _ _ _ _ _ h => h.elim⟩
  subst hd
  rw [isBl i]
  exact q H' fun c o ho => F.keep c o ho (by intro z; cases z)
/-- deep likeness, told of data -/
theorem same_imp {g : Glob} {vs : List V} {H : Hp} {Q : VK} {E : XK} (hk : ∀ d, okS 4 d → plain d = true) (h : spD g sdSame vs H Q E) : ∃ (x y : V) (d : D), vs = [x, y] ∧ Dp g.K H x d ∧ Dp g.K H y d ∧ okS 4 d ∧ ∀ H' : Hp, Same H H' → Q (.bl true) H' := by
  obtain ⟨C, ds, n, k, ke, hK, e0, E0, i, ⟨x, rfl, ok, s⟩, q, _⟩ := h
  obtain ⟨v, u, rfl, iv, iu⟩ := i.two
  refine ⟨v, u, x, rfl, hK.1 ▸ (iv.same hid_le).dp (hk x ok), hK.1 ▸ (iu.same hid_le).dp (hk x ok), ok, fun H' s' => q _ _ _ _ s ⟨fun a o h _ => s' _ _ (e0 ▸ h), fun b hb => (E0.box b hb).2.same s'⟩ (.bl true)⟩
theorem okS_plain : ∀ (n : Nat) (d : D), okS n d → plain d = true
  | 0, _, h => h.elim
  | _ + 1, .none, _ => rfl
  | _ + 1, .bool _, _ => rfl
  | _ + 1, .int _, _ => rfl
  | _ + 1, .str _, _ => rfl
  | n + 1, .list ds, h => by
    unfold plain
    have : ∀ l : List D, (∀ d ∈ l, okS n d) → plains l = true := by
      intro l
      induction l with
      | nil => intro _; rfl
      | cons d l ih =>
        intro hh
        unfold plains
        rw [okS_plain n d (hh d (List.mem_cons_self ..)), ih fun z hz => hh z (List.mem_cons_of_mem _ hz)]
        rfl
    exact this ds h.2
  | n + 1, .tuple ds, h => by
    unfold plain
    have : ∀ l : List D, (∀ d ∈ l, okS n d) → plains l = true := by
      intro l
      induction l with
      | nil => intro _; rfl
      | cons d l ih =>
        intro hh
        unfold plains
        rw [okS_plain n d (hh d (List.mem_cons_self ..)), ih fun z hz => hh z (List.mem_cons_of_mem _ hz)]
        rfl
    exact this ds h.2
  | _ + 1, .dict _, h => h.elim
end RM
namespace K67
open PySem PySem.Spec PyProof.Rows L2 CS RM
theorem okS_okD : ∀ (n : Nat) (d : PyData), okS n d → okD n d
  | 0, _, h => h.elim
  | _ + 1, .none, _ => trivial
  | _ + 1, .bool _, _ => trivial
  | _ + 1, .int _, _ => trivial
  | _ + 1, .str _, _ => trivial
  | n + 1, .list ds, h => ⟨h.1, fun d hd => okS_okD n d (h.2 d hd)⟩
  | n + 1, .tuple ds, h => ⟨h.1, fun d hd => okS_okD n d (h.2 d hd)⟩
  | _ + 1, .dict _, h => h.elim
end K67
namespace L2
open PySem PySem.Spec PyProof.Rows
end L2
namespace RM
open PySem PySem.Spec PyProof.Rows L2 CS RZ
end RM
namespace RM
open PySem PySem.Spec PyProof.Rows L2
/-! ### sets of texts that can be walked -/
section
variable {P : Program} {w : World} {A : Around} {E : Value → Shared → Prop} {s : Shared} {a : Addr} {ss : List Str}
def TxE (P : Program) (w : World) (x : Int × Value) : Prop := ∃ z t, x.2 = Value.str z t ∧ x.1 = (PySem.strKind P w).hash z
def txOf (x : Int × Value) : Str := match x.2 with | .str z _ => z | _ => Str.empty
structure Laid (P : Program) (w : World) (ss : List Str) (es : Array (Int × Value)) (t : SetTable) : Prop where
  el : ∀ x ∈ es.toList, TxE P w x
  pm : (es.toList.map txOf).Perm ss
  nd : ss.Nodup
  sz : es.size < scanBound
  fit : t.fits es.size = true
  ris : Ris t.place.toList
  led : w.params.followText "set-order" = true ∨ t.led = true
def TxSet (P : Program) (w : World) (a : Addr) (ss : List Str) (h : Heap) : Prop := ∃ o es ep t, h.get? a = some o ∧ o.ExactSet ∧ o.data = .set es ep t ∧ Laid P w ss es t
theorem Laid.len {es : Array (Int × Value)} {t : SetTable} (L : Laid P w ss es t) : es.size = ss.length := by
  have := L.pm.length_eq
  rw [List.length_map, Array.length_toList] at this
  exact this
end
end RM
set_option maxHeartbeats 4000000
namespace RM
open PySem PySem.Spec PyProof.Rows L2
section
variable {P : Program} {w : World} {A : Around} {E : Value → Shared → Prop} {s : Shared} {a : Addr} {ss : List Str}
theorem TxSet.at {h h' : Heap} (R : TxSet P w a ss h) (k : ∀ o, h.get? a = some o → h'.get? a = some o) : TxSet P w a ss h' := by
  obtain ⟨o, es, ep, t, ho, r⟩ := R
  exact ⟨o, es, ep, t, k o ho, r⟩
end
end RM
set_option maxHeartbeats 4000000
namespace RM
open PySem PySem.Spec PyProof.Rows L2 CS RZ
/-! ### set(a list of texts) -/
end RM
set_option maxHeartbeats 4000000
namespace RM
open PySem PySem.Spec PyProof.Rows L2 CS RZ
/-! ### sets of texts as objects; sorted of one -/
end RM
namespace RM
open PySem PySem.Spec PyProof.Rows L2 CS RZ
/-! ### sorted(set(e)), e a list of texts -/
end RM
namespace RM
open PySem PySem.Spec PyProof.Rows L2 CS RZ
/-! ### what the written part says of a class, as truth values -/
section
variable {K : PySem.W.Frag} {C f p : Addr} {m : Str}
def noB (K : PySem.W.Frag) (C : Addr) (fs : List Str) : Bool := fs.all fun f => PySem.W.findIn K (.ref C) f == some none
theorem noB_at {fs : List Str} {x : Str} (h : noB K C fs = true) (hx : x ∈ fs) : NoAttr K C x := by
  unfold noB at h
  rw [List.all_eq_true] at h
  exact beq_iff_eq.mp (h x hx)
/-! own errors -/
def erB (K : PySem.W.Frag) (C fI : Addr) (fs : List Str) (bm : List Value) : Bool :=
  (PySem.W.findIn K (.ref C) "__setattr__" == some (some (.builtin "object.__setattr__"))) && (PySem.W.hasDictIn K C && (PySem.W.keepIn K (.ref C) && ((PySem.W.findIn K (.ref C) "__init__" == some (some (.ref fI))) && ((PySem.W.typeIn K (.ref fI) == some (.type "function")) && (PySem.W.excOver K C bm && (noB K C fs && ((PySem.W.subIn K (.ref C) (.type "BaseException") == some true) && (PySem.W.typeIn K (.ref C) == some (.type "type")))))))))
theorem erB_ok {fI : Addr} {fs : List Str} {bm : List Value} {B newId initId : String} (F : ExcBaseFacts B newId initId bm) (S : StoreFacts B bm "object.__setattr__" "object") {nm q : Str} {N : Addr} {bs : List Value} {sn : List Str} {sub : List Value} {ab : Bool} {col : Option Bool} {dd : Option Addr} {u0 u1 u2 u3 u5 : Option Value}
    (hC : K.lookup C = some (excClassObj nm q C N bs bm true sn sub ab col dd u0 u1 u2 u3 u5 newId)) (h : erB K C fI fs bm = true) : ErrC K C fI fs := by
  unfold erB at h
  simp only [Bool.and_eq_true, beq_iff_eq] at h
  obtain ⟨h1, h2, h3, h4, h5, h6, h7, h8, h9⟩ := h
  exact ⟨⟨⟨B, newId, initId, bm, F, S, h6, nm, q, N, bs, sn, sub, ab, col, dd, u0, u1, u2, u3, u5, hC⟩, h1, h2, h3, h4, h5⟩, fun f hf => noB_at h7 hf, h8, h9⟩
/-! a def with one default, the empty tuple -/
end
end RM
/-! except (A, B, ..) as n: an error that is used behind the clause -/
namespace CS
open PySem PySem.Spec PyProof.Rows L2
theorem flyZ_keeps {B : Heap} {l : List Env} {e : Addr} {Z : Obj → Prop} {h h' : Heap} (x : HandSPX.FlyingZ B l e Z h) (k : ∀ b o, h.get? b = some o → h'.get? b = some o) : HandSPX.FlyingZ B l e Z h' := by
  obtain ⟨f1, f2, f3, oe, vs, T, oT, ts, he, hz, hd, h1, hn, hne, hT, hdT, h3⟩ := x
  exact ⟨fun b o q => k b o (f1 b o q), f2, f3.of_keeps fun b o q _ => ⟨o, k b o q, rfl⟩, oe, vs, T, oT, ts, k _ _ he, hz, hd, h1, hn, hne, k _ _ hT, hdT, h3⟩
/-- how the classes of a clause are asked -/
def Tst (X : Cx) (te : Expr) (cs : List Value) : Prop := ∀ (a : Addr) (pn : List (Addr × Obj)) (σ : L2.St) (H : Hp) (t : Shared) (cls : Value) (y : Bool) (Q : Bool → Shared → Prop) (E : Value → Shared → Prop), Inv (X.suite a pn) [] σ H t → PySem.W.Looks (model X.prog X.w) t.heap (typeOf (.ref a)) cls → PySem.W.exmAny X.K cls cs = some y →
  (∀ h', (∀ b o, t.heap.get? b = some o → h'.get? b = some o) → Q y { t with heap := h' }) → wpAny (model X.prog X.w) (X.A.mark (some (.ref a))) (eval te X.env) (fun c s1 => wpAny (model X.prog X.w) (X.A.mark (some (.ref a))) (excMatches (.ref a) c) Q E s1) E t
theorem nameV {X : Cx} {x : Str} {c : Value} {np : Pos} {a : Addr} {pn : List (Addr × Obj)} {σ : L2.St} {H : Hp} {t : Shared} {Q : Value → Shared → Prop} {E : Value → Shared → Prop} (hc : Names X x c) (I : Inv (X.suite a pn) [] σ H t) (q : Q c t) : wpAny (model X.prog X.w) (X.A.mark (some (.ref a))) (eval (.Name x np) X.env) Q E t := by
  obtain ⟨hg, hdb, hm | ⟨hm, hv, hnn⟩⟩ := hc
  · exact ld_glob (X := X.suite a pn) I hg hm q hdb
  · exact ld_blt (X := X.suite a pn) I hg hm hv q hnn hdb
theorem tst1 {X : Cx} {x1 : Str} {c1 : Value} {p1 : Pos} (n1 : Names X x1 c1) : Tst X (.Name x1 p1) [c1] := by
  intro a pn σ H t cls y Q E I L e q
  obtain ⟨b1, d1, e1, e2, rfl⟩ := PySem.W.exmAny_cons e
  cases (show some false = some d1 from e2)
  rw [Bool.or_false] at q
  exact nameV n1 I ((PySem.W.exm_one I.kIn L e1).here (q t.heap fun _ _ z => z))
/-- what 'except (..) as n' wishes of an error of the body, which the suite then holds -/
def wHoldT (K : PySem.W.Frag) (cs : List Value) (i : Nat) (ts : TS) (Wout : WX) (D : Ends) : WX := fun cls d σ H => ∃ y, PySem.W.exmAny K cls cs = some y ∧
  (y = true → ∀ a, H a = none → ts { nx := fun σ1 H1 => D.nx (σ1.set i none) H1, rt := D.rt, bk := fun σ1 H1 => D.bk (σ1.set i none) H1, ct := fun σ1 H1 => D.ct (σ1.set i none) H1 } (σ.set i (some (.ref a))) (upd H a (XO cls d a))) ∧ (y = false → Wout cls d σ H)
theorem ps_try_test {X : Cx} {n : Str} {te : Expr} {cs : List Value} {i : Nat} {body suite : List Stmt} {b1 : Stmt} {pos pos' : Pos} {tb : WX → TS} {ts : TS} {Wout : WX} (hs : X.stack = X.env :: X.outer) (hf : X.env.frame = some X.env.locals) (hex : X.ex = []) (hN : X.N.Nodup) (hi : X.N[i]? = some n)
    (hln : X.env.kindOf n = some .local) (hc : Tst X te cs) (tk : Takes X Wout)
    (hb : ∀ (W : WX) (pn : List (Addr × Obj)) (xe : Value → Shared → Prop), Takes (X.tr pn xe) W → PassesOwn (model X.prog X.w) X.A X.env xe → PSs (X.tr pn xe) body (tb W))
    (hsu : ∀ (a : Addr) (pn : List (Addr × Obj)), PSs (X.suite a pn) (b1 :: suite) ts) :
    PS X (.Try body [.ExceptHandler (some te) (some n) (b1 :: suite) pos'] [] [] pos) (fun D σ H => tb (wHoldT X.K cs i ts Wout D) D σ H) := by
  constructor
  intro pins s σ H D I h
  have okX := I.ok
  have frX : X.A.frames = some (X.env :: X.outer) := okX.frames.trans (by rw [hs])
  refine wpAny_Try_except (wpAny_mono ((hb (wHoldT X.K cs i ts Wout D) (X.pn ++ pins) (fun e t1 => wpAny (model X.prog X.w) X.A (noteFrame e X.env) (fun _ t2 => wpAny (model X.prog X.w) X.A (setFlight e none) (fun _ t3 =>
    wpAny (model X.prog X.w) X.A (handleBy e X.env [.ExceptHandler (some te) (some n) (b1 :: suite) pos']) (SP X pins D) X.xe t3) X.xe t2) X.xe t1) (fun u t thrown => ?_) PassesOwn.looking).run [] s σ H D (I.toTry _) h) (fun f t ended => ?_) fun _ _ z => z)
  · obtain ⟨a, B, sI, pI, σI, HI, cls, d, rfl, inI, nb, up, sky, na, os, ag, y, hy, yes, no⟩ := thrown
    have J := inI.ofTry okX
    show wpAny (model X.prog X.w) X.A (noteFrame (.ref a) X.env) _ _ _
    refine Sky.land Zc.steady frX hf (B := B) (Z := Zc cls d) (by rw [← hs]; exact sky) fun h3 fl up3 => ?_
    have J3 : Inv X pins σI HI { t with heap := h3 } := J.landed nb fl.1 (up.trans up3) os ag
    obtain ⟨ob, vs, gob, zob, dob⟩ := fl.there
    have nfs : a ∉ frs (X.env :: X.outer) := fun hm => by
      obtain ⟨_, o2, g2, notF⟩ := fl.2.2.1.mem hm
      rw [gob] at g2
      cases g2
      exact notF _ dob
    have nl : a ≠ X.env.locals := fun z => nfs (List.mem_filterMap.mpr ⟨X.env, List.mem_cons_self, by rw [hf, z]⟩)
    have nf : a ∉ X.fs := fun hm => by
      obtain ⟨e, he, q⟩ := List.mem_filterMap.mp hm
      exact nfs (List.mem_filterMap.mpr ⟨e, List.mem_cons_of_mem _ he, q⟩)
    have nI : sI.heap.get? a = none := by
      cases q : sI.heap.get? a with
      | none => rfl
      | some o =>
        have z := nb a o q (by rw [hs]; exact nfs)
        rw [fl.2.1] at z
        cases z
    have n0 : X.s_0.heap.get? a = none := by
      cases q : X.s_0.heap.get? a with
      | none => rfl
      | some o =>
        obtain ⟨o2, z⟩ := J.base.there a o q (by rw [hex]; exact fun z => nomatch z)
        rw [nI] at z
        cases z
    have np' : ∀ p ∈ X.pn ++ pins, p.1 ≠ a := fun p hp z => by
      have q := (J.pin p hp).1
      rw [z, nI] at q
      cases q
    have S3 := J3.suite gob dob na nl nf
    refine wpAny_handleBy_cons (codeAny_handlers_test ?_) (by intro q; cases q)
    have asks : PySem.W.Looks (model X.prog X.w) h3 (typeOf (.ref a)) cls := fun _ _ _ _ k q => wpAny_typeOf_ref (k _ _ gob) (by rw [zob.1]; exact q)
    refine hc a ((a, ob) :: (X.pn ++ pins)) σI HI _ cls y _ _ S3 asks hy fun h5 k5 => ?_
    have fl5 := flyZ_keeps fl k5
    have up5 := up3.trans (Heap.UpToSlots.of_keeps k5)
    have J5 : Inv X pins σI HI { t with heap := h5 } := J.landed nb fl5.1 (up.trans up5) os ag
    cases y with
    | true =>
      refine codeAny_handlers_suite_as (HandSPX.lands_againZ fl5 fun h4 fl4 up4 => ?_)
      have J4 : Inv X pins σI HI { t with heap := h4 } := J.landed nb fl4.1 ((up.trans up5).trans up4) os ag
      obtain ⟨ob4, vs4, gob4, zob4, dob4⟩ := fl4.there
      have T4 := again (a := a) (track J4 gob4 na nl nf zob4 dob4 n0 np')
      refine store_ok (X := X.suite a (X.pn ++ pins)) (v := .ref a) T4 hN hi (.inl hln) rfl (fun t5 T5 => ?_) (.inr hln)
      refine wpAny_mono ((hsu a (X.pn ++ pins)).run [] t5 _ _ _ T5 (yes rfl a na)) (fun f t6 r => ?_) fun _ _ z => z.elim
      have out : ∀ {σ6 : L2.St} {H6 : Hp} {Q : Shared → Prop}, Inv (X.suite a (X.pn ++ pins)) [] σ6 H6 t6 → (∀ t7, Inv X pins (σ6.set i none) H6 t7 → Q t7) → wpAny (model X.prog X.w) X.A (do bindName X.env n .none; unbindBehindTheSuite X.env n pos') (fun _ t7 => Q t7) X.xe t6 :=
        fun {σ6 H6 Q} z hq => gone_ok (behind z okX) hN hi hln hq
      cases f with
      | next =>
        obtain ⟨σ6, H6, z, q⟩ := r
        exact out z fun _ w7 => ⟨_, _, w7, q⟩
      | brk =>
        obtain ⟨σ6, H6, z, q⟩ := r
        exact out z fun _ w7 => ⟨_, _, w7, q⟩
      | cont =>
        obtain ⟨σ6, H6, z, q⟩ := r
        exact out z fun _ w7 => ⟨_, _, w7, q⟩
      | ret u =>
        obtain ⟨v6, σ6, H6, z, rv, q⟩ := r
        exact out z fun _ w7 => ⟨_, _, _, w7, rv, q⟩
    | false =>
      show wpAny _ X.A (handleBy (.ref a) X.env []) _ _ _
      refine wpAny_handleBy_nil ?_
      obtain ⟨_, _, _, ob5, vs5, T, oT, rest, g5, z5, d5, one5, _⟩ := id fl5
      unfold PySem.passOn
      refine wpAny_bind (wpAny_field g5 d5 one5 ?_)
      rw [if_neg (by simp)]
      have go : wpAny (model X.prog X.w) X.A (setFlight (.ref a) X.env.frame) (fun _ t4 => wpAny (model X.prog X.w) X.A (throw (.ref a) : Sem Flow) (SP X pins D) X.xe t4) X.xe { t with heap := h5 } := by
        rw [hf]
        refine HandSPX.setFlight_upZ fl5 fun h4 held up4 => wpAny_throw (tk _ _ ⟨a, B, sI, pins, σI, HI, cls, d, rfl, J, nb, (up.trans up5).trans up4, .inr (.inr ?_), na, os, ag, no rfl⟩)
        rw [hs]
        exact held
      first
        | exact wpAny_bind (wpAny_pure (wpAny_bind go))
        | exact wpAny_bind go
  · cases f with
    | next =>
      obtain ⟨σ1, H1, z, q⟩ := ended
      exact wpAny_execs_nil ⟨σ1, H1, z.ofTry okX, q⟩
    | brk =>
      obtain ⟨σ1, H1, z, q⟩ := ended
      exact ⟨σ1, H1, z.ofTry okX, q⟩
    | cont =>
      obtain ⟨σ1, H1, z, q⟩ := ended
      exact ⟨σ1, H1, z.ofTry okX, q⟩
    | ret u =>
      obtain ⟨v, σ1, H1, z, rv, q⟩ := ended
      exact ⟨v, σ1, H1, z.ofTry okX, rv, q⟩
end CS
namespace RM
open PySem PySem.Spec PyProof.Rows L2 CS RZ
/-! ### try: .. except (A, ..) as n: .. -/
def cTryT (cns ms : List Nat) (i : Nat) (body suite : CS) : CS := fun ρ n e => body ρ n { e with xc := fun x ρ' n' => x.1 ∈ ms ∧ if x.1 ∈ cns then suite (ρ'.set i (some (Sl.v (exc x.1 x.2)))) n' { nx := fun ρ2 n2 => e.nx (ρ2.set i none) n2, rt := e.rt, bk := fun ρ2 n2 => e.bk (ρ2.set i none) n2, ct := fun ρ2 n2 => e.ct (ρ2.set i none) n2, xc := kF } else e.xc x ρ' n' }
theorem takes_F {X : Cx} : Takes X xF := fun _ _ ⟨_, _, _, _, _, _, _, _, _, _, _, _, _, _, _, _, w⟩ => w.elim
section
variable {X : Cx} {g : Glob} {xk : WX} {pos : Pos}
theorem pds_tryT {n : Str} {te : Expr} {i : Nat} {cns ms : List Nat} {body suite : List Stmt} {b1 : Stmt} {pos' : Pos} {cb cs : CS} (hs : X.stack = X.env :: X.outer) (hf : X.env.frame = some X.env.locals) (hex : X.ex = []) (hN : X.N.Nodup) (hi : X.N[i]? = some n)
    (hln : X.env.kindOf n = some .local) (hc : CS.Tst X te (cns.map fun c => .ref (g.cls c))) (tk : Takes X xk) (hm : ∀ c ∈ ms, PySem.W.exmAny X.K (.ref (g.cls c)) (cns.map fun c => .ref (g.cls c)) = some (decide (c ∈ cns)))
    (hb : ∀ (W : WX) (pn : List (Addr × Obj)) (xe : Value → Shared → Prop), Takes (X.tr pn xe) W → PassesOwn (model X.prog X.w) X.A X.env xe → PDSs (X.tr pn xe) g W body cb)
    (hsu : ∀ (a : Addr) (pn : List (Addr × Obj)), PDSs (X.suite a pn) g xF (b1 :: suite) cs) :
    PDS X g xk (.Try body [.ExceptHandler (some te) (some n) (b1 :: suite) pos'] [] [] pos) (cTryT cns ms i cb cs) := by
  refine ⟨ps_imp (CS.ps_try_test (tb := fun W => liftS g W cb) (ts := liftS g xF cs) hs hf hex hN hi hln hc tk (fun W pn xe tw pw => (hb W pn xe tw pw).pss) (fun a pn => (hsu a pn).pss)) fun F σ H h => ?_⟩
  obtain ⟨C, ρ, n0, O, e, hK, E, t, l⟩ := h
  refine ⟨C.see (hid C O H), ρ, n0, O, _, hK, E.see, t, ⟨fun ρ1 n1 σ1 H1 O1 a E1 S1 => l.nx _ _ _ _ _ a (E1.unsee E.vis).1 S1, fun d n1 v H1 a Fn iv => l.rt _ _ _ _ a ⟨Fn.keep, Fn.box⟩ iv, fun ρ1 n1 σ1 H1 O1 a E1 S1 => l.bk _ _ _ _ _ a (E1.unsee E.vis).1 S1, fun ρ1 n1 σ1 H1 O1 a E1 S1 => l.ct _ _ _ _ _ a (E1.unsee E.vis).1 S1, fun c fs ρ1 n1 σ1 H1 O1 dd a E1 xi => ?_⟩⟩
  obtain ⟨E2, S2⟩ := E1.unsee E.vis
  obtain ⟨hlt, a⟩ := a
  have hK2 : C.T.cls c = g.cls c := by rw [hK.2]
  refine ⟨decide (c ∈ cns), by show PySem.W.exmAny X.K (.ref (C.T.cls c)) _ = _; rw [hK2]; exact hm c hlt, fun hy ad na => ?_, fun hn => ?_⟩
  · have hcn : c ∈ cns := of_decide_eq_true hy
    rw [if_pos hcn] at a
    obtain ⟨E3, S3, h3⟩ := E2.new (o := XO (.ref (C.T.cls c)) dd ad) na
    obtain ⟨E4, S4⟩ := E3.set (i := i) (v := .ref ad) (d := exc c fs) (exc_is h3 (xi.same S3))
    refine ⟨C, _, n1, _, _, hK, E4, a, ?_⟩
    have Sb := (S2.trans S3).trans S4
    refine ⟨fun ρ5 n5 σ5 H5 O5 x5 E5 S5 => ?_, fun d n5 v5 H5 x5 Fn iv => l.rt _ _ _ _ x5 Fn iv, fun ρ5 n5 σ5 H5 O5 x5 E5 S5 => ?_, fun ρ5 n5 σ5 H5 O5 x5 E5 S5 => ?_, xl_F⟩
    · exact l.nx _ _ _ _ _ x5 (E5.wipe1 i) ((Sb.trans S5).trans hid_cut)
    · exact l.bk _ _ _ _ _ x5 (E5.wipe1 i) ((Sb.trans S5).trans hid_cut)
    · exact l.ct _ _ _ _ _ x5 (E5.wipe1 i) ((Sb.trans S5).trans hid_cut)
  · have hcn : ¬ c ∈ cns := of_decide_eq_false hn
    rw [if_neg hcn] at a
    exact l.xc c fs ρ1 n1 σ1 H1 O1 dd a E2 xi
end
end RM
namespace RM
open PySem PySem.Spec PyProof.Rows L2 CS RZ
/-! ### o.m(x = e, ..) -/
structure PDKw (X : Cx) (g : Glob) (xk : WX) (kws : List Keyword) (td : CA) : Prop where
  pk : PK X kws (liftA g xk td)
section
variable {X : Cx} {g : Glob} {xk : WX} {pos kpos : Pos} {CX : CXT} {k j c : Nat} {nm : Option Str} {m : Str} {ps ks : List Str} {sd : SpD}
theorem pdk_nil : PDKw X g xk [] cNil := ⟨⟨fun p pins s σ H Q I h => pk_nil.run p pins s σ H Q I (let ⟨C, ρ, n, O, k, ke, hK, E, t, x, q⟩ := h; q _ _ _ _ _ _ t E (Same.refl _) .nil)⟩⟩
theorem pdk_cons {e : Expr} {kws : List Keyword} {t : CE} {u : CA} (ha : PD X g xk e t) (hr : PDKw X g xk kws u) : PDKw X g xk (⟨nm, e, kpos⟩ :: kws) (cCons t u) := by
  refine ⟨⟨fun p pins s σ H Q I h => (pk_cons ha.pe hr.pk).run p pins s σ H Q I ?_⟩⟩
  obtain ⟨C, ρ, n, O, k, ke, hK, E, t, x, q⟩ := h
  refine ⟨C, ρ, n, O, _, ke, hK, E, t, x, fun d ρ1 n1 v H1 O1 k1 E1 S1 i1 => ?_⟩
  exact ⟨C, ρ1, n1, O1, _, ke, hK, E1, k1, x, fun ds ρ2 n2 vs H2 O2 k2 E2 S2 i2 => q _ _ _ _ _ _ k2 E2 (S1.trans S2) (.cons (i1.same S2) i2)⟩
theorem run_kw {f : Addr} {fd : FuncData} {sp : Sp} {gs : List Value → List Value → List Value} {gV : List V → List V → List V} {n : Nat} {E : L2.St → XK} {pins : List (Addr × Obj)} {σ : L2.St} {H : Hp} {s : Shared} {Q : VK} {us ws : List Value} {vs zs : List V} (F : FnOk X.prog X.w X.K X.mg X.base CX k f fd ps sp) (hr : Room k X.A) (hb : KBn X.K fd ps n ks gs gV) (hx : PassesAt CX X σ (E σ)) (I : Inv X pins σ H s)
    (r : Vals vs us) (rz : Vals zs ws) (l1 : us.length = n) (l2 : ws.length = ks.length) (h : sp (gV vs zs) H Q (E σ)) : wpAny (model X.prog X.w) X.A (call (.ref f) us (ks.zip ws)) (EP X pins σ Q) X.xe s :=
  wpAny_call (codeAny_mono (F.run X.A X.stack s H ⟨us, ks.zip ws⟩ (gs us ws) (gV vs zs) Q (E σ) hr I.env0 (hb.to s us ws I.kIn l1 l2) (hb.rel r rz) h) (cr_out (fun e s' z => hx pins H s e s' I z) fun _ _ z => I.after z))
end
end RM
namespace RM
open PySem PySem.Spec PyProof.Rows L2 CS RZ
/-! ### the errors of a program, beside one another -/
structure ErX (K : PySem.W.Frag) (g : Glob) (ms : List Nat) (fs : List Str) (vb : Nat → Bool) : Prop where
  csx : ∀ c ∈ ms, PySem.W.CsxC K (g.cls c)
  xf : ∀ c ∈ ms, XfC K (g.cls c)
  no : ∀ c ∈ ms, ∀ f ∈ fs, PySem.W.findIn K (.ref (g.cls c)) f = some none
  kit : ∀ c ∈ ms, ∀ d ∈ ms, PySem.W.kitOne K (.ref (g.cls c)) (.ref (g.cls d)) = some (decide (c = d))
  exm : ∀ c ∈ ms, ∀ d ∈ ms, PySem.W.exmOne K (.ref (g.cls c)) (.ref (g.cls d)) = some (decide (c = d))
  kv : ∀ c ∈ ms, PySem.W.kitOne K (.ref (g.cls c)) (.type "ValueError") = some (vb c)
  kl : ∀ c ∈ ms, PySem.W.kitOne K (.ref (g.cls c)) (.type "LookupError") = some (!vb c)
section
variable {K : PySem.W.Frag} {g : Glob} {ms : List Nat} {fs : List Str} {vb : Nat → Bool}
theorem ErX.any (x : ErX K g ms fs vb) {c : Nat} (hc : c ∈ ms) : ∀ {cns : List Nat}, (∀ d ∈ cns, d ∈ ms) → PySem.W.exmAny K (.ref (g.cls c)) (cns.map fun d => .ref (g.cls d)) = some (decide (c ∈ cns))
  | [], _ => by
    show some false = _
    simp
  | d :: cns, h => by
    have h1 := x.exm c hc d (h d (List.mem_cons_self ..))
    have h2 := x.any hc (cns := cns) fun e he => h e (List.mem_cons_of_mem _ he)
    rw [List.map_cons]
    unfold PySem.W.exmAny
    rw [h1, h2]
    by_cases a : c = d
    · simp [a]
    · simp [a]
def cxB (K : PySem.W.Frag) (C : Addr) : Bool := (PySem.W.findIn K (.ref C) "__getattribute__" == some (some (.builtin "BaseException.__getattribute__"))) && ((PySem.W.findIn K (.ref C) "__getattr__" == some none) && ((PySem.W.subIn K (.ref C) (.type "BaseException") == some true) && (PySem.W.hasDictIn K C && ((PySem.W.findIn K (.ref C) "__class__" == some (some (.builtin "object.__class__"))) && ((PySem.W.specialIn K (.builtin "object.__class__") "__get__" == some (some (.builtin "getset_descriptor.__get__"))) && ((PySem.W.takesIn K (.builtin "object.__class__") == some true) && (PySem.W.mroIn K C (.type "object") == some true)))))))
theorem cxB_ok {C : Addr} (h : cxB K C = true) : PySem.W.CsxC K C ∧ XfC K C := by
  unfold cxB at h
  simp only [Bool.and_eq_true, beq_iff_eq] at h
  obtain ⟨h1, h2, h3, h4, h5, h6, h7, h8⟩ := h
  exact ⟨⟨h1, h2, h3, h4, h5, h6, h7, h8⟩, ⟨h1, h2, h3, h4⟩⟩
def erxB (K : PySem.W.Frag) (cl : List (Nat × Addr)) (fs : List Str) (vb : Nat → Bool) : Bool := cl.all fun p => cxB K p.2 && (noB K p.2 fs && ((cl.all fun q => (PySem.W.kitOne K (.ref p.2) (.ref q.2) == some (decide (p.1 = q.1))) && (PySem.W.exmOne K (.ref p.2) (.ref q.2) == some (decide (p.1 = q.1)))) && ((PySem.W.kitOne K (.ref p.2) (.type "ValueError") == some (vb p.1)) && (PySem.W.kitOne K (.ref p.2) (.type "LookupError") == some (!vb p.1)))))
theorem erx_ok {cl : List (Nat × Addr)} (h : erxB K cl fs vb = true) (hg : ∀ p ∈ cl, g.cls p.1 = p.2) : ErX K g (cl.map Prod.fst) fs vb := by
  unfold erxB at h
  simp only [List.all_eq_true, Bool.and_eq_true, beq_iff_eq] at h
  have at_ : ∀ c ∈ cl.map Prod.fst, ∃ p ∈ cl, p.1 = c ∧ g.cls c = p.2 := fun c hc => by
    obtain ⟨p, hp, rfl⟩ := List.mem_map.mp hc
    exact ⟨p, hp, rfl, hg p hp⟩
  refine ⟨fun c hc => ?_, fun c hc => ?_, fun c hc f hf => ?_, fun c hc d hd => ?_, fun c hc d hd => ?_, fun c hc => ?_, fun c hc => ?_⟩ <;> obtain ⟨p, hp, rfl, e⟩ := at_ c hc <;> rw [e]
  · exact (cxB_ok (h p hp).1).1
  · exact (cxB_ok (h p hp).1).2
  · exact noB_at (h p hp).2.1 hf
  · obtain ⟨q, hq, rfl, e2⟩ := at_ d hd
    rw [e2]
    exact ((h p hp).2.2.1 q hq).1
  · obtain ⟨q, hq, rfl, e2⟩ := at_ d hd
    rw [e2]
    exact ((h p hp).2.2.1 q hq).2
  · exact (h p hp).2.2.2.1
  · exact (h p hp).2.2.2.2
end
end RM
namespace RM
open PySem PySem.Spec PyProof.Rows L2 CS RZ
/-! ### isinstance of two built-in types -/
def cIsK (o : Opd) (a b : String) : CE := fun ρ n k ke => cOpd o ρ n (fun get ρ1 n1 => ∃ d t, get ρ1 = some d ∧ kindD d = some t ∧ k (.bool (decide (t = a ∨ t = b))) ρ1 n1) ke
def kit2B (a b : String) : Bool := kinds.all fun t => (kitB t a == some (decide (t = a))) && (kitB t b == some (decide (t = b)))
theorem kit2_at {K : PySem.W.Frag} {a b t : String} (h : kit2B a b = true) (ht : t ∈ kinds) : PySem.W.kitAny K (.type t) [.type a, .type b] = some (decide (t = a ∨ t = b)) := by
  unfold kit2B at h
  simp only [List.all_eq_true, Bool.and_eq_true, beq_iff_eq] at h
  obtain ⟨h1, h2⟩ := h t ht
  by_cases c : t = a
  · exact kitAny_cons (kit_ty h1) (fun z => by simp [c] at z) (fun _ => by simp [c])
  · refine kitAny_cons (kit_ty h1) (fun _ => ?_) (fun z => by simp [c] at z)
    refine kitAny_cons (kit_ty h2) (fun z => ?_) (fun z => ?_)
    · have : ¬ t = b := by simpa using z
      simp [c, this]
      rfl
    · have : t = b := by simpa using z
      simp [this]
section
variable {X : Cx} {g : Glob} {xk : WX} {pos p : Pos}
theorem pd_isK {e : Expr} {o : Opd} {x y : Str} {a b : String} {px py pt : Pos} {kk} (G : Good X g) (hk : kit2B a b = true) (h : PDQ X g xk e o) (gx : Gl X x) (mx : X.mg x = none) (vx : bootBuiltins x = some (.type a)) (gy : Gl X y) (my : X.mg y = none) (vy : bootBuiltins y = some (.type b)) (hg : Gl X "isinstance") (hm : X.mg "isinstance" = none)
    (nx : x ≠ "__name__" := by decide) (dx : (x == ("__debug__" : Str)) = false := by decide) (ny : y ≠ "__name__" := by decide) (dy : (y == ("__debug__" : Str)) = false := by decide)
    (hs : starEach [e, .Tuple [.Name x px, .Name y py] kk pt] X.env = (false, eval e X.env) :: starEach [.Tuple [.Name x px, .Name y py] kk pt] X.env := by rfl) (hs2 : starEach [.Tuple [.Name x px, .Name y py] kk pt] X.env = (false, eval (.Tuple [.Name x px, .Name y py] kk pt) X.env) :: starEach [] X.env := by rfl)
    (hs3 : starEach [.Name x px, .Name y py] X.env = (false, eval (.Name x px) X.env) :: starEach [.Name y py] X.env := by rfl) (hs4 : starEach [.Name y py] X.env = (false, eval (.Name y py) X.env) :: starEach [] X.env := by rfl)
    (hpl : (backTo pos (starEach [.Tuple [.Name x px, .Name y py] kk pt] X.env)).any (·.1) = false := by rfl) : PD X g xk (.Call (.Name "isinstance" p) [e, .Tuple [.Name x px, .Name y py] kk pt] [] pos) (cIsK o a b) := by
  refine ⟨PE.imp (pe_callB call_isiT hg hm (by decide +kernel) (pa_cons h.pe (pa_cons (pe_tup (pa_cons (pe_bltn (v := .ty a) gx mx vx rfl nx dx) (pa_cons (pe_bltn (v := .ty b) gy my vy rfl ny dy) pa_nil hs4) hs3)) pa_nil hs2) hs) (by decide) (by decide) hs hpl) fun σ H Q r => ?_⟩
  obtain ⟨C, ρ, n, O, k, ke, hK, E, t, x, q⟩ := r
  refine ⟨C, ρ, n, O, _, ke, hK, E, t, x, fun get ρ1 n1 v H1 O1 k1 E1 S1 p1 => ?_⟩
  obtain ⟨d, t, h1, h2, k1⟩ := k1
  refine ⟨(by show 2 ≤ sizeLine; decide), fun tp ntp => ?_⟩
  obtain ⟨E2, S2, e2⟩ := E1.new (o := .tup [.ty a, .ty b]) ntp
  have iv := kind_ty (((p1 _ _ _ _ _ E1 (Same.refl _) h1).is hid_le).same (same_new (o := .tup [V.ty a, V.ty b]) ntp)) h2
  exact ⟨v, tp, [.ty a, .ty b], .type t, [.type a, .type b], _, rfl, upd_same, .cons (.ty a) (.cons (.ty b) .nil), (hK.1.trans G.K) ▸ iv, kit2_at hk (kind_mem h2), q _ _ _ _ _ _ k1 E2 (S1.trans S2) (.bl _)⟩
end
/-! ### lists for tuples, at any depth -/
mutual
def listsD : D → D
  | .list ds => .list (listsDs ds)
  | .tuple ds => .list (listsDs ds)
  | d => d
def listsDs : List D → List D
  | [] => []
  | d :: ds => listsD d :: listsDs ds
end
theorem listsDs_map : ∀ ds : List D, listsDs ds = ds.map listsD
  | [] => rfl
  | d :: ds => by
    show listsD d :: listsDs ds = _
    rw [listsDs_map ds]
    rfl
def sdLists (m : Nat) : SpD := fun ds n k _ => ∃ x, ds = [x] ∧ okS m x ∧ k (listsD x) n
def cs_lists (m : Nat) : CS := cRet (cIf (cB (cIsK (.nm 0) "list" "tuple")) (cLc (cSeq (cVar 0)) (stN 1) (cYes) (cCall (sdLists m) (cCons (cVar 1) (cNil))) [1]) (cVar 0))
theorem himp_lists (m : Nat) {e : EndsD} (ds : List D) (n : Nat) (k : D → Nat → Prop) (ke : Xv → Nat → Prop) (h : sdLists (m + 1) ds n k ke) (he : e.rt = k) : cs_lists m (startE ["_law_matter", "_law_bit"] ds) n e := by
  obtain ⟨x, rfl, ok, q⟩ := h
  subst he
  have go : ∀ (xs : List D), seqD x = some xs → xs.length ≤ 1000 → (∀ d ∈ xs, okS m d) → listsD x = .list (xs.map listsD) → cLc (cSeq (cVar 0)) (stN 1) (cYes) (cCall (sdLists m) (cCons (cVar 1) (cNil))) [1] [some (.v x), none] n (fun d _ n' => e.rt d n') e.xc := fun xs h1 h2 h3 h4 => by
    refine ⟨xs, h1, ?_⟩
    refine lcL_run (fun d => some (listsD d)) xs [] (fun d hd => ⟨_, rfl, rfl, fun K1 hK => hK, fun y hy K2 hK => ?_⟩) (by rw [List.length_nil]; unfold lim; omega) ?_
    · cases hy
      exact ⟨d, rfl, h3 d hd, hK⟩
    · rw [List.nil_append]
      have : xs.filterMap (fun d => some (listsD d)) = xs.map listsD := by rw [List.filterMap_eq_map']
      rw [this, ← h4]
      exact q
  cases x with
  | list xs => exact ⟨rfl, _, _, rfl, rfl, _, rfl, go xs rfl ok.1 ok.2 (by show PyData.list (listsDs xs) = _; rw [listsDs_map])⟩
  | tuple xs => exact ⟨rfl, _, _, rfl, rfl, _, rfl, go xs rfl ok.1 ok.2 (by show PyData.list (listsDs xs) = _; rw [listsDs_map])⟩
  | dict xs => exact ok.elim
  | none => exact ⟨rfl, _, _, rfl, rfl, _, rfl, q⟩
  | bool b => exact ⟨rfl, _, _, rfl, rfl, _, rfl, q⟩
  | int b => exact ⟨rfl, _, _, rfl, rfl, _, rfl, q⟩
  | str b => exact ⟨rfl, _, _, rfl, rfl, _, rfl, q⟩
end RM
namespace RM
open PySem PySem.Spec PyProof.Rows L2 CS RZ
/-! ### k05: Counts that are none -/
def inPl (s : Str) (l : List Tri) (a : Str) : Bool := decide (a = s) || l.any fun t => decide (t.1 = a) || decide (t.2.1 = a)
theorem inPl_iff {s a : Str} {l : List Tri} : inPl s l a = true ↔ a = s ∨ ends l a := by
  unfold inPl ends
  simp
def dueT (s : Str) (l : List Tri) : D := match l.find? stillT with
  | some t => .list [.str "still", .str t.1]
  | none => match l.find? belowT with
    | some t => .list [.str "below", .str t.1, .str t.2.1, .int t.2.2]
    | none => .list [.str "made", .str s]
def sdHeard : SpD := fun ds n k _ => ∃ s x rows l, ds = [.str s, x] ∧ seqD x = some rows ∧ RowsAre rows l ∧ GoodL l ∧ l.length ≤ 1000 ∧ k (dueT s l) n
def sdDue : SpD := fun ds n k _ => ∃ s l, ds = [.str s, .list (trisD l)] ∧ GoodS s ∧ GoodL l ∧ l.length ≤ 1000 ∧ k (dueT s l) n
def sdSpots : SpD := fun ds n k _ => ∃ s l, ds = [.str s, .tuple (trisD l)] ∧ GoodS s ∧ GoodL l ∧ l.length ≤ 30 ∧ ∀ ys : List Str, ys.Nodup → (∀ p, p ∈ ys ↔ p = s ∨ ends l p) → sortedS ys = true → k (.list (strD ys)) n
def sdChecked : SpD := fun ds n k _ => ∃ s l a, ds = [cntD s l, .str a] ∧ GoodS s ∧ GoodS a ∧ GoodL l ∧ l.length ≤ 30 ∧ k (if inPl s l a = true then .none else .list [.str a, .bool true]) n
theorem OkN.trisL {l : List Tri} (h : GoodL l) : OkN 2 (.list (trisD l)) := OkN.list fun d hd => by
  obtain ⟨t, ht, rfl⟩ := List.mem_map.mp hd
  exact OkN.tri (h t ht)
theorem atI_zero {α : Type} (d : α) (ds : List α) : atI (d :: ds) 0 = some d := by
  unfold atI ixN
  rw [if_pos (by decide), if_pos (by rw [List.length_cons]; omega)]
  rfl
/-! places, gathered -/
end RM
set_option maxHeartbeats 4000000
namespace RM
open PySem PySem.Spec PyProof.Rows L2 CS RZ
/-! ### k05, drawn -/
def a1 : CS := cSet 2 (cCall sdTags (cCons (cVar 0) (cCons (cOp addD (cC (.int 2)) (cCall sdTake (cCons (cVar 0) (cCons (cC (.int 4)) (cNil))))) (cNil))))
def a2 : CS := cOwn 3 (cCF gList' (cCons (cCall sdStrewn (cCons (cVar 0) (cCons (cVar 2) (cCons (cC (.int 6)) (cCons (cC (.int 4)) (cNil)))))) (cNil)))
def a3 : CS := cFor (cRange1 (cCons (cCall sdTake (cCons (cVar 0) (cCons (cC (.int 3)) (cNil)))) (cNil))) (stN 4) (cSq (cSet 7 (cCall sdOf (cCons (cVar 0) (cCons (cLst (cCons (cTup (cCons (cOp atD (cVar 2) (cC (.int 0))) (cCons (cOp atD (cVar 2) (cC (.int 0))) (cCons (cC (.int 1)) (cNil))))) (cCons (cTup (cCons (cOp atD (cVar 2) (cC (.int 1))) (cCons (cOp atD (cVar 2) (cC (.int 0))) (cCons (cOp subD (cNeg (cC (.int 1))) (cCall sdTake (cCons (cVar 0) (cCons (cC (.int 9)) (cNil))))) (cNil))))) (cCons (cTup (cCons (cOp atD (cVar 2) (cC (.int 1))) (cCons (cOp atD (cVar 2) (cC (.int 1))) (cCons (cNeg (cC (.int 2))) (cNil))))) (cNil))))) (cNil))))) (cDrop (cMut 3 (cCons (cCall sdTake (cCons (cVar 0) (cCons (cOp addD (cCBQ gLen (.nm 3)) (cC (.int 1))) (cNil)))) (cCons (cVar 7) (cNil))) uIns)))
def a4 : CS := cSet 5 (cCall sdDue (cCons (cOp atD (cVar 2) (cC (.int 0))) (cCons (cVar 3) (cNil))))
def a5 : CS := cSet 6 (cLst (cCons (cCall sdHeard (cCons (cOp atD (cVar 2) (cC (.int 0))) (cCons (cCB gTuple (cCons (cVar 3) (cNil))) (cNil)))) (cCons (cCall sdHeard (cCons (cOp atD (cVar 2) (cC (.int 0))) (cCons (cCall (sdLists 3) (cCons (cVar 3) (cNil))) (cNil)))) (cNil))))
def a6 : CS := cIfS (cNotT (cB (cCall sdSame (cCons (cVar 6) (cCons (cLst (cCons (cVar 5) (cCons (cVar 5) (cNil)))) (cNil)))))) (cRet (cC (.bool false))) (cNext)
def a7 : CS := cIfS (cB (cOp eqD (cOp atD (cVar 5) (cC (.int 0))) (cC (.str "made")))) (cSq (cSet 8 (cMake cCnt sdInit (cCons (cOp atD (cVar 2) (cC (.int 0))) (cCons (cVar 3) (cNil))))) (cSq (cSet 9 (cCall sdSpots (cCons (cOp atD (cVar 2) (cC (.int 0))) (cCons (cCall sdSummed (cCons (cVar 3) (cNil))) (cNil))))) (cSq (cOwn 6 (cLc (cSeq (cOp addD (cVar 2) (cLst (cCons (cC (.str "inland")) (cNil))))) (stN 10) (cYes) (cCall sdChecked (cCons (cVar 8) (cCons (cVar 10) (cNil)))) [10])) (cSq (cOwn 5 (cLc (cSeq (cOp addD (cVar 2) (cLst (cCons (cC (.str "inland")) (cNil))))) (stN 10) (cYes) (cIf (cB (cOp inD (cVar 10) (cVar 9))) (cC .none) (cLst (cCons (cVar 10) (cCons (cC (.bool true)) (cNil))))) [10])) (cIfS (cNotT (cB (cCall sdSame (cCons (cVar 6) (cCons (cVar 5) (cNil)))))) (cRet (cC (.bool false))) (cNext)))))) (cNext)
abbrev gr (t1 t2 t3 t4 t5 t6 t7 t8 t9 t10 : Option Sl) : En := [some (.v boxD), t1, t2, t3, t4, t5, t6, t7, t8, t9, t10]
theorem range_len (r : Int) : (rangeD 0 r.toNat).length = r.toNat := by
  unfold rangeD
  rw [List.length_map, List.length_range]
section
variable {e : EndsD} {n : Nat} {t1 t2 t3 t4 t5 t6 t7 t8 t9 t10 : Option Sl}
theorem tris_len2 (l : List Tri) : (trisD l).length = l.length := by unfold trisD; rw [List.length_map]
/-! what check tells -/
end
end RM
set_option maxHeartbeats 4000000
namespace RM
open PySem PySem.Spec PyProof.Rows L2 CS RZ
/-! ### k05, by hand -/
end RM
namespace RM
open PySem PySem.Spec PyProof.Rows L2 CS RZ
section
variable {P : Program} {w : World} {K : PySem.W.Frag} {mg : Str → Option Value} {base : Heap} {g : Glob}
/-- at no depth nothing is asked -/
theorem lists_none {f : Addr} {fd : FuncData} : FnOk P w K mg base CX0 0 f fd ["_law_matter"] (spD g (sdLists 0)) := by
  have no : ∀ vs H Q E, ¬ spD g (sdLists 0) vs H Q E := fun vs H Q E h => by
    obtain ⟨C, ds, n, k, ke, _, _, _, _, ⟨x, _, ok, _⟩, _⟩ := h
    exact ok
  exact ⟨fun vs H Q E h => absurd h (no vs H Q E), fun A outer s H args us vs Q E _ _ _ _ h => absurd h (no vs H Q E)⟩
end
end RM
namespace RM
open PySem PySem.Spec PyProof.Rows L2 CS RZ
/-! ### a cut of a tuple as a key -/
section
variable {X : Cx} {g : Glob} {xk : WX} {pos : Pos}
/-! ### dict(l), l a list of pairs, their keys tuples -/
/-! the comprehension's turns -/
def PrD (T : Tab) (H : Hp) (v : V) (kv : D × D) : Prop := ∃ (p b : Addr) (ks : List L2.Key) (y : V), v = .ref p ∧ H p = some (.tup [.ref b, y]) ∧ H b = some (.tup (ks.map kV)) ∧ kv.1 = .tuple (ks.map kD) ∧ Is T H y kv.2
theorem PrD.same {T : Tab} {H H' : Hp} {v : V} {kv : D × D} (h : PrD T H v kv) (s : Same H H') : PrD T H' v kv :=
  let ⟨p, b, ks, y, e1, e2, e3, e4, e5⟩ := h
  ⟨p, b, ks, y, e1, s _ _ e2, s _ _ e3, e4, e5.same s⟩
end
end RM
namespace PySem.W
open PySem PySem.Spec PyProof.Rows
open Builtin
end PySem.W
namespace RM
open PySem PySem.Spec PyProof.Rows L2 CS RZ
/-! ### != by one's own ==; == with something else -/
end RM
namespace RM
open PySem PySem.Spec PyProof.Rows L2 CS RZ
/-! ### a list a number of times -/
def repD : D → D → Option D
  | .list ds, .int k => if 0 ≤ k ∧ k ≤ 1000 ∧ ds.length * k.toNat ≤ lim then some (.list (List.replicate k.toNat ds).flatten) else none
  | _, _ => none
theorem isL_rep {T : Tab} {H : Hp} {vs : List V} {ds : List D} (h : IsL T H vs ds) : ∀ k : Nat, IsL T H (List.replicate k vs).flatten (List.replicate k ds).flatten
  | 0 => .nil
  | k + 1 => by
    rw [List.replicate_succ, List.replicate_succ, List.flatten_cons, List.flatten_cons]
    exact h.append (isL_rep h k)
theorem od_rep {X : Cx} : OpD X (binaryOp .Mult) repD := by
  refine ⟨_, op_rep, fun T Hh H x y dx dy z Q hK s ix iy hg q => ?_⟩
  unfold repD at hg
  split at hg
  · obtain ⟨⟨c1, c2, c3⟩, rfl⟩ := ifs hg
    obtain ⟨a, xs, rfl, ha, ra⟩ := ix.list'
    rw [iy.int']
    exact ⟨a, _, xs, rfl, rfl, s _ _ ha, by omega, by omega, by rw [ra.length]; exact lim_le c3, newL q (isL_rep ra _)⟩
  · cases hg
/-! a class known apart from the built-in kinds -/
end RM
namespace RM
open PySem PySem.Spec PyProof.Rows L2 CS RZ
/-! ### k06: Counts added and taken away -/
structure Cn (L : List Tri) : Prop where
  g : GoodL L
  fine : Fine L
  pos : ∀ t ∈ L, 0 < t.2.2
  len : L.length ≤ 30
  nd : (L.map pr).Nodup
  pw : (L.map pr).Pairwise fun a b => leP a b = true
theorem cn_canon {l : List Tri} (hF : Fine l) (hg : GoodL l) (hl : l.length ≤ 30) : Cn (canon l) := ⟨good_canon hg, fine_canon hF, fun t ht => (canon_mem ht).2.1, by have := canon_len l; omega, canon_nodup l, List.pairwise_map.mpr (canon_pw l)⟩
theorem Cn.id {L : List Tri} (c : Cn L) : canon L = L := canon_id c.nd c.pw c.pos
theorem numAt_mem {l : List Tri} (hn : (l.map pr).Nodup) {t : Tri} (ht : t ∈ l) : numAt l (pr t) = t.2.2 := by
  induction l with
  | nil => cases ht
  | cons u l ih =>
    rw [numAt_cons]
    rw [List.map_cons, List.nodup_cons] at hn
    rcases List.mem_cons.mp ht with rfl | ht
    · rw [if_pos rfl]
    · have hne : ¬ pr u = pr t := fun w => hn.1 (by rw [w]; exact List.mem_map_of_mem ht)
      rw [if_neg hne]
      exact ih hn.2 ht
end RM
namespace RM
open PySem PySem.Spec PyProof.Rows L2 CS RZ
/-! ### k06: taken away, by the law's own table -/
end RM
set_option maxHeartbeats 4000000
namespace RM
open PySem PySem.Spec PyProof.Rows L2 CS RZ
/-! ### k06: a case -/
structure C6 (f g : Str) (l m : List Tri) : Prop where
  gf : GoodS f
  gg : GoodS g
  fl : Fine l
  fm : Fine m
  gl : GoodL l
  gm : GoodL m
  ll : l.length ≤ 12
  lm : m.length ≤ 12
section
variable {e : EndsD} {n : Nat} {f g : Str} {l m : List Tri} {t4 t5 t6 t7 t8 t9 t10 t11 t12 : Option Sl}
theorem C6.cl (c : C6 f g l m) : Cn (canon l) := cn_canon c.fl c.gl (by have := c.ll; omega)
end
end RM
set_option maxHeartbeats 4000000
namespace RM
open PySem PySem.Spec PyProof.Rows L2 CS RZ
/-! ### k06 by hand -/
def lD6 : List Tri := [("b", "a", 1)]
abbrev hA : D := .list [.str "b", .str "a", .int 2, .bool true, .bool false]
abbrev hC : D := .list [.str "a", .tuple (trisD lD6)]
end RM
set_option maxHeartbeats 4000000
namespace RM
open PySem PySem.Spec PyProof.Rows L2 CS RZ
/-! ### k06, drawn -/
structure Pool (ss : List Str) : Prop where
  nd : ss.Nodup
  two : 2 ≤ ss.length
  six : ss.length ≤ 6
  tag : ∀ s ∈ ss, s ∈ tagPool
structure Rows6 (ss : List Str) (l : List Tri) : Prop where
  fine : Fine l
  ins : ∀ t ∈ l, t.1 ∈ ss ∧ t.2.1 ∈ ss
theorem Rows6.good {ss : List Str} {l : List Tri} (p : Pool ss) (r : Rows6 ss l) : GoodL l := fun t ht => ⟨tag_good _ (p.tag _ (r.ins t ht).1), tag_good _ (p.tag _ (r.ins t ht).2)⟩
end RM
namespace CS
open PySem PySem.Spec PyProof.Rows L2
section
variable {X : Cx} {pins : List (Addr × Obj)} {σ : L2.St} {H : Hp} {s : Shared}
/-- a thing of ours is told -/
theorem Inv_track {T : Addr} {ob : HO} (I : Inv X pins σ H s) (hf : FpOk X pins H T) (new : ObjOk X.prog X.w (upd H T ob) s.heap T ob) : Inv X pins σ (upd H T ob) s := by
  have hn : H T = none := hf.1
  refine I.step (h' := s.heap) (t' := s.toks) (g' := s.gens) (d' := s.drawn) (ch := [T]) (fun b hb => by
      have e : b = T := by simpa using hb
      subst e
      exact ⟨hf.2.2.2.1, hf.2.1, hf.2.2.2.2.1, hf.2.2.2.2.2⟩) (fun b o _ _ hc e _ => e) (fun b o _ _ hc e _ => ⟨o.slots, e⟩)
    (fun b o hc e n => ?_) (fun b o hc e => ⟨o, e⟩) (fun b xs e => ?_) (fun b o u e => ?_) (fun b ps e => ⟨#[], ?_⟩) (fun m hm => hm) (fun b u e => ?_) I.bare
  · rw [upd_ne (fun z => hc (by simp [z]))]; exact n
  · rw [upd_ne (ne_of_none e hn)]; exact e
  · rw [upd_ne (ne_of_none e hn)]; exact e
  · rw [upd_ne (ne_of_none e hn), e]; simp
  · by_cases hb : b = T
    · subst hb
      rw [upd_same] at e
      cases e
      exact new
    · rw [upd_ne hb] at e
      exact (I.hok b u e).stay (fun c v hc q => q) (fun c q => by rw [upd_ne (ne_of_none q hn)]; exact q) fun c xs q => by rw [upd_ne (ne_of_none q hn)]; exact q
end
section
variable {X : Cx} {pins : List (Addr × Obj)} {σ : L2.St} {s : Shared} {A : Around} {z TI TO i1 i2 : Addr} {fp1 fp2 : List Addr} {St1 St2 : Nat → Heap → Prop} {xs ys : List V} {its1 its2 : List Value} {n : Nat} {H0 : Hp}
/-- list(z), z a zip -/
theorem zlist_call {Q : Value → Shared → Prop} {E : Value → Shared → Prop} (S : ZipSep2 z TI TO i1 i2 fp1 fp2) (rx : Vals xs its1) (ry : Vals ys its2)
    (D1 : Draws X.prog X.w A.in1.in1.in1 i1 fp1 xs.length (fun j v => its1[j]? = some v) St1) (D2 : Draws X.prog X.w A.in1.in1.in1 i2 fp2 ys.length (fun j v => its2[j]? = some v) St2)
    (hn : n = min xs.length ys.length) (hfit : n ≤ sizeLine) (I : Inv X pins σ H0 s) (hz : IsZip s.heap z TI TO .none) (hTI : IsTupOf2 s.heap TI (.ref i1) (.ref i2)) (hTO : ∃ a b, IsTupOf2 s.heap TO a b) (st1 : St1 0 s.heap) (st2 : St2 0 s.heap)
    (l1 : ∀ b ∈ fp1, b < s.heap.objs.size) (l2 : ∀ b ∈ fp2, b < s.heap.objs.size) (fp0 : ∀ b ∈ [z, TO, i1, i2], FpOk X pins H0 b)
    (hq : ∀ h tk Hc as, Inv X pins σ (upd Hc s.heap.objs.size (.lst (as.map V.ref))) { s with heap := h, toks := tk } → as.length = n → Same H0 Hc → PairsAt xs ys as Hc → Hc s.heap.objs.size = none → Q (.ref s.heap.objs.size) { s with heap := h, toks := tk }) :
    wpAny (model X.prog X.w) A (call (.type "list") [.ref z]) Q E s := by
  have zl : z < s.heap.objs.size := Heap.lt_size hz
  have Tl : TI < s.heap.objs.size := Heap.lt_size hTI
  have Ol : TO < s.heap.objs.size := by obtain ⟨_, _, q⟩ := hTO; exact Heap.lt_size q
  have nm : ∀ {l : List Addr}, (∀ b ∈ l, b < s.heap.objs.size) → s.heap.objs.size ∉ l := fun h q => Nat.lt_irrefl _ (h _ q)
  refine callType_codes (Q₁ := fun obj s₁ => obj = .ref s.heap.objs.size ∧ s₁ = { s with heap := s.heap.push { cls := .type "list", data := .seq #[] } }) F.called_list (F.typeCall_list_1 _) F.entry_list_init
    (code_list_new _ ⟨rfl, rfl⟩) fun obj s₁ h₁ => ?_
  obtain ⟨rfl, rfl⟩ := h₁
  have hL0 : (s.heap.push { cls := .type "list", data := .seq #[] }).get? s.heap.objs.size = some { cls := .type "list", data := .seq #[] } := Heap.get?_push_size _ rfl
  refine ⟨⟨_, hL0, rfl⟩, F.args_list_init_2 _ _, ?_⟩
  show wpAny _ A.in1.in1 (do let old ← Builtin.List.listItems (.ref s.heap.objs.size); Builtin.List.listUpdate (.ref s.heap.objs.size) (fun _ => #[]); letGo old.toList.reverse; Builtin.List.listExtendWith (.ref s.heap.objs.size) (.ref z) .none) _ _ _
  refine wpAny_bind ?_
  unfold Builtin.List.listItems
  refine wpAny_bind (wpAny_seqItems hL0 rfl (wpAny_pure ?_))
  show wpAny _ A.in1.in1 (updateSeq s.heap.objs.size (fun _ => #[]) >>= fun _ => letGo (#[] : Array Value).toList.reverse >>= fun _ => Builtin.List.listExtendWith (.ref s.heap.objs.size) (.ref z) .none) _ _ _
  refine wpAny_bind (wpAny_updateSeq hL0 rfl ?_)
  have hL := Heap.get?_update_self (Obj.mapSeq (fun _ => (#[] : Array Value))) hL0 rfl
  have oth0 : ∀ b u, b ≠ s.heap.objs.size → (s.heap.push { cls := .type "list", data := .seq #[] }).get? b = some u → ((s.heap.push { cls := .type "list", data := .seq #[] }).update s.heap.objs.size (Obj.mapSeq (fun _ => (#[] : Array Value)))).get? b = some u :=
    fun b u hb e => (Heap.get?_update_other _ _ (Ne.symm hb)).trans e
  have up : ∀ b u, s.heap.get? b = some u → ((s.heap.push { cls := .type "list", data := .seq #[] }).update s.heap.objs.size (Obj.mapSeq (fun _ => (#[] : Array Value)))).get? b = some u := fun b u e => oth0 b u (Nat.ne_of_lt (Heap.lt_size e)) (Heap.get?_push_of_some _ e)
  have esz0 : ((s.heap.push { cls := .type "list", data := .seq #[] }).update s.heap.objs.size (Obj.mapSeq (fun _ => (#[] : Array Value)))).objs.size = s.heap.objs.size + 1 := by
    rw [(Heap.SameBut.update _ _ _).1, Heap.size_push]
  refine wpAny_bind (wpAny_letGo ?_)
  generalize hG : ((s.heap.push { cls := .type "list", data := .seq #[] }).update s.heap.objs.size (Obj.mapSeq (fun _ => (#[] : Array Value)))) = hp at hL up esz0 ⊢
  have zty : ({ s with heap := hp } : Shared).TypeIs (.ref z) "zip" := ⟨_, up _ _ hz, rfl⟩
  have e1 : Builtin.List.listSameRef (.ref s.heap.objs.size) (.ref z) = false := by simp [Builtin.List.listSameRef, Nat.ne_of_gt zl]
  have e2 : (Value.type "zip" == Value.type "list") = false := by decide
  have e3 : (Value.type "zip" == Value.type "tuple") = false := by decide
  unfold Builtin.List.listExtendWith
  refine wpAny_bind (wpAny_typeOf zty ?_)
  simp only [e1, e2, e3, Bool.or_false, Bool.false_eq_true, if_false]
  refine wpAny_bind (wpAny_pyIter_zip (up _ _ hz) (wpAny_bind (wpAny_holding ?_)))
  unfold Builtin.List.listLengthHint
  refine wpAny_bind (wpAny_specialOf zty zip_nolen ?_)
  show wpAny _ A.in1.in1 (specialOf (Value.ref z) (Str.ofString "__length_hint__") >>= _) _ _ _
  refine wpAny_bind (wpAny_specialOf zty zip_nohint (wpAny_pure ?_))
  show wpAny _ A.in1.in1 (rule "list.extend.makes-room" >>= fun _ => Builtin.List.listTouch (.ref s.heap.objs.size) >>= fun _ =>
    PySem.again (.builtin "list.extend.loop" ⟨[.ref s.heap.objs.size, .ref z, .none], []⟩)) _ _ _
  refine wpAny_bind (wpAny_rule (wpAny_bind ?_))
  show wpAny _ A.in1.in1 (updateSeq s.heap.objs.size (·.push .none) >>= fun _ => updateSeq s.heap.objs.size (·.pop)) _ _ _
  refine wpAny_bind (wpAny_updateSeq hL rfl ?_)
  have hL2 := Heap.get?_update_self (Obj.mapSeq (·.push Value.none)) hL rfl
  refine wpAny_updateSeq hL2 rfl ?_
  have hL3 := Heap.get?_update_self (Obj.mapSeq (·.pop)) hL2 rfl
  have oth : ∀ b u, b ≠ s.heap.objs.size → hp.get? b = some u → ((hp.update s.heap.objs.size (Obj.mapSeq (·.push Value.none))).update s.heap.objs.size (Obj.mapSeq (·.pop))).get? b = some u :=
    fun b u hb e => (Heap.get?_update_other _ _ (Ne.symm hb)).trans ((Heap.get?_update_other _ _ (Ne.symm hb)).trans e)
  have old : ∀ b u, s.heap.get? b = some u → ((hp.update s.heap.objs.size (Obj.mapSeq (·.push Value.none))).update s.heap.objs.size (Obj.mapSeq (·.pop))).get? b = some u :=
    fun b u e => oth b u (Nat.ne_of_lt (Heap.lt_size e)) (up b u e)
  have esz : ((hp.update s.heap.objs.size (Obj.mapSeq (·.push Value.none))).update s.heap.objs.size (Obj.mapSeq (·.pop))).objs.size = s.heap.objs.size + 1 := by
    rw [(Heap.SameBut.update _ _ _).1, (Heap.SameBut.update _ _ _).1, esz0]
  refine wpAny_pure ⟨plainId_quiet F.plain_extend_loop _, z_loop (A := A.in1) (X := X) (pins := pins) (σ := σ) (s := s) (xs := xs) (ys := ys) (H0 := H0) S rx ry D1 D2 (nm l1) (nm l2) (Nat.ne_of_lt Tl) (Nat.ne_of_lt zl) (Nat.ne_of_lt Ol) hn hfit _
    (fun h tk Hc acc c as G => ?_) n 0 _ s.toks H0 #[] _ [] (Nat.sub_zero _) (Nat.zero_le _) ⟨I.kept (t' := s.toks) old, hL3, rfl, rfl, fun b hb => ?_, fun _ _ e => e, fun j a x y ha => by cases ha⟩ ⟨old _ _ hTI, D1.frame _ _ _ st1 fun b _ u e => old b u e, D2.frame _ _ _ st2 fun b _ u e => old b u e, .inl ⟨old _ _ hz, ?_⟩⟩ fun b hb => ?_⟩
  · have f0 := G.fp s.heap.objs.size (by simp)
    have rvs : Vals (as.map V.ref) (as.map Value.ref) := by
      clear G hq
      induction as with
      | nil => exact .nil
      | cons x t ih => exact .cons rfl ih
    refine ⟨rfl, hq h tk Hc as (Inv_track G.inv f0 ⟨by rw [List.length_map, G.len]; exact hfit, as.map Value.ref, c, rvs, ?_⟩) G.len G.same G.good f0.1⟩
    have := G.lst
    rw [show acc = (as.map Value.ref).toArray by rw [← G.acc]] at this
    exact this
  · by_cases e : b = s.heap.objs.size
    · rw [e]
      exact I.fpOk (Nat.le_refl _) (I.hok.fresh (Nat.le_refl _))
    · exact fp0 b (by
        have q : b = z ∨ b = TO ∨ b = i1 ∨ b = i2 ∨ b = s.heap.objs.size := by simpa using hb
        rcases q with q | q | q | q | q
        · simp [q]
        · simp [q]
        · simp [q]
        · simp [q]
        · exact absurd q e)
  · obtain ⟨a, b, q⟩ := hTO
    exact ⟨a, b, old _ _ q⟩
  · rw [esz]
    have q : b = z ∨ b = TO ∨ b = i1 ∨ b = i2 ∨ b = s.heap.objs.size := by simpa using hb
    rcases q with q | q | q | q | q
    · rw [q]; exact Nat.lt_succ_of_lt zl
    · rw [q]; exact Nat.lt_succ_of_lt Ol
    · rw [q]; exact Nat.lt_succ_of_lt (l1 _ S.mem1)
    · rw [q]; exact Nat.lt_succ_of_lt (l2 _ S.mem2)
    · rw [q]; exact Nat.lt_succ_self _
end
section
variable {X : Cx}
/-- list(zip(x, y)): a new list of new pairs -/
def tLstZip (K : PySem.W.Frag) (ta : TA) : TE := fun σ H Q => ta σ H fun vs H1 => ∃ (a b : Addr) (xs ys : List V), vs = [.ref a, .ref b] ∧ ((SqT K H1 a xs ∧ SqT K H1 b ys) ∨ (SqL K H1 a xs ∧ SqL K H1 b ys)) ∧
  ∀ (Hc : Hp) (p : Addr) (as : List Addr), Same H1 Hc → as.length = min xs.length ys.length → PairsAt xs ys as Hc → Hc p = none → Q (.ref p) (upd Hc p (.lst (as.map V.ref)))
theorem pe_lstZip {e e2 : Expr} {ta : TA} {p p2 pos q2 : Pos} (gT : Gl X "list") (mT : X.mg "list" = none) (gZ : Gl X "zip") (mZ : X.mg "zip" = none) (ha : PA X [e, e2] ta) (hc : X.calm = true := by rfl)
    (na : starEach [.Call (.Name "zip" p2) [e, e2] [] q2] X.env = (false, eval (.Call (.Name "zip" p2) [e, e2] [] q2) X.env) :: starEach [] X.env := by rfl)
    (hs : starEach [e, e2] X.env = (false, eval e X.env) :: starEach [e2] X.env := by rfl) (hpl : (backTo q2 (starEach [e2] X.env)).any (·.1) = false := by rfl) :
    PE X (.Call (.Name "list" p) [.Call (.Name "zip" p2) [e, e2] [] q2] [] pos) (tLstZip X.K ta) := by
  refine ⟨fun pins s0 σ H0 Q I0 hw => ?_⟩
  refine Call_ (ld_blt I0 gT mT (show bootBuiltins "list" = some (.type "list") by decide +kernel) (PyProof.Rows.callWith_type1 (PyProof.Rows.args_cons ?_ na) na))
  refine Call_ (ld_blt I0 gZ mZ PyProof.Rows.boot_zip (PyProof.Rows.callWith_type1 (thn (ha.run q2 pins s0 σ H0 _ I0 hw) fun us s1 ⟨vs, H1, I1, r1, q1⟩ => ?_) hs hpl))
  obtain ⟨a, b, xs, ys, rfl, hsq, q⟩ := q1
  obtain ⟨u1, u2, rfl, ra, rb⟩ := vals2 r1
  cases ra
  cases rb
  have hh : X.A.handled = none := I1.ok.hd hc
  have key : ∀ (o1 o2 : Obj) (F1 F2 : Heap → Prop) (its1 its2 : List Value) (St1 St2 : Nat → Heap → Prop), Begins (.ref a) o1 F1 → Begins (.ref b) o2 F2 → F1 s1.heap → F2 s1.heap → Vals xs its1 → Vals ys its2 → xs.length ≤ sizeLine → a < s1.heap.objs.size → b < s1.heap.objs.size →
      Draws X.prog X.w X.A.in1.in1.in1 s1.heap.objs.size [s1.heap.objs.size, a] xs.length (fun j v => its1[j]? = some v) St1 → Draws X.prog X.w X.A.in1.in1.in1 (s1.heap.objs.size + 1) [s1.heap.objs.size + 1, b] ys.length (fun j v => its2[j]? = some v) St2 →
      (∀ h', h'.get? s1.heap.objs.size = some o1 → (∀ c u, s1.heap.get? c = some u → h'.get? c = some u) → St1 0 h') → (∀ h', h'.get? (s1.heap.objs.size + 1) = some o2 → (∀ c u, s1.heap.get? c = some u → h'.get? c = some u) → St2 0 h') →
      wpAny (model X.prog X.w) X.A (call (.type "zip") [.ref a, .ref b]) (fun v s' => wpAny (model X.prog X.w) X.A (spliced (backTo pos (starEach [] X.env))) (fun vs s'' => wpAny (model X.prog X.w) X.A (call (.type "list") (v :: vs)) (EP X pins σ Q) X.xe s'') X.xe s') X.xe s1 := by
    intro o1 o2 F1 F2 its1 its2 St1 St2 B1 B2 f1 f2 rx ry hz al bl D1 D2 k1 k2
    refine zip_begins2 B1 B2 f1 f2 fun h' hzp hTI hTO g1 g2 hsz hk => ?_
    refine PyProof.Rows.args_nil ?_
    have I2 : Inv X pins σ H1 { s1 with heap := h' } := I1.kept (t' := s1.toks) hk
    have S := zip_sep2 (N := s1.heap.objs.size) (fp1 := [a]) (fp2 := [b]) (fun c hc => by rw [List.mem_singleton.mp hc]; exact al) (fun c hc => by rw [List.mem_singleton.mp hc]; exact bl)
    refine zlist_call (A := X.A) (s := { s1 with heap := h' }) (pins := pins) (σ := σ) (n := min xs.length ys.length) S rx ry D1 D2 rfl (by omega) I2 hzp hTI ⟨_, _, hTO⟩ (k1 h' g1 hk) (k2 h' g2 hk) ?_ ?_ ?_ fun h tk Hc as J l sm pr hn => ⟨.ref h'.objs.size, _, J, rfl, q Hc _ as sm l pr hn⟩
    · intro c hc
      have hc' : c = s1.heap.objs.size ∨ c = a := by simpa using hc
      show c < h'.objs.size
      rw [hsz]
      rcases hc' with e | e
      · rw [e]; exact Nat.lt_add_of_pos_right (by decide)
      · rw [e]; exact Nat.lt_of_lt_of_le al (Nat.le_add_right _ _)
    · intro c hc
      have hc' : c = s1.heap.objs.size + 1 ∨ c = b := by simpa using hc
      show c < h'.objs.size
      rw [hsz]
      rcases hc' with e | e
      · rw [e]; exact Nat.add_lt_add_left (by decide) _
      · rw [e]; exact Nat.lt_of_lt_of_le bl (Nat.le_add_right _ _)
    · intro c hc
      have hle : s1.heap.objs.size ≤ c := by
        have hc' : c = s1.heap.objs.size + 4 ∨ c = s1.heap.objs.size + 3 ∨ c = s1.heap.objs.size ∨ c = s1.heap.objs.size + 1 := by simpa using hc
        rcases hc' with e | e | e | e
        · rw [e]; exact Nat.le_add_right _ _
        · rw [e]; exact Nat.le_add_right _ _
        · rw [e]; exact Nat.le_refl _
        · rw [e]; exact Nat.le_add_right _ _
      exact I1.fpOk hle (I1.hok.fresh hle)
  rcases hsq with ⟨hx, hy⟩ | ⟨hx, hy⟩
  · obtain ⟨its1, rx, px, hzx⟩ := I1.tuple hx
    obtain ⟨its2, ry, py, hzy⟩ := I1.tuple hy
    have ax := lt_of_tuple px
    have ay := lt_of_tuple py
    have D1 := Draws.tuple (prog := X.prog) (w := X.w) (A := X.A.in1.in1.in1) hh s1.heap.objs.size a (Nat.ne_of_lt ax) its1.toArray
    have D2 := Draws.tuple (prog := X.prog) (w := X.w) (A := X.A.in1.in1.in1) hh (s1.heap.objs.size + 1) b (Nat.ne_of_lt (Nat.lt_succ_of_lt ay)) its2.toArray
    have e1 : its1.toArray.size = xs.length := by rw [List.size_toArray]; exact rx.length.symm
    have e2 : its2.toArray.size = ys.length := by rw [List.size_toArray]; exact ry.length.symm
    rw [e1] at D1
    rw [e2] at D2
    simp only [List.getElem?_toArray] at D1 D2
    exact key _ _ _ _ its1 its2 _ _ (begins_tuple a its1.toArray) (begins_tuple b its2.toArray) px py rx ry hzx ax ay D1 D2 (fun h' g k => ⟨⟨_, g, rfl, rfl⟩, (show s1.heap.IsTuple a its1.toArray from px).at fun u e => k _ u e⟩) (fun h' g k => ⟨⟨_, g, rfl, rfl⟩, (show s1.heap.IsTuple b its2.toArray from py).at fun u e => k _ u e⟩)
  · obtain ⟨its1, rx, px, hzx⟩ := I1.list hx
    obtain ⟨its2, ry, py, hzy⟩ := I1.list hy
    have ax := lt_of_plain px
    have ay := lt_of_plain py
    have D1 := Draws.list (prog := X.prog) (w := X.w) (A := X.A.in1.in1.in1) hh s1.heap.objs.size a (Nat.ne_of_lt ax) its1.toArray
    have D2 := Draws.list (prog := X.prog) (w := X.w) (A := X.A.in1.in1.in1) hh (s1.heap.objs.size + 1) b (Nat.ne_of_lt (Nat.lt_succ_of_lt ay)) its2.toArray
    have e1 : its1.toArray.size = xs.length := by rw [List.size_toArray]; exact rx.length.symm
    have e2 : its2.toArray.size = ys.length := by rw [List.size_toArray]; exact ry.length.symm
    rw [e1] at D1
    rw [e2] at D2
    simp only [List.getElem?_toArray] at D1 D2
    exact key _ _ _ _ its1 its2 _ _ (begins_list a its1.toArray) (begins_list b its2.toArray) px.isList py.isList rx ry hzx ax ay D1 D2 (fun h' g k => ⟨⟨_, g, rfl, rfl⟩, px.isList.at fun u e => k _ u e⟩) (fun h' g k => ⟨⟨_, g, rfl, rfl⟩, py.isList.at fun u e => k _ u e⟩)
end
end CS
namespace RM
open PySem PySem.Spec PyProof.Rows L2 CS RZ
/-! ### pairs of two rows -/
def pairD (a b : D) : D := .tuple [a, b]
theorem zipd_is {T : Tab} {Hh H : Hp} (tup : ∀ a us, H a = some (.tup us) → Hh a = some (.tup us)) : ∀ {us ws : List V} {ds es : List D} {as : List Addr}, IsL T Hh us ds → IsL T Hh ws es → as.length = min us.length ws.length → PairsAt us ws as H → IsL T Hh (as.map V.ref) (List.zipWith pairD ds es)
  | [], ws, _, es, as, .nil, h2, l, _ => by
    rw [List.length_nil, Nat.zero_min] at l
    rw [List.eq_nil_of_length_eq_zero l, List.zipWith_nil_left]
    exact .nil
  | u :: us, [], _, _, as, .cons h1 r1, .nil, l, _ => by
    rw [List.length_nil, Nat.min_zero] at l
    rw [List.eq_nil_of_length_eq_zero l, List.zipWith_nil_right]
    exact .nil
  | u :: us, w :: ws, d :: ds, e :: es, [], _, _, l, _ => by
    rw [List.length_cons, List.length_cons, List.length_nil] at l
    omega
  | u :: us, w :: ws, d :: ds, e :: es, a :: as, .cons h1 r1, .cons h2 r2, l, p => by
    rw [List.zipWith_cons_cons, List.map_cons]
    refine .cons (.tup (tph_in (tup _ _ (p 0 a u w rfl rfl rfl))) (.cons h1 (.cons h2 .nil))) (zipd_is tup r1 r2 (by rw [List.length_cons, List.length_cons, List.length_cons] at l; omega) fun j a' x y e1 e2 e3 => p (j + 1) a' x y e1 e2 e3)
section
variable {X : Cx} {g : Glob} {xk : WX} {pos : Pos}
def cZip (mk : List D → D) (ta : CA) : CE := fun ρ n k ke => ta ρ n (fun ds ρ' n' => ∃ xs ys, (ds = [.tuple xs, .tuple ys] ∨ ds = [.list xs, .list ys]) ∧ k (mk (List.zipWith pairD xs ys)) ρ' n') ke
theorem zip_args {T : Tab} {K : PySem.W.Frag} {Hh H : Hp} {vs : List V} {ds xs ys : List D} (hK : T.K = K) (le : Same Hh H) (i : IsL T Hh vs ds) (h : ds = [.tuple xs, .tuple ys] ∨ ds = [.list xs, .list ys]) : ∃ a b us ws, vs = [V.ref a, V.ref b] ∧ ((SqT K H a us ∧ SqT K H b ws) ∨ (SqL K H a us ∧ SqL K H b ws)) ∧ IsL T Hh us xs ∧ IsL T Hh ws ys := by
  subst hK
  rcases h with rfl | rfl
  · obtain ⟨v1, v2, rfl, j1, j2⟩ := i.two
    obtain ⟨a, us, rfl, ha, ra⟩ := j1.tup'
    obtain ⟨b, ws, rfl, hb, rb⟩ := j2.tup'
    exact ⟨a, b, us, ws, rfl, .inl ⟨sqt_same le ha, sqt_same le hb⟩, ra, rb⟩
  · obtain ⟨v1, v2, rfl, j1, j2⟩ := i.two
    obtain ⟨a, us, rfl, ha, ra⟩ := j1.list'
    obtain ⟨b, ws, rfl, hb, rb⟩ := j2.list'
    exact ⟨a, b, us, ws, rfl, .inr ⟨SqL.of (le _ _ ha), SqL.of (le _ _ hb)⟩, ra, rb⟩
theorem pf_lstZip {e e2 : Expr} {ta : CA} {p p2 q2 : Pos} (G : Good X g) (gT : Gl X "list") (mT : X.mg "list" = none) (gZ : Gl X "zip") (mZ : X.mg "zip" = none) (ha : PDA X g xk [e, e2] ta) (hc : X.calm = true := by rfl)
    (na : starEach [.Call (.Name "zip" p2) [e, e2] [] q2] X.env = (false, eval (.Call (.Name "zip" p2) [e, e2] [] q2) X.env) :: starEach [] X.env := by rfl)
    (hs : starEach [e, e2] X.env = (false, eval e X.env) :: starEach [e2] X.env := by rfl) (hpl : (backTo q2 (starEach [e2] X.env)).any (·.1) = false := by rfl) :
    PDF X g xk (.Call (.Name "list" p) [.Call (.Name "zip" p2) [e, e2] [] q2] [] pos) (cZip .list ta) := by
  refine ⟨PE.imp (pe_lstZip gT mT gZ mZ ha.pa hc na hs hpl) fun σ H Q r => ?_⟩
  obtain ⟨C, ρ, n, O, k, ke, hK, E, t, x, q⟩ := r
  refine ⟨C, ρ, n, O, _, ke, hK, E, t, x, fun ds ρ1 n1 vs H1 O1 k1 E1 S1 i1 => ?_⟩
  obtain ⟨xs, ys, hd, k1⟩ := k1
  obtain ⟨a, b, us, ws, rfl, hsq, ra, rb⟩ := zip_args (hK.1.trans G.K) (hid_le (C := C) (O := O1)) i1 hd
  refine ⟨a, b, us, ws, rfl, hsq, fun Hc p as s l pr hp => ?_⟩
  have E2 := E1.ext s
  have S2 := hid_same s (C := C) (O := O1)
  have it := zipd_is (T := C.T) (Hh := hid C O1 Hc) (H := Hc) (fun a us h => E2.tup h) (ra.same S2) (rb.same S2) l pr
  exact q _ _ _ _ Hc _ _ k1 E2 (S1.trans S2) hp (same_new hp) (.lst upd_same it) rfl
/-! ### how often something stands in a list -/
def rCountD (K : PySem.W.Frag) : V → List V → Hp → VK → Prop := fun x xs H Q => ∃ (y : V) (d : PyData) (ds : List PyData), xs = [y] ∧ Dp K H x (.list ds) ∧ Dp K H y d ∧ SeqAt.shaped (.list ds) = true ∧ SeqAt.shaped d = true ∧ Q (.int ((ds.countP fun z => PyData.eqv z d : Nat) : Int)) H
theorem mt_countD (hu : X.A.units + 65 < cLine) : MtR X "list.count" (rCountD X.K) := by
  intro pins s σ H x xs v us Q I rx rxs h
  obtain ⟨y, d, ds, rfl, hl, hy, sl, sd, q⟩ := h
  cases rxs with
  | cons ry rt =>
    rename_i uy ut
    cases rt
    obtain ⟨bs, r1⟩ := Dp.reads I d y uy hy ry
    have hxs : PyData.canLayAll0 ds = true := SeqAt.canLay_of_shaped sl
    have hroom : X.A.units + 1 + min (PyData.depthAll ds) d.depth < cLine := room_in_shaped sd hu
    cases hl with
    | @lst a us ds hs ha =>
      cases (show v = Value.ref a from rx)
      obtain ⟨its, rv, ⟨⟨cls, dd, data, sls⟩, n, ho, hc, hdn, hdt⟩, hlen⟩ := I.list hs
      simp only at hc hdt
      subst hc hdt
      obtain ⟨as, h4⟩ := Dp.readsAll I ds _ its ha rv
      have hmap : its.map (SeqAt.readOf s.heap) = ds := SeqAt.readsAll_map ds its as hxs h4
      refine call_meets PySem.F.slot_list_count ⟨_, ho, rfl⟩ PySem.F.entry_list_count (PySem.F.args_list_count_2 _ _)
        (SeqAt.list_countAt a its.toArray n dd sls uy (fun u => PyData.eqv (SeqAt.readOf s.heap u) d)) ⟨ho, SeqAt.items_eqAt (vs := its.toArray) (show ReadsAll s.heap its.toArray.toList ds as from h4) r1 hxs (SeqAt.canLay_of_shaped sd) hroom, ?_⟩
      have ec : its.toArray.toList.countP (fun u => PyData.eqv (SeqAt.readOf s.heap u) d) = ds.countP fun z => PyData.eqv z d := by
        show its.countP _ = _
        rw [← hmap, List.countP_map]
        rfl
      refine ⟨.int ((ds.countP fun z => PyData.eqv z d : Nat) : Int), H, I.tok _, ⟨s.toks, ?_⟩, q⟩
      show Value.int ((its.toArray.toList.countP (fun u => PyData.eqv (SeqAt.readOf s.heap u) d) : Nat) : Int) s.toks = _
      rw [ec]
def cCount (to te : CE) : CE := fun ρ n k ke => to ρ n (fun x ρ1 n1 => (∃ ds, x = .list ds) ∧ te ρ1 n1 (fun y ρ2 n2 => ∃ ds, x = .list ds ∧ okE x = true ∧ okE y = true ∧ k (.int ((ds.countP fun z => PyData.eqv z y : Nat) : Int)) ρ2 n2) ke) ke
theorem pd_count {o e : Expr} {to te : CE} {apos : Pos} (hu : X.A.units + 65 < cLine) (G : Good X g) (ho : PD X g xk o to) (he : PD X g xk e te) (hbase : attributeBase o "count" X.env (eval o X.env) = eval o X.env := by rfl)
    (hfew : ((backTo pos (starEach [e] X.env)).all (fun x => !x.1) && (backToKw pos (keywordEach [] X.env)).all (fun x => x.1.isSome)
      && decide ([e].length + ([] : List Keyword).length + (if ([] : List Keyword).isEmpty then 0 else 1) < 30)) = true := by rfl)
    (hline : (apos.endLine == pos.line) = true := by rfl) (hs : starEach [e] X.env = (false, eval e X.env) :: starEach [] X.env := by rfl) (hplain : (backTo pos (starEach [] X.env)).any (·.1) = false := by rfl) :
    PD X g xk (.Call (.Attribute o "count" apos) [e] [] pos) (cCount to te) := by
  refine ⟨PE.imp (pe_bm PySem.F.plainAttrs_list PySem.F.slot_list_count PySem.F.type_list_count (mt_countD hu) ho.pe (pa_cons he.pe pa_nil hs) hbase hfew hline hs hplain) fun σ H Q h => ?_⟩
  obtain ⟨C, ρ, n, O, k, ke, hK, E, t, x, q⟩ := h
  have eK := hK.1.trans G.K
  refine ⟨C, ρ, n, O, _, ke, hK, E, t, x, fun d ρ1 n1 v H1 O1 k1 E1 S1 i1 => ?_⟩
  obtain ⟨⟨ds, rfl⟩, k1⟩ := k1
  obtain ⟨a, us, rfl, ha, ra⟩ := i1.list'
  refine ⟨.inl ⟨rfl, us, SqL.of (hid_le _ _ ha)⟩, C, ρ1, n1, O1, _, ke, hK, E1, k1, x, fun y ρ2 n2 v2 H2 O2 k2 E2 S2 i2 => ?_⟩
  obtain ⟨ds', e', ok1, ok2, k2⟩ := k2
  cases e'
  obtain ⟨p1, s1, p2, s2⟩ := okE2 (x := .list ds) (y := y) (by rw [ok1, ok2]; rfl)
  exact ⟨v2, y, ds, rfl, eK ▸ ((i1.same S2).same hid_le).dp p1, eK ▸ (i2.same hid_le).dp p2, s1, s2, q _ _ _ _ _ _ k2 E2 (S1.trans S2) (.int _)⟩
/-! ### C.m(..), m a staticmethod -/
end
end RM
namespace RM
open PySem PySem.Spec PyProof.Rows L2 CS RZ
/-! ### k07: rows of steps -/
def pairsOf : List Str → List (Str × Str)
  | a :: b :: r => (a, b) :: pairsOf (b :: r)
  | _ => []
theorem pairs_cons (a b : Str) (r : List Str) : pairsOf (a :: b :: r) = (a, b) :: pairsOf (b :: r) := rfl
theorem zip_pairs : ∀ ss : List Str, List.zipWith pairD (strD ss) (strD ss).tail = (pairsOf ss).map tx
  | [] => rfl
  | [a] => rfl
  | a :: b :: r => by
    have ih := zip_pairs (b :: r)
    rw [pairs_cons, List.map_cons, ← ih]
    rfl
theorem cutL_tail (ds : List D) : cutL ds (some 1) none = ds.tail := by
  unfold cutL
  rw [show HT.sIx ds.length 0 (some 1) = min 1 ds.length from HT.sIx_nat ds.length 0 1, HT.sIx_none]
  cases ds with
  | nil => rfl
  | cons d ds =>
    rw [List.length_cons, Nat.min_eq_left (by omega), List.drop_one, List.tail_cons]
    exact List.take_of_length_le (by omega)
def stepT (ss : List Str) : List Tri := (pairsOf ss).map fun p => (p.1, p.2, 1)
theorem pairs_len : ∀ ss : List Str, (pairsOf ss).length = ss.length - 1
  | [] => rfl
  | [a] => rfl
  | a :: b :: r => by
    have ih := pairs_len (b :: r)
    rw [pairs_cons, List.length_cons, ih]
    simp
theorem pairs_mem : ∀ {ss : List Str} {p : Str × Str}, p ∈ pairsOf ss → p.1 ∈ ss ∧ p.2 ∈ ss
  | [], _, h => by cases h
  | [a], _, h => by cases h
  | a :: b :: r, p, h => by
    rw [pairs_cons] at h
    rcases List.mem_cons.mp h with rfl | h
    · exact ⟨by simp, by simp⟩
    · have := pairs_mem h
      exact ⟨List.mem_cons_of_mem _ this.1, List.mem_cons_of_mem _ this.2⟩
/-- a journey -/
structure Jn (ss : List Str) : Prop where
  good : ∀ s ∈ ss, GoodS s
  ch : ∀ p ∈ pairsOf ss, p.1 ≠ p.2
  len : ss.length ≤ 60
theorem Jn.fine {ss : List Str} (j : Jn ss) : Fine (stepT ss) := fun t ht => by
  obtain ⟨p, hp, rfl⟩ := List.mem_map.mp ht
  exact ⟨j.ch p hp, show (0 : Int) ≤ 1 by decide⟩
theorem step_len (ss : List Str) : (stepT ss).length = ss.length - 1 := by
  unfold stepT
  rw [List.length_map, pairs_len]
theorem atI_last {ss : List Str} {a : Str} : atI (strD (ss ++ [a])) (-1) = some (.str a) := by
  unfold atI ixN strD
  rw [if_neg (by decide), List.length_map, List.length_append, List.length_singleton, if_pos (by omega)]
  rw [show (-1 + ((ss.length + 1 : Nat) : Int)).toNat = (List.map PyData.str ss).length by rw [List.length_map]; omega, List.map_append]
  simp
end RM
namespace RM
open PySem PySem.Spec PyProof.Rows L2 CS RZ
/-! ### k07: under other names -/
/-! steps renamed -/
end RM
namespace RM
open PySem PySem.Spec PyProof.Rows L2 CS RZ
/-! ### k07: steps tallied -/
theorem atI_lastD {l : List D} {d : D} : atI (l ++ [d]) (-1) = some d := by
  unfold atI ixN
  rw [if_neg (by decide), List.length_append, List.length_singleton, if_pos (by omega)]
  rw [show (-1 + ((l.length + 1 : Nat) : Int)).toNat = l.length by omega]
  simp
theorem eqD_nil {l : List Tri} (h : GoodL l) : eqD (.list (trisD l)) (.list []) = some (.bool l.isEmpty) := by
  unfold eqD
  rw [(OkN.trisL h).ok (by decide), (OkN.list (k := 0) (ds := []) (fun d hd => by cases hd)).ok (by decide), if_pos (show (true && true) = true from rfl)]
  cases l <;> simp [trisD, PyData.eqv, PyData.eqvAll]
theorem neD_tx {p q : Str × Str} (hp : GoodP p) (hq : GoodP q) : neD (tx p) (tx q) = some (.bool (!decide (p = q))) := by
  unfold neD
  rw [(OkN.tx hp).ok (by decide), (OkN.tx hq).ok (by decide), if_pos (show (true && true) = true from rfl), tx_eqv]
theorem ok_txs {ps : List (Str × Str)} (h : ∀ p ∈ ps, GoodP p) : okE (.list (ps.map tx)) = true := (OkN.list (k := 1) fun d hd => by
  obtain ⟨p, hp, rfl⟩ := List.mem_map.mp hd
  exact OkN.tx (h p hp)).ok (by decide)
def cnt (ps : List (Str × Str)) (p : Str × Str) : Int := ((ps.map tx).countP fun z => PyData.eqv z (tx p) : Nat)
theorem cnt_sum (p : Str × Str) : ∀ ps : List (Str × Str), cnt ps p = sumAt (ps.map fun q => (q.1, q.2, 1)) p
  | [] => rfl
  | q :: ps => by
    have ih := cnt_sum p ps
    unfold cnt at ih ⊢
    rw [List.map_cons, List.map_cons, List.countP_cons, sumAt_cons, tx_eqv, ← ih]
    show _ = (if q = p then (1 : Int) else 0) + _
    by_cases c : q = p
    · rw [decide_eq_true c, if_pos rfl, if_pos c]
      push_cast
      omega
    · rw [decide_eq_false c, if_neg (by simp), if_neg c]
      push_cast
      omega
def tal (ps rs : List (Str × Str)) : List Tri := rs.map fun p => (p.1, p.2, cnt ps p)
theorem tal_good {ps rs : List (Str × Str)} (h : ∀ p ∈ rs, GoodP p) : GoodL (tal ps rs) := fun t ht => by
  obtain ⟨p, hp, rfl⟩ := List.mem_map.mp ht
  exact h p hp
theorem last_firsts : ∀ (d : List (Str × Str)) (y : Str × Str), (d ++ [y]).Pairwise (fun a b => leP a b = true) → ∃ r, firsts (d ++ [y]) = r ++ [y] := by
  intro d y hp
  rw [firsts_snoc]
  unfold putOne
  by_cases c : y ∈ firsts d
  · rw [if_pos c]
    rw [mem_firsts] at c
    obtain ⟨d', z, rfl⟩ : ∃ d' z, d = d' ++ [z] := by
      rcases List.eq_nil_or_concat d with rfl | ⟨d', z, e⟩
      · cases c
      · exact ⟨d', z, by rw [e]; simp⟩
    obtain ⟨r, hr⟩ := last_firsts d' z (hp.sublist (List.sublist_append_left ..))
    have hzy : leP z y = true := (List.pairwise_append.mp hp).2.2 z (by simp) y (by simp)
    have hyz : y = z := by
      rcases List.mem_append.mp c with c | c
      · have h2 := (List.pairwise_append.mp (List.pairwise_append.mp hp).1).2.2 y c z (by simp)
        exact leP_anti h2 hzy
      · exact List.mem_singleton.mp c
    rw [hyz]
    exact ⟨r, hr⟩
  · rw [if_neg c]
    exact ⟨_, rfl⟩
termination_by d => d.length
decreasing_by simp_all
def tallyB : CS := cIfS (cOrT (cB (cOpQ eqD (.nm 2) (cLst (cNil)))) (cB (cOp neD (cSl (cIxQ (.nm 2) (cNeg (cC (.int 1)))) (cNo) (cPart (cC (.int 2)))) (cVar 3)))) (cDrop (cApp 2 (cOp addD (cVar 3) (cTup (cCons (cCount (cVar 1) (cVar 3)) (cNil)))))) (cNext)
def tallyt1 : CS := cSet 1 (cZip .list (cCons (cVar 0) (cCons (cSl (cVar 0) (cPart (cC (.int 1))) (cNo)) (cNil))))
def tallyt2 : CS := cOwn 2 (cLst (cNil))
def tallyt3 : CS := cFor (cSeq (cCF gSorted (cCons (cVar 1) (cNil)))) (stN 3) tallyB
def tallyt4 : CS := cRet (cCB gTuple (cCons (cVar 2) (cNil)))
def cs_tally : CS := cSq tallyt1 (cSq tallyt2 (cSq tallyt3 (tallyt4)))
abbrev n_tally : List Str := ["_law_row_so", "_law_pairs_so", "_law_found", "_law_own"]
theorem tally_loop {e : EndsD} {x : D} {ps : List (Str × Str)} {n : Nat} (hg : ∀ p ∈ ps, GoodP p) : ∀ (qs d : List (Str × Str)) (t3 : Option Sl), (d ++ qs).Pairwise (fun a b => leP a b = true) → (∀ p ∈ d ++ qs, GoodP p) → (d ++ qs).length ≤ 60 →
    (∀ t3 : Option Sl, e.nx [some (.v x), some (.v (.list (ps.map tx))), some (.own (.list (trisD (tal ps (firsts (d ++ qs)))))), t3] n) →
    cForL (stN 3) tallyB (qs.map tx) [some (.v x), some (.v (.list (ps.map tx))), some (.own (.list (trisD (tal ps (firsts d))))), t3] n e
  | [], d, t3, _, _, _, q => by
    rw [List.append_nil] at q
    exact q t3
  | p :: qs, d, t3, hp, hgd, hl, q => by
    have e1 : d ++ p :: qs = (d ++ [p]) ++ qs := by rw [List.append_assoc]; rfl
    have gp : GoodP p := hgd p (by simp)
    have gd : ∀ z ∈ firsts d, GoodP z := fun z hz => hgd z (List.mem_append_left _ (mem_firsts.mp hz))
    have ld := firsts_len d
    rw [List.length_append, List.length_cons] at hl
    have next : ∀ t3 : Option Sl, cForL (stN 3) tallyB (qs.map tx) [some (.v x), some (.v (.list (ps.map tx))), some (.own (.list (trisD (tal ps (firsts (d ++ [p])))))), t3] n e := fun t3 =>
      tally_loop hg qs (d ++ [p]) t3 (by rw [← e1]; exact hp) (by rw [← e1]; exact hgd) (by rw [List.length_append, List.length_append, List.length_singleton]; omega) (by rw [← e1]; exact q)
    rw [firsts_snoc] at next
    have app : p ∉ d → cDrop (cApp 2 (cOp addD (cVar 3) (cTup (cCons (cCount (cVar 1) (cVar 3)) (cNil))))) [some (.v x), some (.v (.list (ps.map tx))), some (.own (.list (trisD (tal ps (firsts d))))), some (.v (tx p))] n { e with nx := fun ρ' n' => cForL (stN 3) tallyB (qs.map tx) ρ' n' e } := fun hn => by
      refine ⟨⟨_, rfl⟩, ⟨_, rfl⟩, _, rfl, ok_txs hg, (OkN.tx gp).ok (by decide), by show 1 ≤ lim; decide, .tuple [.str p.1, .str p.2, .int (cnt ps p)], rfl, trisD (tal ps (firsts d)), rfl, ?_, ?_⟩
      · unfold tal
        rw [tris_len2, List.length_map]
        unfold lim
        omega
      · have n2 := next (some (.v (tx p)))
        unfold putOne at n2
        rw [if_neg (fun z => hn (mem_firsts.mp z))] at n2
        unfold tal trisD at n2 ⊢
        rw [List.map_append, List.map_append] at n2
        exact n2
    refine ⟨_, rfl, ?_⟩
    refine ⟨rfl, by show 0 ≤ lim; decide, _, _, rfl, eqD_nil (tal_good gd), rfl, _, rfl, ?_⟩
    rcases List.eq_nil_or_concat d with rfl | ⟨d', y, ed⟩
    · exact app (by simp)
    · replace ed : d = d' ++ [y] := by rw [ed]; simp
      have hpd : (d' ++ [y]).Pairwise (fun a b => leP a b = true) := by
        rw [← ed]
        exact (List.pairwise_append.mp hp).1
      obtain ⟨r, hr⟩ := last_firsts d' y hpd
      rw [← ed] at hr
      have gy : GoodP y := gd y (by rw [hr]; simp)
      rw [show (tal ps (firsts d)).isEmpty = false by rw [hr]; unfold tal; simp]
      have hlast : atD (.list (trisD (tal ps (firsts d)))) (.int (-1)) = some (triD (y.1, y.2, cnt ps y)) := by
        rw [hr]
        unfold tal trisD
        rw [List.map_append, List.map_append]
        exact atI_lastD
      refine ⟨rfl, 1, rfl, _, _, rfl, hlast, 2, rfl, tx y, rfl, _, neD_tx gy gp, _, rfl, ?_⟩
      by_cases c : y = p
      · rw [decide_eq_true c]
        have hm : p ∈ firsts d := by rw [hr, ← c]; simp
        have n2 := next (some (.v (tx p)))
        unfold putOne at n2
        rw [if_pos hm] at n2
        exact n2
      · rw [decide_eq_false c]
        refine app fun hin => c ?_
        have h1 : leP y p = true := (List.pairwise_append.mp hp).2.2 y (by rw [ed]; simp) p (by simp)
        rw [ed] at hin
        rcases List.mem_append.mp hin with z | z
        · exact leP_anti h1 ((List.pairwise_append.mp hpd).2.2 p z y (by simp))
        · exact (List.mem_singleton.mp z).symm
def sdTally : SpD := fun ds n k _ => ∃ ss : List Str, ds = [.tuple (strD ss)] ∧ (∀ s ∈ ss, GoodS s) ∧ ss.length ≤ 60 ∧ k (.tuple (trisD (canon (stepT ss)))) n
theorem tal_canon (ss : List Str) : tal (pairsOf ss) (firsts ((pairsOf ss).mergeSort leP)) = canon (stepT ss) := by
  have hp : (stepT ss).map pr = pairsOf ss := by
    unfold stepT
    rw [List.map_map]
    exact List.map_id' _
  unfold canon tal
  rw [hp, firsts_sort]
  have hc : ∀ p, cnt (pairsOf ss) p = sumAt (stepT ss) p := fun p => cnt_sum p _
  have h0 : ∀ p ∈ (firsts (pairsOf ss)).mergeSort leP, decide (0 < sumAt (stepT ss) p) = true := fun p hpm => by
    rw [(List.mergeSort_perm _ _).mem_iff, mem_firsts] at hpm
    rw [← hc]
    unfold cnt
    refine decide_eq_true (Int.natCast_pos.mpr (List.countP_pos_iff.mpr ⟨tx p, List.mem_map_of_mem hpm, ?_⟩))
    rw [tx_eqv]
    exact decide_eq_true rfl
  rw [List.filter_eq_self.mpr h0]
  exact List.map_congr_left fun p _ => by rw [hc]
theorem himp_tally {e : EndsD} (ds : List D) (n : Nat) (k : D → Nat → Prop) (ke : Xv → Nat → Prop) (h : sdTally ds n k ke) (he : e.rt = k) : cs_tally (startE n_tally ds) n e := by
  obtain ⟨ss, rfl, hg, hl, q⟩ := h
  subst he
  have gp : ∀ p ∈ pairsOf ss, GoodP p := fun p hp => ⟨hg _ (pairs_mem hp).1, hg _ (pairs_mem hp).2⟩
  have pl := pairs_len ss
  refine ⟨1, rfl, _, rfl, _, _, .inl rfl, ?_⟩
  rw [cutL_tail, zip_pairs]
  refine ⟨by show 0 ≤ lim; decide, by show 2 < 4; decide, ?_⟩
  refine ⟨_, ⟨_, _, rfl, rfl, ?_, tx_alike _, tx_sortable _, fun d hd => ?_, rfl⟩, ?_⟩
  · exact (OkN.all (k := 1) fun d hd => by
      obtain ⟨p, hp, rfl⟩ := List.mem_map.mp hd
      exact OkN.tx (gp p hp)).1
  · obtain ⟨p, _, rfl⟩ := List.mem_map.mp hd
    show PyData.depth (tx p) ≤ 60
    simp [tx, PyData.depth, PyData.depthAll]
  rw [sort_tx']
  refine ⟨_, rfl, ?_⟩
  refine tally_loop (ps := pairsOf ss) gp ((pairsOf ss).mergeSort leP) [] none (by rw [List.nil_append]; exact PySem.W.sort_pairwise leP_total _) (fun p hp => gp p (by rw [List.nil_append] at hp; exact (List.mergeSort_perm _ _).mem_iff.mp hp)) (by rw [List.nil_append, List.length_mergeSort]; omega) fun t3 => ?_
  rw [List.nil_append, tal_canon]
  exact ⟨_, ⟨_, _, rfl, rfl, rfl⟩, q⟩
end RM
set_option maxHeartbeats 4000000
namespace RM
open PySem PySem.Spec PyProof.Rows L2 CS RZ
/-! ### k07: a journey drawn -/
theorem pairs_snoc : ∀ (r : List Str) (z y : Str), pairsOf (r ++ [z] ++ [y]) = pairsOf (r ++ [z]) ++ [(z, y)]
  | [], z, y => rfl
  | [a], z, y => rfl
  | a :: b :: r, z, y => by
    have ih := pairs_snoc (b :: r) z y
    show (a, b) :: pairsOf (b :: r ++ [z] ++ [y]) = (a, b) :: (pairsOf (b :: r ++ [z])) ++ [(z, y)]
    rw [ih]
    rfl
theorem pairs_snoc2 (r : List Str) (y z : Str) : (y, z) ∈ pairsOf (r ++ [y] ++ [z]) := by
  rw [pairs_snoc]
  simp
structure Wk (ss row : List Str) (a z : Str) : Prop where
  hd : ∃ w, row = a :: w
  tl : ∃ r, row = r ++ [z]
  ins : ∀ s ∈ row, s ∈ ss
  ch : ∀ p ∈ pairsOf row, p.1 ≠ p.2
theorem Wk.snoc {ss row : List Str} {a z y : Str} (w : Wk ss row a z) (hy : y ∈ ss) (hne : y ≠ z) : Wk ss (row ++ [y]) a y := by
  obtain ⟨⟨w', e1⟩, ⟨r, e2⟩, h3, h4⟩ := w
  refine ⟨⟨w' ++ [y], by rw [e1]; rfl⟩, ⟨row, rfl⟩, fun s hs => (List.mem_append.mp hs).elim (h3 s) fun h => by rw [List.mem_singleton.mp h]; exact hy, fun p hp => ?_⟩
  rw [e2, pairs_snoc] at hp
  rcases List.mem_append.mp hp with hp | hp
  · exact h4 p (by rw [e2]; exact hp)
  · rw [List.mem_singleton.mp hp]
    exact hne.symm
def walkt1 : CS := cOwn 3 (cLst (cCons (cCall sdOf (cCons (cVar 0) (cCons (cVar 1) (cNil)))) (cNil)))
def walk1 : CS := cOwn 5 (cLc (cSeq (cVar 1)) (stN 7) (cB (cOp neD (cVar 7) (cIxQ (.nm 3) (cNeg (cC (.int 1)))))) (cVar 7) [7])
def walk2 : CS := cSet 6 (cAndV (cOp gtD (cCBQ gLen (.nm 3)) (cC (.int 1))) (cOp eqD (cCall sdTake (cCons (cVar 0) (cCons (cC (.int 3)) (cNil)))) (cC (.int 0))))
def walk3 : CS := cDrop (cApp 3 (cIf (cB (cVar 6)) (cIxQ (.nm 3) (cNeg (cC (.int 2)))) (cCall sdOf (cCons (cVar 0) (cCons (cVar 5) (cNil))))))
def walkBody : CS := cSq walk1 (cSq walk2 (walk3))
def walkt2 : CS := cFor (cRange1 (cCons (cCall sdTake (cCons (cVar 0) (cCons (cOp addD (cVar 2) (cC (.int 1))) (cNil)))) (cNil))) (stN 4) walkBody
def walkt3 : CS := cIfS (cAndT (cB (cOp neD (cIxQ (.nm 3) (cNeg (cC (.int 1)))) (cIxQ (.nm 3) (cC (.int 0))))) (cAndT (cB (cOp leD (cCBQ gLen (.nm 3)) (cVar 2))) (cB (cOp eqD (cCall sdTake (cCons (cVar 0) (cCons (cC (.int 3)) (cNil)))) (cC (.int 0)))))) (cDrop (cApp 3 (cIxQ (.nm 3) (cC (.int 0))))) (cNext)
def walkt4 : CS := cRet (cCB gTuple (cCons (cVar 3) (cNil)))
def cs_walk : CS := cSq walkt1 (cSq walkt2 (cSq walkt3 (walkt4)))
abbrev n_walk : List Str := ["_law_box_here", "_law_tags_here", "_law_most_so", "_law_row_so", "_law_turn", "_law_near", "_law_back_so", "_law_tag"]
abbrev fw (ss row : List Str) (most : Int) (t4 t5 t6 : Option Sl) : En := [some (.v boxD), some (.v (.list (strD ss))), some (.v (.int most)), some (.own (.list (strD row))), t4, t5, t6, none]
def nearF (z : Str) : D → Option D
  | .str s => if s ≠ z then some (.str s) else none
  | _ => none
theorem nearF_str (z s : Str) : nearF z (.str s) = if s ≠ z then some (.str s) else none := rfl
theorem nearF_all (z : Str) : ∀ ss : List Str, (strD ss).filterMap (nearF z) = strD (ss.filter fun s => s ≠ z)
  | [] => rfl
  | s :: ss => by
    have ih := nearF_all z ss
    unfold strD at ih ⊢
    rw [List.map_cons, List.filterMap_cons, nearF_str, ih, List.filter_cons]
    by_cases c : s = z
    · rw [if_neg (by simpa using c), if_neg (by simpa using c)]
    · rw [if_pos c, if_pos (by simpa using c)]
      rfl
theorem near_some {ss : List Str} (hn : ss.Nodup) (h2 : 2 ≤ ss.length) (z : Str) : 0 < (ss.filter fun s => s ≠ z).length := by
  match ss, hn, h2 with
  | a :: b :: r, hn, _ =>
    rw [List.nodup_cons] at hn
    have hab : a ≠ b := fun e => hn.1 (by rw [e]; simp)
    refine List.length_pos_of_mem (a := if a = z then b else a) (List.mem_filter.mpr ?_)
    by_cases c : a = z
    · rw [if_pos c]
      exact ⟨by simp, by rw [← c]; simpa using hab.symm⟩
    · rw [if_neg c]
      exact ⟨by simp, by simpa using c⟩
  | [a], _, h => simp at h
  | [], _, h => simp at h
theorem last2 {r : List Str} {y z : Str} : atD (.list (strD (r ++ [y] ++ [z]))) (.int (-2)) = some (.str y) := by
  show atI (strD (r ++ [y] ++ [z])) (-2) = _
  unfold atI ixN strD
  rw [if_neg (by decide), List.length_map, List.length_append, List.length_append, List.length_singleton, List.length_singleton, if_pos (by omega)]
  rw [show (-2 + ((r.length + 1 + 1 : Nat) : Int)).toNat = (List.map PyData.str r).length by rw [List.length_map]; omega, List.map_append, List.map_append, List.append_assoc]
  simp
section
variable {e : EndsD} {n : Nat} {ss row : List Str} {most : Int} {t4 t5 t6 : Option Sl}
theorem walkBody_ok {a z : Str} (hn : ss.Nodup) (h2 : 2 ≤ ss.length) (h8 : ss.length ≤ 8) (hg : ∀ s ∈ ss, GoodS s) (hN : n ≤ 800000) (hl : row.length ≤ 900) (w : Wk ss row a z)
    (q : ∀ (y : Str) (t5 t6 : Option Sl) (n' : Nat), Wk ss (row ++ [y]) a y → n' ≤ n + 2 → e.nx (fw ss (row ++ [y]) most t4 t5 t6) n') : walkBody (fw ss row most t4 t5 t6) n e := by
  have gz : GoodS z := by
    obtain ⟨r, er⟩ := w.tl
    exact hg z (w.ins z (by rw [er]; simp))
  have zl : atD (.list (strD row)) (.int (-1)) = some (.str z) := by
    obtain ⟨r, er⟩ := w.tl
    rw [er]
    exact atI_last
  have ll : (strD row).length = row.length := strD_len row
  refine ⟨strD ss, rfl, ?_⟩
  show cLcL _ _ _ _ _ (fw ss row most t4 t5 t6) n [] _
  refine lcL_run (nearF z) _ [] (fun d hd => ?_) (by rw [strD_len, List.length_nil]; unfold lim; omega) ?_
  · obtain ⟨s, hs, rfl⟩ := List.mem_map.mp hd
    refine ⟨_, rfl, rfl, fun K1 hK => ⟨rfl, 1, rfl, _, _, rfl, zl, _, neD_str (hg s hs) gz, _, rfl, ?_⟩, fun y hy K2 hK => ?_⟩
    · rw [nearF_str] at hK
      by_cases c : s = z
      · rw [if_neg (by simpa using c)] at hK
        rw [decide_eq_true c]
        exact hK
      · rw [if_pos c] at hK
        rw [decide_eq_false c]
        exact hK
    · rw [nearF_str] at hy
      have ey := (ifs hy).2
      subst ey
      exact hK
  rw [List.nil_append, nearF_all]
  refine ⟨by show 5 < 8; decide, ?_⟩
  have away : ∀ (n1 : Nat) (t6 : Option Sl), t6 = some (.v (.bool false)) → n1 ≤ n + 1 → walk3 [some (.v boxD), some (.v (.list (strD ss))), some (.v (.int most)), some (.own (.list (strD row))), t4, some (.own (.list (strD (ss.filter fun s => s ≠ z)))), t6, none] n1 e := fun n1 t6 e6 hn1 => by
    subst e6
    have l0 := near_some hn h2 z
    have l1 := List.length_filter_le (fun s => decide (s ≠ z)) ss
    refine ⟨⟨_, rfl⟩, false, rfl, ?_⟩
    refine ⟨.list (strD (ss.filter fun s => s ≠ z)), strD (ss.filter fun s => s ≠ z), rfl, rfl, by omega, by rw [strD_len]; exact l0, by rw [strD_len]; omega, fun d hd => ?_⟩
    obtain ⟨y, hy, rfl⟩ := List.mem_map.mp hd
    have hyf := List.mem_filter.mp hy
    refine ⟨strD row, rfl, by rw [ll]; unfold lim; omega, ?_⟩
    have e1 : strD row ++ [PyData.str y] = strD (row ++ [y]) := by
      unfold strD
      rw [List.map_append]
      rfl
    rw [e1]
    exact q y _ _ _ (w.snoc hyf.1 (by simpa using hyf.2)) (by omega)
  refine ⟨rfl, .list (strD row), .int (strD row).length, rfl, ⟨_, _, rfl, rfl, rfl⟩, rfl, .bool (decide (1 < ((strD row).length : Int))), rfl, _, rfl, ?_⟩
  by_cases c : 1 < ((strD row).length : Int)
  · rw [decide_eq_true c, if_pos rfl]
    refine ⟨3, rfl, by omega, by decide, by decide, fun r r0 r1 => ⟨.bool (r == 0), rfl, ?_⟩⟩
    cases cr : r == 0 with
    | false => exact away (n + 1) _ rfl (Nat.le_refl _)
    | true =>
      obtain ⟨r', er⟩ := w.tl
      obtain ⟨r2, y, e2⟩ : ∃ r2 y, r' = r2 ++ [y] := by
        rcases List.eq_nil_or_concat r' with e | ⟨r2, y, e⟩
        · rw [ll, er, e] at c
          simp at c
        · exact ⟨r2, y, by rw [e]; simp⟩
      have e3 : row = r2 ++ [y] ++ [z] := by rw [er, e2]
      have hyz : y ≠ z := w.ch (y, z) (by rw [e3]; exact pairs_snoc2 r2 y z)
      have hys : y ∈ ss := w.ins y (by rw [e3]; simp)
      refine ⟨⟨_, rfl⟩, true, rfl, ?_⟩
      refine ⟨rfl, 2, rfl, _, .str y, rfl, by rw [e3]; exact last2, strD row, rfl, by rw [ll]; unfold lim; omega, ?_⟩
      have e1 : strD row ++ [PyData.str y] = strD (row ++ [y]) := by
        unfold strD
        rw [List.map_append]
        rfl
      rw [e1]
      exact q y _ _ _ (w.snoc hys hyz) (by omega)
  · rw [decide_eq_false c, if_neg (by simp)]
    exact away n _ rfl (by omega)
end
theorem walk_loop {e : EndsD} {ss : List Str} {most : Int} {a : Str} (hn : ss.Nodup) (h2 : 2 ≤ ss.length) (h8 : ss.length ≤ 8) (hg : ∀ s ∈ ss, GoodS s) : ∀ (turns : List D) (row : List Str) (z : Str) (t4 t5 t6 : Option Sl) (n : Nat), n + 2 * turns.length ≤ 800000 → row.length + turns.length ≤ 100 → Wk ss row a z →
    (∀ (row' : List Str) (z : Str) (t4 t5 t6 : Option Sl) (n' : Nat), Wk ss row' a z → row'.length = row.length + turns.length → n' ≤ n + 2 * turns.length → e.nx (fw ss row' most t4 t5 t6) n') →
    cForL (stN 4) walkBody turns (fw ss row most t4 t5 t6) n e
  | [], row, z, t4, t5, t6, n, _, _, w, q => q row z t4 t5 t6 n w rfl (by omega)
  | d :: turns, row, z, t4, t5, t6, n, h, hl, w, q => by
    rw [List.length_cons] at h hl q
    refine ⟨_, rfl, ?_⟩
    refine walkBody_ok hn h2 h8 hg (by omega) (by omega) w fun y t5 t6 n' w' hn' => ?_
    refine walk_loop hn h2 h8 hg turns (row ++ [y]) y _ _ _ n' (by omega) (by rw [List.length_append, List.length_singleton]; omega) w' fun row' z t4 t5 t6 n2 w2 l2 h3 => q row' z t4 t5 t6 n2 w2 (by rw [l2, List.length_append, List.length_singleton]; omega) (by omega)
end RM
namespace RM
open PySem PySem.Spec PyProof.Rows L2 CS RZ
/-! ### sums over what is counted -/
theorem at_mid {xs ys : List Str} {s : Str} : atI (strD (xs ++ s :: ys)) (xs.length : Nat) = some (.str s) := by
  unfold atI ixN
  rw [if_pos (by omega), if_pos (by rw [strD_len, List.length_append, List.length_cons]; omega)]
  unfold strD
  simp
end RM
set_option maxHeartbeats 4000000
namespace RM
open PySem PySem.Spec PyProof.Rows L2 CS RZ
/-! ### k07, drawn -/
abbrev f7 (t1 t2 t3 t4 t5 t6 t7 t8 t9 t10 t11 t12 t13 t14 : Option Sl) : En := [some (.v boxD), t1, t2, t3, t4, t5, t6, t7, t8, t9, t10, t11, t12, t13, t14]
theorem jn_of {ss row : List Str} {a z : Str} (w : Wk ss row a z) (hg : ∀ s ∈ ss, GoodS s) (hl : row.length ≤ 60) : Jn row := ⟨fun s hs => hg s (w.ins s hs), w.ch, hl⟩
end RM
set_option maxHeartbeats 4000000
namespace RM
open PySem PySem.Spec PyProof.Rows L2 CS RZ
end RM
set_option maxHeartbeats 4000000
namespace RM
open PySem PySem.Spec PyProof.Rows L2 CS RZ
/-! ### k07 by hand -/
end RM
namespace RM
open PySem PySem.Spec PyProof.Rows L2 CS RZ
/-! ### texts put together -/
end RM
namespace RM
open PySem PySem.Spec PyProof.Rows L2 CS RZ
/-! ### C(k2 = .., k1 = ..): an own class made by names, the last parameter first; C.m(k = ..), m a staticmethod -/
theorem vals_rev : ∀ {vs : List V} {us : List Value}, Vals vs us → Vals vs.reverse us.reverse
  | _, _, .nil => .nil
  | _, _, .cons h r => by
    rw [List.reverse_cons, List.reverse_cons]
    exact (vals_rev r).append (.cons h .nil)
end RM
namespace RM
open PySem PySem.Spec PyProof.Rows L2 CS RZ
/-! ### what has no list in it stays, whatever lists change -/
section
variable {X : Cx} {g : Glob} {xk : WX} {C : Ctx} {ρ : En} {n : Nat} {σ : L2.St} {H H' : Hp} {O : Ow}
/-! ### a call whose lists are all new -/
def noOwn (ρ : En) : Prop := ∀ (i : Nat) (d : D), ρ[i]? ≠ some (some (Sl.own d))
theorem noOwn.set {i : Nat} {x : Option Sl} (h : noOwn ρ) (hx : ∀ d, x ≠ some (Sl.own d)) : noOwn (ρ.set i x) := fun j d e => by
  by_cases c : j = i
  · subst c
    have hl := lt_of_get e
    rw [List.length_set] at hl
    rw [List.getElem?_set_self hl] at e
    cases e
    exact hx d rfl
  · rw [List.getElem?_set_ne (Ne.symm c)] at e
    exact h j d e
theorem Ev.none (E : Ev C ρ n σ H O) (no : noOwn ρ) (i : Nat) : O i = none := by
  cases h : O i with
  | none => rfl
  | some p =>
    obtain ⟨⟨d, e⟩, _⟩ := E.only i p h
    exact (no i d e).elim
end
end RM
namespace RM
open PySem PySem.Spec PyProof.Rows L2 CS RZ
/-! ### new lists in a new list: told to a call, then changed -/
def rowV (t : Str × Str × Int) : List V := [.str t.1, .str t.2.1, .int t.2.2]
section
variable {X : Cx} {g : Glob} {xk : WX} {C : Ctx} {ρ : En} {n : Nat} {σ : L2.St} {H : Hp} {O : Ow} {pos : Pos}
def Ctx.one (T : Tab) (H : Hp) (a : Addr) : Ctx where
  T := { T with bx := none }
  Z := fun _ => False
  H0 := fun b => if b = a then none else H b
/-- the rows at us, in the list at p: as they were told, but for their numbers; all else is kept -/
structure RowsAt (H2 : Hp) (p : Addr) (us : List V) (H : Hp) : Prop where
  oth : ∀ b o, H2 b = some o → ¬ (b = p ∨ V.ref b ∈ us) → H b = some o
  top : H p = some (.lst us)
  rows : ∀ u ∈ us, ∃ a t, u = .ref a ∧ H a = some (.lst (rowV t))
theorem RowsAt.ne {H2 : Hp} {p : Addr} {us : List V} (R : RowsAt H2 p us H) {a : Addr} {t : Str × Str × Int} (ha : H a = some (.lst (rowV t))) : p ≠ a := fun e => by
  subst e
  rw [R.top] at ha
  cases ha
  obtain ⟨a, t, e, _⟩ := R.rows (.str t.1) (List.mem_cons_self ..)
  cases e
end
end RM
namespace RM
open PySem PySem.Spec PyProof.Rows L2 CS RZ
end RM
namespace RM
open PySem PySem.Spec PyProof.Rows L2 CS RZ
/-! ### k04: Counts as a text -/
/-! ### sums of what leads out of a place and into it -/
end RM
namespace RM
open PySem PySem.Spec PyProof.Rows L2 CS RZ
/-! ### k04: what is told -/
/-! texts already in order -/
theorem plains_strs (zs : List Str) : plains (strD zs) = true := by
  unfold strD
  induction zs with
  | nil => rfl
  | cons z zs ih =>
    rw [List.map_cons]
    show (true && plains (zs.map PyData.str)) = true
    rw [ih]
    rfl
end RM
namespace RM
open PySem PySem.Spec PyProof.Rows L2 CS RZ
/-! ### k04: what is due -/
end RM
namespace RM
open PySem PySem.Spec PyProof.Rows L2 CS RZ
/-! ### k04: a drawn case -/
abbrev f4 (s : Str) (l L : List Tri) (tags : List Str) (due t6 t9 t10 : Option Sl) : En := [some (.v (.str s)), some (.v (.tuple (trisD l))), some (.v (.list (strD tags))), none, none, due, t6, some (.v (cntD s L)), some (.v (.tuple (trisD L))), t9, t10]
end RM
namespace RM
open PySem PySem.Spec PyProof.Rows L2 CS RZ
end RM
namespace RM
open PySem PySem.Spec PyProof.Rows L2 CS RZ
/-! ### k04: a drawn turn -/
section
variable {e : EndsD} {n : Nat} {t1 t2 t3 t4 : Option Sl}
theorem pairs_both : ∀ (ss : List Str) (p : Str × Str), p ∈ pairsOf ss → p.1 ∈ ss ∧ p.2 ∈ ss
  | [], p, h => by cases h
  | [a], p, h => by cases h
  | a :: b :: r, p, h => by
    rcases List.mem_cons.mp h with rfl | h
    · exact ⟨List.mem_cons_self .., List.mem_cons_of_mem _ (List.mem_cons_self ..)⟩
    · have := pairs_both (b :: r) p h
      exact ⟨List.mem_cons_of_mem _ this.1, List.mem_cons_of_mem _ this.2⟩
end
end RM
namespace RM
open PySem PySem.Spec PyProof.Rows L2 CS RZ
/-! ### k04 by hand -/
end RM
namespace RM
open PySem PySem.Spec PyProof.Rows L2 CS RZ
/-! ### f(k = e): a def called by a name alone -/
end RM
namespace RM
open PySem PySem.Spec PyProof.Rows L2 CS RZ
/-! ### raise C(): an own error that keeps nothing -/
end RM
namespace RM
open PySem PySem.Spec PyProof.Rows L2 CS RZ
/-! ### what hangs together: labels against lots -/
def relab (f : Str → Str) (p : Str × Str) : Str → Str := fun y => if f y = f p.1 then f p.2 else f y
def clsOf (ys : List Str) (f : Str → Str) (h : Str) : List Str := ys.filter fun y => f y = h
structure Lab (ys : List Str) (f : Str → Str) : Prop where
  mem : ∀ y ∈ ys, f y ∈ ys
  idem : ∀ y ∈ ys, f (f y) = f y
section
variable {ys : List Str} {f : Str → Str} {a b : Str} {L : List (List Str)}
theorem Lab.step (h : Lab ys f) (ha : a ∈ ys) (hb : b ∈ ys) : Lab ys (relab f (a, b)) where
  mem := fun y hy => by
    unfold relab
    split
    · exact h.mem b hb
    · exact h.mem y hy
  idem := fun y hy => by
    unfold relab
    show (if f (if f y = f a then f b else f y) = f a then f b else f (if f y = f a then f b else f y)) = if f y = f a then f b else f y
    by_cases c : f y = f a
    · rw [if_pos c, h.idem b hb]
      split <;> rfl
    · rw [if_neg c, h.idem y hy, if_neg c]
theorem Lab.all : ∀ (ts : List (Str × Str)) (f : Str → Str), Lab ys f → (∀ p ∈ ts, p.1 ∈ ys ∧ p.2 ∈ ys) → Lab ys (ts.foldl relab f)
  | [], f, h, _ => h
  | p :: ts, f, h, hp => Lab.all ts _ (h.step (hp p (List.mem_cons_self ..)).1 (hp p (List.mem_cons_self ..)).2) fun q hq => hp q (List.mem_cons_of_mem _ hq)
theorem mem_cls {h y : Str} : y ∈ clsOf ys f h ↔ y ∈ ys ∧ f y = h := by
  unfold clsOf
  rw [List.mem_filter, decide_eq_true_iff]
theorem nodup_one {α : Type} {l : List α} {A : α} (hn : l.Nodup) (hm : ∀ w, w ∈ l ↔ w = A) : l = [A] := by
  have p : l.Perm [A] := (List.perm_ext_iff_of_nodup hn (by simp)).mpr fun w => by rw [hm w, List.mem_singleton]
  exact List.perm_singleton.mp p
end
end RM
namespace RM
open PySem PySem.Spec PyProof.Rows L2 CS RZ
/-! ### rows of texts in order -/
def rowT (z : List Str) : D := .tuple (strD z)
def leR (a b : List Str) : Bool := leD' (rowT a) (rowT b)
theorem leR_total : PySem.W.TotalLe leR := PySem.W.sortLe_total (listOrd itemOrd) false fun b => PySem.W.keyToks (rowT b)
def ltR (a b : List Str) : Bool := PySem.W.rowLt (strD a) (strD b)
theorem leR_eq (a b : List Str) : leR a b = !ltR b a := by
  show (!PySem.W.dataLt (.tuple (strD b)) (.tuple (strD a))) = _
  rw [PySem.W.dataLt_tuple]
  rfl
theorem ltR_cons (x y : Str) (xs ys : List Str) : ltR (x :: xs) (y :: ys) = if x = y then ltR xs ys else decide (x.cps.toList < y.cps.toList) := by
  have al : PySem.W.alike (.str x) (.str y) = true := by simp [PySem.W.alike]
  show PyProof.Rows.lexLt itemOrd (PySem.W.keyToksAll (.str x :: strD xs)) (PySem.W.keyToksAll (.str y :: strD ys)) = _
  rw [PySem.W.dataLt_cons al, RM.eqv_str, PySem.W.dataLt_str]
  by_cases c : x = y
  · rw [if_pos (decide_eq_true c), if_pos c]
    rfl
  · rw [if_neg (by simpa using c), if_neg c]
theorem ltR_nil (y : Str) (ys : List Str) : ltR [] (y :: ys) = true := by
  show PyProof.Rows.lexLt itemOrd (PySem.W.keyToksAll []) (PySem.W.keyToksAll (.str y :: strD ys)) = true
  rw [PySem.W.toks_all_cons, PySem.W.keyToksAll]
  exact (lex_diff (O := itemOrd) (by decide)).trans rfl
theorem leR_head {x y : Str} {xs ys : List Str} (h : leR (x :: xs) (y :: ys) = true) : leS x y := by
  rw [leR_eq, ltR_cons] at h
  by_cases c : y = x
  · rw [c]
    exact List.le_refl _
  · rw [if_neg c] at h
    have : ¬ (y.cps.toList < x.cps.toList) := by simpa using h
    exact List.not_lt.mp this
theorem leR_anti : ∀ {a b : List Str}, leR a b = true → leR b a = true → a = b
  | [], [], _, _ => rfl
  | [], y :: ys, _, h => by
    rw [leR_eq, ltR_nil] at h
    cases h
  | x :: xs, [], h, _ => by
    rw [leR_eq, ltR_nil] at h
    cases h
  | x :: xs, y :: ys, h, h' => by
    have e : x = y := leS_anti (leR_head h) (leR_head h')
    subst e
    rw [leR_eq, ltR_cons, if_pos rfl, ← leR_eq] at h h'
    rw [leR_anti h h']
theorem sortR_perm {l m : List (List Str)} (h : l.Perm m) : l.mergeSort leR = m.mergeSort leR :=
  List.Perm.eq_of_pairwise (fun a b _ _ x y => leR_anti x y) (PySem.W.sort_pairwise leR_total l) (PySem.W.sort_pairwise leR_total m) (((List.mergeSort_perm l leR).trans h).trans (List.mergeSort_perm m leR).symm)
theorem sort_rowT (l : List (List Str)) : (l.map rowT).mergeSort leD' = (l.mergeSort leR).map rowT := (PySem.W.sort_maps (r := leR) rowT fun _ _ _ _ => rfl).symm
/-! ### the least place apart from a place -/
end RM
namespace RM
open PySem PySem.Spec PyProof.Rows L2 CS RZ
/-! ### the places of a Counts, in order -/
def leSb (a b : Str) : Bool := leD' (.str a) (.str b)
def spotsAcc (L : List Tri) (ns : List Str) : List Str := L.foldl (fun ns t => putS (putS ns t.1) t.2.1) ns
def placesL (s : Str) (L : List Tri) : List Str := (spotsAcc L [s]).mergeSort leSb
theorem acc_ok : ∀ (L : List Tri) (ns : List Str), (ns.Nodup → (spotsAcc L ns).Nodup) ∧ (∀ p, p ∈ spotsAcc L ns ↔ p ∈ ns ∨ ends L p) ∧ (spotsAcc L ns).length ≤ ns.length + 2 * L.length
  | [], ns => ⟨id, fun p => ⟨.inl, fun h => h.elim id fun ⟨t, z, _⟩ => (List.not_mem_nil z).elim⟩, by simp [spotsAcc]⟩
  | t :: L, ns => by
    obtain ⟨h1, h2, h3⟩ := acc_ok L (putS (putS ns t.1) t.2.1)
    have a1 := len_putS ns t.1
    have a2 := len_putS (putS ns t.1) t.2.1
    refine ⟨fun h => h1 (nodup_putS (nodup_putS h)), fun p => ?_, by rw [List.length_cons]; exact Nat.le_trans h3 (by omega)⟩
    show p ∈ spotsAcc L (putS (putS ns t.1) t.2.1) ↔ _
    rw [h2 p, mem_putS, mem_putS]
    constructor
    · rintro (((h | rfl) | rfl) | ⟨u, hu, e⟩)
      · exact .inl h
      · exact .inr ⟨t, List.mem_cons_self .., .inl rfl⟩
      · exact .inr ⟨t, List.mem_cons_self .., .inr rfl⟩
      · exact .inr ⟨u, List.mem_cons_of_mem _ hu, e⟩
    · rintro (h | ⟨u, hu, e⟩)
      · exact .inl (.inl (.inl h))
      · rcases List.mem_cons.mp hu with rfl | hu
        · rcases e with rfl | rfl
          · exact .inl (.inl (.inr rfl))
          · exact .inl (.inr rfl)
        · exact .inr ⟨u, hu, e⟩
section
variable {s : Str} {L : List Tri}
theorem places_nd : (placesL s L).Nodup := (List.mergeSort_perm _ _).nodup_iff.mpr ((acc_ok L [s]).1 (by simp))
theorem places_mem (p : Str) : p ∈ placesL s L ↔ p = s ∨ ends L p := by
  show p ∈ (spotsAcc L [s]).mergeSort leSb ↔ _
  rw [(List.mergeSort_perm _ _).mem_iff, (acc_ok L [s]).2.1, List.mem_singleton]
end
/-! ### dicts with text keys and any values -/
/-! ### pieces_of -/
end RM
namespace RM
open PySem PySem.Spec PyProof.Rows L2 CS RZ
/-! ### k09: the program's side -/
theorem map_run {α : Type} {cg : CG} {tt : CT} {te : CE} {vs : List Nat} {ρ0 : En} {n : Nat} (enc : α → D) (p : α → Bool) (v : α → D) {k : List D → En → Nat → Prop} : ∀ (l : List α) (acc : List D),
    (∀ a ∈ l, ∃ ρ1, cg (enc a) ρ0 = some ρ1 ∧ wipeE ρ1 vs = ρ0 ∧ (∀ K1 : Bool → En → Nat → Prop, K1 (p a) ρ1 n → tt ρ1 n K1 kF) ∧ ∀ K2 : D → En → Nat → Prop, K2 (v a) ρ1 n → te ρ1 n K2 kF) →
    acc.length + l.length ≤ lim → k (acc ++ (l.filter p).map v) ρ0 n → cLcL cg tt te vs (l.map enc) ρ0 n acc k
  | [], acc, _, _, q => by simpa [cLcL] using q
  | a :: l, acc, h, hl, q => by
    obtain ⟨ρ1, h1, h2, h3, h4⟩ := h a (List.mem_cons_self ..)
    rw [List.length_cons] at hl
    refine ⟨ρ1, h1, h3 _ ?_⟩
    rw [List.filter_cons] at q
    cases c : p a with
    | true =>
      rw [c, if_pos rfl] at q
      refine h4 _ ⟨by omega, ?_⟩
      rw [h2]
      refine map_run enc p v l (acc ++ [v a]) (fun z hz => h z (List.mem_cons_of_mem _ hz)) (by rw [List.length_append, List.length_singleton]; omega) ?_
      rw [List.append_assoc]
      exact q
    | false =>
      rw [c, if_neg (by decide)] at q
      show cLcL cg tt te vs (l.map enc) (wipeE ρ1 vs) n acc k
      rw [h2]
      exact map_run enc p v l acc (fun z hz => h z (List.mem_cons_of_mem _ hz)) (by omega) q
theorem filter_true {α : Type} (l : List α) : l.filter (fun _ => true) = l := List.filter_eq_self.mpr fun _ _ => rfl
theorem alikeAll_strs : ∀ a b : List Str, PySem.W.alikeAll (strD a) (strD b) = true
  | [], _ => by simp [strD, PySem.W.alikeAll]
  | _ :: _, [] => by simp [strD, PySem.W.alikeAll]
  | x :: a, y :: b => by
    have := alikeAll_strs a b
    simp only [strD] at this
    simp [strD, PySem.W.alikeAll, PySem.W.alike, this]
theorem depthAll_strs : ∀ a : List Str, PyData.depthAll (strD a) ≤ 1
  | [] => by simp [strD, PyData.depthAll]
  | x :: a => by
    have := depthAll_strs a
    simp only [strD] at this
    simp only [strD, List.map_cons, PyData.depthAll, PyData.depth]
    omega
theorem rowT_depth (z : List Str) : (rowT z).depth ≤ 60 := by
  have := depthAll_strs z
  simp only [rowT, PyData.depth]
  omega
theorem rows_plain : ∀ l : List (List Str), plains (l.map rowT) = true
  | [] => rfl
  | z :: l => by
    show (plain (rowT z) && plains (l.map rowT)) = true
    rw [rows_plain l]
    show (plains (strD z) && true) = true
    rw [plains_strs]
    rfl
theorem rows_alike (l : List (List Str)) : PySem.W.AllAlike (l.map rowT) := fun d hd d' hd' => by
  obtain ⟨a, _, rfl⟩ := List.mem_map.mp hd
  obtain ⟨b, _, rfl⟩ := List.mem_map.mp hd'
  show PySem.W.alikeAll (strD a) (strD b) = true
  exact alikeAll_strs a b
theorem rows_sortable {l : List (List Str)} (h : ∀ z ∈ l, z ≠ []) : PySem.W.Sortable (l.map rowT) := .inl fun d hd => by
  obtain ⟨a, ha, rfl⟩ := List.mem_map.mp hd
  cases a with
  | nil => exact (h _ ha rfl).elim
  | cons x a => exact ⟨_, _, rfl⟩
theorem sorted_rows {x : D} {l : List (List Str)} (hx : seqD x = some (l.map rowT)) (h : ∀ z ∈ l, z ≠ []) : gSorted [x] ((l.mergeSort leR).map rowT) :=
  ⟨x, _, rfl, hx, rows_plain l, rows_alike l, rows_sortable h, fun d hd => by obtain ⟨a, _, rfl⟩ := List.mem_map.mp hd; exact rowT_depth a, (sort_rowT l).symm⟩
/-! ### pieces, why_none, is_had, need, end_of, turned_counts -/
structure Pc (s : Str) (L : List Tri) : Prop where
  cn : Cn L
  gs : GoodS s
  ll : L.length ≤ 30
  nn : ∀ p ∈ placesL s L, p ≠ "none"
abbrev labL (L : List Tri) : Str → Str := (L.map pr).foldl relab id
section
variable {s : Str} {L : List Tri}
theorem Pc.gp (c : Pc s L) : ∀ y ∈ placesL s L, GoodS y := fun y hy => by
  rcases (places_mem y).mp hy with rfl | ⟨t, ht, rfl | rfl⟩
  · exact c.gs
  · exact (c.cn.g t ht).1
  · exact (c.cn.g t ht).2
theorem ties_in : ∀ p ∈ L.map pr, p.1 ∈ placesL s L ∧ p.2 ∈ placesL s L := fun p hp => by
  obtain ⟨t, ht, rfl⟩ := List.mem_map.mp hp
  exact ⟨(places_mem _).mpr (.inr ⟨t, ht, .inl rfl⟩), (places_mem _).mpr (.inr ⟨t, ht, .inr rfl⟩)⟩
theorem start_in : s ∈ placesL s L := (places_mem s).mpr (.inl rfl)
def oversL (s : Str) (L : List Tri) : List Str := (placesL s L).filter fun p => over L p ≠ 0
def badN (s p : Str) (i : Int) : Bool := decide (i < -1) || (decide (1 < i) || (decide (0 < i) && !decide (p = s)))
def farL (s : Str) (L : List Tri) : List Str := (placesL s L).filter fun y => decide (y ∉ clsOf (placesL s L) (labL L) (labL L s))
def whyD (s : Str) (L : List Tri) : D := match (oversL s L).find? fun p => badN s p (over L p) with
  | some p => .tuple [.str "surplus", .str p]
  | none => match (farL s L).head? with
    | some p => .tuple [.str "apart", .str p]
    | none => .none
def hadL (s : Str) (L : List Tri) : Bool := noneB (whyD s L)
def endS (s : Str) (L : List Tri) : Str := ((oversL s L).find? fun p => decide (over L p < 0)).getD s
theorem over_none {p : Str} (h : ¬ ends L p) : over L p = 0 := by
  unfold over
  rw [List.filter_eq_nil_iff.mpr, List.filter_eq_nil_iff.mpr]
  · rfl
  · intro t ht
    simp only [decide_eq_true_eq]
    exact fun z => h ⟨t, ht, .inr z⟩
  · intro t ht
    simp only [decide_eq_true_eq]
    exact fun z => h ⟨t, ht, .inl z⟩
def turnT (t : Tri) : Tri := (t.2.1, t.1, t.2.2)
end
end RM
namespace RM
open PySem PySem.Spec PyProof.Rows L2 CS RZ
/-! ### k09: the law's side -/
theorem eqvAll_strs : ∀ a b : List Str, PyData.eqvAll (strD a) (strD b) = decide (a = b)
  | [], [] => by simp [strD, PyData.eqvAll]
  | [], _ :: _ => by simp [strD, PyData.eqvAll]
  | _ :: _, [] => by simp [strD, PyData.eqvAll]
  | x :: a, y :: b => by
    have ih := eqvAll_strs a b
    simp only [strD] at ih
    show (PyData.eqv (.str x) (.str y) && PyData.eqvAll (a.map PyData.str) (b.map PyData.str)) = _
    rw [RM.eqv_str, ih]
    by_cases h1 : x = y
    · by_cases h2 : a = b
      · simp [h1, h2]
      · simp [h1, h2]
    · simp [h1]
end RM
namespace RM
open PySem PySem.Spec PyProof.Rows L2 CS RZ
/-! ### k09: why none, the end -/
end RM
namespace RM
open PySem PySem.Spec PyProof.Rows L2 CS RZ
/-! ### k09: a case -/
section
variable {s : Str} {L : List Tri}
theorem end_in : endS s L ∈ placesL s L := by
  unfold endS
  cases e : (oversL s L).find? fun p => decide (over L p < 0) with
  | none => exact start_in
  | some p => exact (List.mem_filter.mp (List.mem_of_find?_eq_some e)).1
end
end RM
namespace RM
open PySem PySem.Spec PyProof.Rows L2 CS RZ
/-! ### k09: a drawn turn -/
theorem tag_none : ∀ s ∈ tagPool, s ≠ "none" := by decide +kernel
theorem pc_of {s : Str} {l : List Tri} (hF : Fine l) (hg : GoodL l) (hl : l.length ≤ 30) (gs : GoodS s) (ns : s ≠ "none") (nl : ∀ t ∈ l, t.1 ≠ "none" ∧ t.2.1 ≠ "none") : Pc s (canon l) where
  cn := cn_canon hF hg hl
  gs := gs
  ll := by have := canon_len l; omega
  nn := fun p hp => by
    rcases (places_mem p).mp hp with rfl | ⟨t, ht, e⟩
    · exact ns
    · obtain ⟨u, hu, e2⟩ := List.mem_map.mp (canon_mem ht).1
      have e1 : u.1 = t.1 := congrArg (fun p : Str × Str => p.1) e2
      have e3 : u.2.1 = t.2.1 := congrArg (fun p : Str × Str => p.2) e2
      rcases e with rfl | rfl
      · rw [← e1]
        exact (nl u hu).1
      · rw [← e3]
        exact (nl u hu).2
end RM
namespace RM
open PySem PySem.Spec PyProof.Rows L2 CS RZ
/-! ### k09 by hand -/
end RM
namespace RM
open PySem PySem.Spec PyProof.Rows L2 CS RZ
/-! ### k09 by hand, row by row -/
end RM
namespace RM
open PySem PySem.Spec PyProof.Rows L2 CS RZ
/-! ### an own error that keeps nothing, looked up -/
end RM
namespace RM
open PySem PySem.Spec PyProof.Rows L2 CS RZ
/-! ### steps that can be gone through: as many out as in, and all hang together -/
abbrev Ed := Str × Str
def outN (E : List Ed) (v : Str) : Nat := E.countP fun e => decide (e.1 = v)
def inN (E : List Ed) (v : Str) : Nat := E.countP fun e => decide (e.2 = v)
def one (a b : Str) : Int := if a = b then 1 else 0
def Deg (E : List Ed) (u t : Str) : Prop := ∀ v, (outN E v : Int) - inN E v = one v u - one v t
def Bal (E : List Ed) : Prop := ∀ v, outN E v = inN E v
def endOf : Str → List Str → Str
  | u, [] => u
  | _, b :: q => endOf b q
theorem bal_of {E : List Ed} {t : Str} (h : Deg E t t) : Bal E := fun v => by
  have := h v
  omega
theorem deg_of {E : List Ed} (t : Str) (h : Bal E) : Deg E t t := fun v => by
  have := h v
  omega
theorem outN_perm {E F : List Ed} (h : E.Perm F) (v : Str) : outN E v = outN F v := h.countP_eq _
theorem inN_perm {E F : List Ed} (h : E.Perm F) (v : Str) : inN E v = inN F v := h.countP_eq _
theorem outN_cons (e : Ed) (E : List Ed) (v : Str) : (outN (e :: E) v : Int) = outN E v + one v e.1 := by
  unfold outN one
  rw [List.countP_cons]
  by_cases c : e.1 = v
  · rw [decide_eq_true c, if_pos rfl, if_pos c.symm]
    rfl
  · rw [decide_eq_false c, if_neg (by decide), if_neg (Ne.symm c)]
    rfl
theorem inN_cons (e : Ed) (E : List Ed) (v : Str) : (inN (e :: E) v : Int) = inN E v + one v e.2 := by
  unfold inN one
  rw [List.countP_cons]
  by_cases c : e.2 = v
  · rw [decide_eq_true c, if_pos rfl, if_pos c.symm]
    rfl
  · rw [decide_eq_false c, if_neg (by decide), if_neg (Ne.symm c)]
    rfl
theorem outN_pos {E : List Ed} {v : Str} : 0 < outN E v ↔ ∃ e ∈ E, e.1 = v := by
  unfold outN
  rw [List.countP_pos_iff]
  simp only [decide_eq_true_eq]
theorem inN_pos {E : List Ed} {v : Str} : 0 < inN E v ↔ ∃ e ∈ E, e.2 = v := by
  unfold inN
  rw [List.countP_pos_iff]
  simp only [decide_eq_true_eq]
/-- one step is gone -/
theorem deg_step {R R1 : List Ed} {u b t : Str} (hp : R.Perm ((u, b) :: R1)) (h : Deg R u t) : Deg R1 b t := fun v => by
  have h1 := h v
  rw [outN_perm hp, inN_perm hp, outN_cons, inN_cons] at h1
  dsimp only at h1
  omega
theorem split_at {R : List Ed} {e : Ed} (h : e ∈ R) : ∃ R1 : List Ed, R.Perm (e :: R1) := by
  obtain ⟨a, b, rfl⟩ := List.append_of_mem h
  exact ⟨a ++ b, List.perm_middle⟩
/-- on and on, until one cannot go on: that is at t -/
theorem go_on {t : Str} : ∀ (k : Nat) (R : List Ed) (u : Str), R.length ≤ k → Deg R u t → ∃ (p : List Str) (R' : List Ed), (pairsOf (u :: p) ++ R').Perm R ∧ endOf u p = t ∧ Bal R' := by
  intro k
  induction k with
  | zero =>
    intro R u hl h
    have : R = [] := List.length_eq_zero_iff.mp (by omega)
    subst this
    have h1 := h u
    have e1 : one u u = 1 := if_pos rfl
    have e2 : ((outN [] u : Nat) : Int) = 0 := rfl
    have e3 : ((inN [] u : Nat) : Int) = 0 := rfl
    rw [e1, e2, e3] at h1
    by_cases c : u = t
    · subst c
      exact ⟨[], [], .nil, rfl, bal_of h⟩
    · have e4 : one u t = 0 := if_neg c
      omega
  | succ k ih =>
    intro R u hl h
    by_cases c : ∃ e ∈ R, e.1 = u
    · obtain ⟨⟨a, b⟩, he, rfl⟩ := c
      obtain ⟨R1, hp⟩ := split_at he
      have hl1 := hp.length_eq
      rw [List.length_cons] at hl1
      obtain ⟨p, R', h1, h2, h3⟩ := ih R1 b (by omega) (deg_step hp h)
      exact ⟨b :: p, R', (List.Perm.cons (a, b) h1).trans hp.symm, h2, h3⟩
    · have h0 : outN R u = 0 := by
        have : ¬ 0 < outN R u := fun z => c (outN_pos.mp z)
        omega
      have h1 := h u
      have e1 : one u u = 1 := if_pos rfl
      rw [e1, h0] at h1
      by_cases c2 : u = t
      · subst c2
        exact ⟨[], R, .refl _, rfl, bal_of h⟩
      · have e4 : one u t = 0 := if_neg c2
        omega
/-- a round from x -/
theorem go_round {R : List Ed} {x : Str} (h : Bal R) (hx : ∃ e ∈ R, e.1 = x) : ∃ (p : List Str) (R' : List Ed), p ≠ [] ∧ (pairsOf (x :: p) ++ R').Perm R ∧ endOf x p = x ∧ Bal R' := by
  obtain ⟨⟨a, b⟩, he, rfl⟩ := hx
  obtain ⟨R1, hp⟩ := split_at he
  obtain ⟨p, R', h1, h2, h3⟩ := go_on R1.length R1 b (Nat.le_refl _) (deg_step hp (deg_of a h))
  exact ⟨b :: p, R', by simp, (List.Perm.cons (a, b) h1).trans hp.symm, h2, h3⟩
theorem end_app : ∀ (u : Str) (p r : List Str), endOf u (p ++ r) = endOf (endOf u p) r
  | u, [], r => rfl
  | u, b :: p, r => end_app b p r
theorem pairs_app : ∀ (u : Str) (p r : List Str), pairsOf (u :: (p ++ r)) = pairsOf (u :: p) ++ pairsOf (endOf u p :: r)
  | u, [], r => rfl
  | u, b :: p, r => by
    show (u, b) :: pairsOf (b :: (p ++ r)) = (u, b) :: (pairsOf (b :: p) ++ pairsOf (endOf b p :: r))
    rw [pairs_app b p r]
theorem pairs_in : ∀ (u : Str) (p : List Str) (e : Ed), e ∈ pairsOf (u :: p) → e.1 ∈ u :: p ∧ e.2 ∈ u :: p := fun u p e h => pairs_both (u :: p) e h
/-- a round is put in where the way comes by -/
theorem put_in {s x : Str} {p c : List Str} (hx : x ∈ s :: p) (hc : endOf x c = x) : ∃ p' : List Str, (pairsOf (s :: p')).Perm (pairsOf (s :: p) ++ pairsOf (x :: c)) ∧ endOf s p' = endOf s p := by
  have key : ∀ (a b : List Str), endOf s a = x → ∃ p' : List Str, (pairsOf (s :: p')).Perm (pairsOf (s :: (a ++ b)) ++ pairsOf (x :: c)) ∧ endOf s p' = endOf s (a ++ b) := fun a b ha => by
    refine ⟨a ++ (c ++ b), ?_, by rw [end_app, end_app, end_app, ha, hc]⟩
    rw [pairs_app s a (c ++ b), ha, pairs_app x c b, hc, pairs_app s a b, ha, List.append_assoc]
    exact List.Perm.append_left _ List.perm_append_comm
  rcases List.mem_cons.mp hx with rfl | hx
  · exact key [] p rfl
  · obtain ⟨a, b, rfl⟩ := List.append_of_mem hx
    have : a ++ x :: b = (a ++ [x]) ++ b := by rw [List.append_assoc]; rfl
    rw [this]
    exact key (a ++ [x]) b (by rw [end_app]; rfl)
def Hang (E : List Ed) (s : Str) : Prop := ∀ V : Str → Prop, V s → (∀ e ∈ E, V e.1 ↔ V e.2) → ∀ e ∈ E, V e.1
theorem put_all {E : List Ed} {s t : Str} (hg : Hang E s) : ∀ (k : Nat) (p : List Str) (R : List Ed), R.length ≤ k → (pairsOf (s :: p) ++ R).Perm E → endOf s p = t → Bal R → ∃ p' : List Str, (pairsOf (s :: p')).Perm E ∧ endOf s p' = t := by
  intro k
  induction k with
  | zero =>
    intro p R hl h1 h2 _
    have : R = [] := List.length_eq_zero_iff.mp (by omega)
    subst this
    rw [List.append_nil] at h1
    exact ⟨p, h1, h2⟩
  | succ k ih =>
    intro p R hl h1 h2 h3
    by_cases c : ∃ e ∈ R, e.1 ∈ s :: p
    · obtain ⟨e, he, hx⟩ := c
      obtain ⟨q, R', n1, n2, n3, n4⟩ := go_round h3 ⟨e, he, rfl⟩
      obtain ⟨p', m1, m2⟩ := put_in hx n3
      have hl2 := n2.length_eq
      rw [List.length_append] at hl2
      have hl3 : 0 < (pairsOf (e.1 :: q)).length := by
        cases q with
        | nil => exact (n1 rfl).elim
        | cons b q => exact Nat.succ_pos _
      refine ih p' R' (by omega) ?_ (m2.trans h2) n4
      refine ((m1.append_right R').trans ?_).trans h1
      rw [List.append_assoc]
      exact n2.append_left _
    · by_cases hR : R = []
      · subst hR
        rw [List.append_nil] at h1
        exact ⟨p, h1, h2⟩
      · exfalso
        have c2 : ∀ e ∈ R, e.2 ∉ s :: p := fun e he hz => by
          have : 0 < outN R e.2 := by
            rw [h3 e.2]
            exact inN_pos.mpr ⟨e, he, rfl⟩
          obtain ⟨e', he', q⟩ := outN_pos.mp this
          exact c ⟨e', he', by rw [q]; exact hz⟩
        have all := hg (fun v => v ∈ s :: p) (List.mem_cons_self ..) fun e he => by
          rcases List.mem_append.mp (h1.mem_iff.mpr he) with h | h
          · have := pairs_in s p e h
            exact ⟨fun _ => this.2, fun _ => this.1⟩
          · exact ⟨fun z => (c ⟨e, h, z⟩).elim, fun z => (c2 e h z).elim⟩
        cases R with
        | nil => exact hR rfl
        | cons e R => exact c ⟨e, List.mem_cons_self .., all e (h1.mem_iff.mp (List.mem_append_right _ (List.mem_cons_self ..)))⟩
/-- there is a way -/
theorem way_is {E : List Ed} {s t : Str} (hd : Deg E s t) (hg : Hang E s) : ∃ p : List Str, (pairsOf (s :: p)).Perm E ∧ endOf s p = t := by
  obtain ⟨p, R, h1, h2, h3⟩ := go_on E.length E s (Nat.le_refl _) hd
  exact put_all hg R.length p R (Nat.le_refl _) h1 h2 h3
/-- and what a way has -/
theorem way_deg : ∀ (s : Str) (p : List Str), Deg (pairsOf (s :: p)) s (endOf s p)
  | s, [] => fun v => by
    show ((outN [] v : Nat) : Int) - (inN [] v : Nat) = one v s - one v s
    have e2 : ((outN [] v : Nat) : Int) = 0 := rfl
    have e3 : ((inN [] v : Nat) : Int) = 0 := rfl
    omega
  | s, b :: p => fun v => by
    have ih := way_deg b p v
    show ((outN ((s, b) :: pairsOf (b :: p)) v : Nat) : Int) - (inN ((s, b) :: pairsOf (b :: p)) v : Nat) = one v s - one v (endOf b p)
    rw [outN_cons, inN_cons]
    show _ + one v s - (_ + one v b) = _
    omega
theorem way_hang : ∀ (s : Str) (p : List Str) (V : Str → Prop), V s → (∀ e ∈ pairsOf (s :: p), V e.1 ↔ V e.2) → ∀ x ∈ s :: p, V x
  | s, [], V, hs, _ => fun x hx => by rw [List.mem_singleton.mp hx]; exact hs
  | s, b :: p, V, hs, h => fun x hx => by
    rcases List.mem_cons.mp hx with rfl | hx
    · exact hs
    · exact way_hang b p V ((h (s, b) (List.mem_cons_self ..)).mp hs) (fun e he => h e (List.mem_cons_of_mem _ he)) x hx
end RM
namespace RM
open PySem PySem.Spec PyProof.Rows L2 CS RZ
/-! ### a Counts is had exactly if some way makes its steps -/
def exL (L : List Tri) : List Ed := L.flatMap fun t => List.replicate t.2.2.toNat (pr t)
theorem over_eq (L : List Tri) (p : Str) : over L p = outsT L p - insT L p := rfl
theorem over_cons (t : Tri) (L : List Tri) (p : Str) : over (t :: L) p = over L p + ((if t.1 = p then t.2.2 else 0) + -(if t.2.1 = p then t.2.2 else 0)) := by
  rw [over_eq, over_eq, outsT_cons, insT_cons]
  omega
theorem out_ex : ∀ (L : List Tri) (v : Str), (∀ t ∈ L, 0 ≤ t.2.2) → (outN (exL L) v : Int) = outsT L v
  | [], v, _ => rfl
  | t :: L, v, h => by
    have ih := out_ex L v fun u hu => h u (List.mem_cons_of_mem _ hu)
    have h0 := h t (List.mem_cons_self ..)
    have e1 : exL (t :: L) = List.replicate t.2.2.toNat (pr t) ++ exL L := by unfold exL; rw [List.flatMap_cons]
    rw [e1, outsT_cons, ← ih]
    unfold outN
    rw [List.countP_append, List.countP_replicate]
    show ((((if decide (t.1 = v) = true then t.2.2.toNat else 0) + List.countP (fun e : Ed => decide (e.1 = v)) (exL L)) : Nat) : Int) = _
    by_cases c : t.1 = v
    · rw [decide_eq_true c, if_pos rfl, if_pos c]
      omega
    · rw [decide_eq_false c, if_neg (by decide), if_neg c]
      omega
theorem in_ex : ∀ (L : List Tri) (v : Str), (∀ t ∈ L, 0 ≤ t.2.2) → (inN (exL L) v : Int) = insT L v
  | [], v, _ => rfl
  | t :: L, v, h => by
    have ih := in_ex L v fun u hu => h u (List.mem_cons_of_mem _ hu)
    have h0 := h t (List.mem_cons_self ..)
    have e1 : exL (t :: L) = List.replicate t.2.2.toNat (pr t) ++ exL L := by unfold exL; rw [List.flatMap_cons]
    rw [e1, insT_cons, ← ih]
    unfold inN
    rw [List.countP_append, List.countP_replicate]
    show ((((if decide (t.2.1 = v) = true then t.2.2.toNat else 0) + List.countP (fun e : Ed => decide (e.2 = v)) (exL L)) : Nat) : Int) = _
    by_cases c : t.2.1 = v
    · rw [decide_eq_true c, if_pos rfl, if_pos c]
      omega
    · rw [decide_eq_false c, if_neg (by decide), if_neg c]
      omega
theorem deg_ex {L : List Tri} {u t : Str} (h : ∀ t ∈ L, 0 ≤ t.2.2) : Deg (exL L) u t ↔ ∀ v, over L v = one v u - one v t := by
  constructor
  · intro d v
    rw [over_eq, ← out_ex L v h, ← in_ex L v h]
    exact d v
  · intro d v
    rw [out_ex L v h, in_ex L v h, ← over_eq]
    exact d v
theorem mem_ex {L : List Tri} (hp : ∀ t ∈ L, 0 < t.2.2) (e : Ed) : e ∈ exL L ↔ e ∈ L.map pr := by
  unfold exL
  rw [List.mem_flatMap, List.mem_map]
  constructor
  · rintro ⟨t, ht, h⟩
    exact ⟨t, ht, (List.mem_replicate.mp h).2.symm⟩
  · rintro ⟨t, ht, rfl⟩
    have := hp t ht
    exact ⟨t, ht, List.mem_replicate.mpr ⟨by omega, rfl⟩⟩
/-! labels: what they hold together -/
theorem labs_closed (V : Str → Prop) : ∀ (ts : List Ed) (f : Str → Str), (∀ p ∈ ts, V p.1 ↔ V p.2) → (∀ x y, f x = f y → (V x ↔ V y)) → ∀ x y, (ts.foldl relab f) x = (ts.foldl relab f) y → (V x ↔ V y)
  | [], f, _, h => h
  | (a, b) :: ts, f, ht, h => by
    have hab := ht (a, b) (List.mem_cons_self ..)
    refine labs_closed V ts (relab f (a, b)) (fun p hp => ht p (List.mem_cons_of_mem _ hp)) fun x y e => ?_
    unfold relab at e
    dsimp only at e
    by_cases cx : f x = f a
    · rw [if_pos cx] at e
      by_cases cy : f y = f a
      · exact h x y (cx.trans cy.symm)
      · rw [if_neg cy] at e
        exact (h x a cx).trans (hab.trans (h b y e))
    · rw [if_neg cx] at e
      by_cases cy : f y = f a
      · rw [if_pos cy] at e
        exact (h x b e).trans (hab.symm.trans (h y a cy).symm)
      · rw [if_neg cy] at e
        exact h x y e
theorem relab_keep {f : Str → Str} {p : Ed} {x y : Str} (h : f x = f y) : relab f p x = relab f p y := by
  unfold relab
  rw [h]
theorem labs_keep : ∀ (ts : List Ed) (f : Str → Str) (x y : Str), f x = f y → (ts.foldl relab f) x = (ts.foldl relab f) y
  | [], _, _, _, h => h
  | p :: ts, f, x, y, h => labs_keep ts _ x y (relab_keep h)
theorem labs_tie : ∀ (ts : List Ed) (f : Str → Str), ∀ p ∈ ts, (ts.foldl relab f) p.1 = (ts.foldl relab f) p.2
  | [], _, p, h => (List.not_mem_nil h).elim
  | q :: ts, f, p, h => by
    rcases List.mem_cons.mp h with rfl | h
    · refine labs_keep ts _ _ _ ?_
      unfold relab
      rw [if_pos rfl]
      split <;> rfl
    · exact labs_tie ts _ p h
/-! sums over the places -/
theorem over_sum {ys : List Str} (hn : ys.Nodup) : ∀ L : List Tri, (∀ p, ends L p → p ∈ ys) → (ys.map fun y => over L y).sum = 0
  | [], _ => sum_zero ys
  | t :: L, h => by
    have ih := over_sum hn L fun p ⟨u, hu, q⟩ => h p ⟨u, List.mem_cons_of_mem _ hu, q⟩
    have e1 : (ys.map fun y => over (t :: L) y) = ys.map fun y => over L y + ((if t.1 = y then t.2.2 else 0) + (if t.2.1 = y then -t.2.2 else 0)) := List.map_congr_left fun y _ => by
      rw [over_cons]
      split <;> split <;> omega
    rw [e1, sum_add, sum_add, ih, sum_one hn, sum_one hn, if_pos (h _ ⟨t, List.mem_cons_self .., .inl rfl⟩), if_pos (h _ ⟨t, List.mem_cons_self .., .inr rfl⟩)]
    omega
theorem perm_sum {l m : List Int} (h : l.Perm m) : l.sum = m.sum := by
  induction h with
  | nil => rfl
  | cons x _ ih => rw [List.sum_cons, List.sum_cons, ih]
  | swap x y l =>
    rw [List.sum_cons, List.sum_cons, List.sum_cons, List.sum_cons]
    omega
  | trans _ _ h1 h2 => exact h1.trans h2
theorem sum_low (f : Str → Int) : ∀ zs : List Str, (∀ p ∈ zs, f p = 0 ∨ f p = -1) → (zs.map f).sum ≤ 0
  | [], _ => Int.le_refl _
  | z :: zs, h => by
    have := sum_low f zs fun p hp => h p (List.mem_cons_of_mem _ hp)
    rw [List.map_cons, List.sum_cons]
    rcases h z (List.mem_cons_self ..) with e | e <;> omega
theorem low_zero (f : Str → Int) : ∀ zs : List Str, (∀ p ∈ zs, f p = 0 ∨ f p = -1) → (zs.map f).sum = 0 → ∀ p ∈ zs, f p = 0
  | [], _, _, p, hp => (List.not_mem_nil hp).elim
  | z :: zs, h, hs, p, hp => by
    have hl := sum_low f zs fun p hp => h p (List.mem_cons_of_mem _ hp)
    rw [List.map_cons, List.sum_cons] at hs
    have hz := h z (List.mem_cons_self ..)
    rcases List.mem_cons.mp hp with rfl | hp
    · rcases hz with e | e <;> omega
    · exact low_zero f zs (fun p hp => h p (List.mem_cons_of_mem _ hp)) (by rcases hz with e | e <;> omega) p hp
theorem low_one (f : Str → Int) : ∀ zs : List Str, (∀ p ∈ zs, f p = 0 ∨ f p = -1) → (zs.map f).sum = -1 → ∃ t ∈ zs, f t = -1 ∧ ∀ p ∈ zs, p ≠ t → f p = 0
  | [], _, hs => by simp at hs
  | z :: zs, h, hs => by
    have h' := fun p hp => h p (List.mem_cons_of_mem z hp)
    rw [List.map_cons, List.sum_cons] at hs
    rcases h z (List.mem_cons_self ..) with e | e
    · obtain ⟨t, ht, h1, h2⟩ := low_one f zs h' (by omega)
      refine ⟨t, List.mem_cons_of_mem _ ht, h1, fun p hp ne => ?_⟩
      rcases List.mem_cons.mp hp with rfl | hp
      · exact e
      · exact h2 p hp ne
    · have hz := low_zero f zs h' (by omega)
      refine ⟨z, List.mem_cons_self .., e, fun p hp ne => ?_⟩
      rcases List.mem_cons.mp hp with rfl | hp
      · exact (ne rfl).elim
      · exact hz p hp
section
variable {s : Str} {L : List Tri}
/-- no place has too much: the way's end -/
theorem end_of_over (h : ∀ p ∈ placesL s L, badN s p (over L p) = false) : ∃ t, ∀ v, over L v = one v s - one v t := by
  have hs := over_sum (places_nd (s := s) (L := L)) L fun p hp => (places_mem p).mpr (.inr hp)
  have lo : ∀ p ∈ placesL s L, p ≠ s → over L p = 0 ∨ over L p = -1 := fun p hp ne => by
    have := h p hp
    simp only [badN, Bool.or_eq_false_iff, decide_eq_false_iff_not, Bool.and_eq_false_iff, Bool.not_eq_false', decide_eq_true_iff] at this
    obtain ⟨h1, h2, h3⟩ := this
    rcases h3 with h3 | h3
    · omega
    · exact (ne h3).elim
  have hi := h s start_in
  simp only [badN, Bool.or_eq_false_iff, decide_eq_false_iff_not] at hi
  obtain ⟨a, b, e⟩ := List.append_of_mem (start_in (s := s) (L := L))
  have perm : (placesL s L).Perm (s :: (a ++ b)) := by rw [e]; exact List.perm_middle
  have hsum : over L s + ((a ++ b).map fun y => over L y).sum = 0 := by
    have := perm_sum (perm.map fun y => over L y)
    rw [List.map_cons, List.sum_cons] at this
    omega
  have nd : (s :: (a ++ b)).Nodup := perm.nodup_iff.mp places_nd
  have ns := (List.nodup_cons.mp nd).1
  have lz : ∀ p ∈ a ++ b, over L p = 0 ∨ over L p = -1 := fun p hp => lo p (perm.mem_iff.mpr (List.mem_cons_of_mem _ hp)) fun z => ns (z ▸ hp)
  have hl := sum_low (fun y => over L y) (a ++ b) lz
  have out : ∀ v, v ∉ placesL s L → over L v = 0 := fun v hv => over_none fun z => hv ((places_mem v).mpr (.inr z))
  have one1 : ∀ v, one v v = 1 := fun v => if_pos rfl
  have one0 : ∀ v w : Str, v ≠ w → one v w = 0 := fun v w ne => if_neg ne
  by_cases c : over L s = 1
  · obtain ⟨t, ht, h1, h2⟩ := low_one (fun y => over L y) (a ++ b) lz (by omega)
    have nts : t ≠ s := fun z => ns (z ▸ ht)
    refine ⟨t, fun v => ?_⟩
    by_cases cv : v ∈ placesL s L
    · rcases List.mem_cons.mp (perm.mem_iff.mp cv) with rfl | hv
      · rw [one1, one0 _ _ (Ne.symm nts), c]
        rfl
      · have nvs : v ≠ s := fun z => ns (z ▸ hv)
        by_cases cvt : v = t
        · subst cvt
          rw [one1, one0 _ _ nvs]
          show over L v = 0 - 1
          rw [h1]
          rfl
        · rw [one0 _ _ nvs, one0 _ _ cvt]
          exact h2 v hv cvt
    · rw [out v cv, one0 v s fun z => cv (z ▸ start_in), one0 v t fun z => cv (z ▸ perm.mem_iff.mpr (List.mem_cons_of_mem _ ht))]
      rfl
  · have c0 : over L s = 0 := by omega
    have hz := low_zero (fun y => over L y) (a ++ b) lz (by omega)
    refine ⟨s, fun v => ?_⟩
    have : over L v = 0 := by
      by_cases cv : v ∈ placesL s L
      · rcases List.mem_cons.mp (perm.mem_iff.mp cv) with rfl | hv
        · exact c0
        · exact hz v hv
      · exact out v cv
    omega
end
end RM
namespace RM
open PySem PySem.Spec PyProof.Rows L2 CS RZ
/-! ### had: some way makes the steps; all ways end at endS -/
def Way (s : Str) (L : List Tri) (p : List Str) : Prop := (pairsOf (s :: p)).Perm (exL L)
section
variable {s : Str} {L : List Tri}
theorem had_iff : hadL s L = true ↔ (∀ p ∈ oversL s L, badN s p (over L p) = false) ∧ farL s L = [] := by
  unfold hadL whyD
  cases e : (oversL s L).find? fun p => badN s p (over L p) with
  | some p =>
    have h1 := List.find?_some e
    have h2 := List.mem_of_find?_eq_some e
    constructor
    · intro h
      cases h
    · rintro ⟨h, _⟩
      rw [h p h2] at h1
      cases h1
  | none =>
    have h1 := List.find?_eq_none.mp e
    cases e2 : farL s L with
    | nil => exact ⟨fun _ => ⟨fun p hp => Bool.eq_false_iff.mpr (h1 p hp), rfl⟩, fun _ => rfl⟩
    | cons y r =>
      constructor
      · intro h
        cases h
      · rintro ⟨_, h⟩
        cases h
theorem bad_zero {p : Str} : badN s p 0 = false := by simp [badN]
theorem had_all (h : ∀ p ∈ oversL s L, badN s p (over L p) = false) : ∀ p ∈ placesL s L, badN s p (over L p) = false := fun p hp => by
  by_cases c : over L p = 0
  · rw [c]
    exact bad_zero
  · exact h p (List.mem_filter.mpr ⟨hp, by simpa using c⟩)
theorem far_nil : farL s L = [] ↔ ∀ y ∈ placesL s L, labL L y = labL L s := by
  unfold farL
  rw [List.filter_eq_nil_iff]
  constructor
  · intro h y hy
    have := h y hy
    rw [decide_eq_true_iff, Decidable.not_not] at this
    exact (mem_cls.mp this).2
  · intro h y hy
    rw [decide_eq_true_iff, Decidable.not_not]
    exact mem_cls.mpr ⟨hy, h y hy⟩
theorem hang_L (hp : ∀ t ∈ L, 0 < t.2.2) (h : farL s L = []) : Hang (exL L) s := fun V hs hV e he => by
  have ht := (mem_ex hp e).mp he
  have key := labs_closed V (L.map pr) id (fun p hq => hV p ((mem_ex hp p).mpr hq)) (fun x y q => by rw [show x = y from q])
  have hy : e.1 ∈ placesL s L := (ties_in e ht).1
  exact (key e.1 s (far_nil.mp h e.1 hy)).mpr hs
theorem way_of_had (hp : ∀ t ∈ L, 0 < t.2.2) (h : hadL s L = true) : ∃ p, Way s L p := by
  obtain ⟨h1, h2⟩ := had_iff.mp h
  obtain ⟨t, ht⟩ := end_of_over (had_all h1)
  obtain ⟨p, w, _⟩ := way_is ((deg_ex fun t ht => Int.le_of_lt (hp t ht)).mpr ht) (hang_L hp h2)
  exact ⟨p, w⟩
theorem way_over (hp : ∀ t ∈ L, 0 < t.2.2) {p : List Str} (w : Way s L p) : ∀ v, over L v = one v s - one v (endOf s p) :=
  (deg_ex fun t ht => Int.le_of_lt (hp t ht)).mp fun v => by
    have := way_deg s p v
    rw [outN_perm w, inN_perm w] at this
    exact this
theorem one_le (a b : Str) : one a b = 0 ∨ one a b = 1 := by
  unfold one
  split
  · exact .inr rfl
  · exact .inl rfl
theorem had_of_way (hp : ∀ t ∈ L, 0 < t.2.2) {p : List Str} (w : Way s L p) : hadL s L = true := by
  refine had_iff.mpr ⟨fun v hv => ?_, far_nil.mpr fun y hy => ?_⟩
  · have h := way_over hp w v
    have a1 := one_le v s
    have a2 := one_le v (endOf s p)
    rw [h]
    by_cases c : v = s
    · unfold badN
      have h1 : ¬ (one v s - one v (endOf s p) < -1) := by omega
      have h2 : ¬ (1 < one v s - one v (endOf s p)) := by omega
      rw [decide_eq_false h1, decide_eq_false h2, decide_eq_true c]
      simp
    · have : one v s = 0 := if_neg c
      unfold badN
      have h1 : ¬ (one v s - one v (endOf s p) < -1) := by omega
      have h2 : ¬ (1 < one v s - one v (endOf s p)) := by omega
      have h3 : ¬ (0 < one v s - one v (endOf s p)) := by omega
      rw [decide_eq_false h1, decide_eq_false h2, decide_eq_false h3]
      simp
  · have key := way_hang s p (fun x => labL L x = labL L s) rfl fun e he => by
      have := labs_tie (L.map pr) id e ((mem_ex hp e).mp (w.mem_iff.mp he))
      show labL L e.1 = _ ↔ labL L e.2 = _
      rw [show labL L e.1 = labL L e.2 from this]
    refine key y ?_
    rcases (places_mem y).mp hy with rfl | ⟨t, ht, h⟩
    · exact List.mem_cons_self ..
    · have := pairs_in s p (pr t) (w.mem_iff.mpr ((mem_ex hp (pr t)).mpr (List.mem_map.mpr ⟨t, ht, rfl⟩)))
      rcases h with rfl | rfl
      · exact this.1
      · exact this.2
theorem way_end (hp : ∀ t ∈ L, 0 < t.2.2) {p : List Str} (w : Way s L p) : endS s L = endOf s p := by
  have h := way_over hp w
  unfold endS
  cases e : (oversL s L).find? fun q => decide (over L q < 0) with
  | some q =>
    have h0 := List.find?_some e
    have h1 : over L q < 0 := of_decide_eq_true h0
    rw [h q] at h1
    have a1 := one_le q s
    by_cases c : q = endOf s p
    · exact c
    · have : one q (endOf s p) = 0 := if_neg c
      omega
  | none =>
    have h1 := List.find?_eq_none.mp e
    by_cases c : s = endOf s p
    · exact c
    · exfalso
      have e1 : one (endOf s p) (endOf s p) = 1 := if_pos rfl
      have e2 : one (endOf s p) s = 0 := if_neg (Ne.symm c)
      have ho := h (endOf s p)
      rw [e1, e2] at ho
      have hin : endOf s p ∈ placesL s L := by
        by_cases z : endOf s p ∈ placesL s L
        · exact z
        · have := over_none (L := L) (p := endOf s p) fun q => z ((places_mem _).mpr (.inr q))
          omega
      have := h1 (endOf s p) (List.mem_filter.mpr ⟨hin, by rw [ho]; decide⟩)
      rw [ho] at this
      exact this (by decide)
end
end RM
namespace RM
open PySem PySem.Spec PyProof.Rows L2 CS RZ
/-! ### one step less -/
def lessT (L : List Tri) (e : Ed) : List Tri := (leftT L [(e.1, e.2, 1)]).filter fun t => decide (0 < t.2.2)
def minus1 (e : Ed) (t : Tri) : Tri := (t.1, t.2.1, t.2.2 - if e = pr t then 1 else 0)
theorem left_one (L : List Tri) (e : Ed) : leftT L [(e.1, e.2, 1)] = L.map (minus1 e) := by
  unfold leftT
  refine List.map_congr_left fun t _ => ?_
  show (t.1, t.2.1, t.2.2 - numAt [(e.1, e.2, 1)] (pr t)) = _
  rw [numAt_cons]
  show (t.1, t.2.1, t.2.2 - if e = pr t then 1 else numAt [] (pr t)) = _
  rfl
theorem pr_minus (e : Ed) (t : Tri) : pr (minus1 e t) = pr t := rfl
section
variable {L : List Tri} {e : Ed}
theorem less_mem {t : Tri} (ht : t ∈ lessT L e) : ∃ u ∈ L, pr u = pr t ∧ 0 < t.2.2 := by
  obtain ⟨h1, h2⟩ := List.mem_filter.mp ht
  rw [left_one] at h1
  obtain ⟨u, hu, rfl⟩ := List.mem_map.mp h1
  exact ⟨u, hu, rfl, of_decide_eq_true h2⟩
theorem less_pr : ((lessT L e).map pr).Sublist (L.map pr) := by
  unfold lessT
  rw [left_one]
  have h1 : ((L.map (minus1 e)).map pr) = L.map pr := by rw [List.map_map]; rfl
  rw [← h1]
  exact List.filter_sublist.map pr
theorem less_cn (c : Cn L) : Cn (lessT L e) where
  g := fun t ht => by
    obtain ⟨u, hu, q, _⟩ := less_mem ht
    rw [← q]
    exact c.g u hu
  fine := fun t ht => by
    obtain ⟨u, hu, q, q2⟩ := less_mem ht
    have h1 : u.1 = t.1 := congrArg (fun p : Str × Str => p.1) q
    have h2 : u.2.1 = t.2.1 := congrArg (fun p : Str × Str => p.2) q
    rw [← h1, ← h2]
    exact ⟨(c.fine u hu).1, Int.le_of_lt q2⟩
  pos := fun t ht => (less_mem ht).choose_spec.2.2
  len := by
    have := less_pr (L := L) (e := e).length_le
    rw [List.length_map, List.length_map] at this
    exact Nat.le_trans this c.len
  nd := c.nd.sublist less_pr
  pw := c.pw.sublist less_pr
theorem ex_filter : ∀ l : List Tri, exL (l.filter fun t => decide (0 < t.2.2)) = exL l
  | [] => rfl
  | t :: l => by
    have ih := ex_filter l
    have e1 : exL (t :: l) = List.replicate t.2.2.toNat (pr t) ++ exL l := by unfold exL; rw [List.flatMap_cons]
    rw [List.filter_cons, e1, ← ih]
    by_cases c : 0 < t.2.2
    · rw [if_pos (decide_eq_true c)]
      unfold exL
      rw [List.flatMap_cons]
    · rw [if_neg (by simpa using c)]
      have : t.2.2.toNat = 0 := by omega
      rw [this]
      rfl
theorem minus_same : ∀ l : List Tri, (∀ t ∈ l, pr t ≠ e) → l.map (minus1 e) = l
  | [], _ => rfl
  | t :: l, h => by
    rw [List.map_cons, minus_same l fun u hu => h u (List.mem_cons_of_mem _ hu)]
    congr 1
    have := h t (List.mem_cons_self ..)
    show (t.1, t.2.1, t.2.2 - if e = pr t then 1 else 0) = t
    rw [if_neg (Ne.symm this), Int.sub_zero]
theorem less_perm (c : Cn L) (he : e ∈ L.map pr) : (exL L).Perm (e :: exL (lessT L e)) := by
  unfold lessT
  rw [ex_filter, left_one]
  obtain ⟨t, ht, rfl⟩ := List.mem_map.mp he
  obtain ⟨A, B, rfl⟩ := List.append_of_mem ht
  have nd := c.nd
  rw [List.map_append, List.map_cons] at nd
  have nA : ∀ u ∈ A, pr u ≠ pr t := fun u hu q => (List.nodup_append.mp nd).2.2 (pr u) (List.mem_map_of_mem hu) (pr t) (List.mem_cons_self ..) q
  have nB : ∀ u ∈ B, pr u ≠ pr t := fun u hu q => (List.nodup_cons.mp (List.nodup_append.mp nd).2.1).1 (by rw [← q]; exact List.mem_map_of_mem hu)
  have hp := c.pos t ht
  rw [List.map_append, List.map_cons, minus_same A nA, minus_same B nB]
  have e1 : ∀ u : Tri, exL (A ++ u :: B) = exL A ++ (List.replicate u.2.2.toNat (pr u) ++ exL B) := fun u => by
    unfold exL
    rw [List.flatMap_append, List.flatMap_cons]
  rw [e1, e1]
  have e2 : (minus1 (pr t) t).2.2.toNat = t.2.2.toNat - 1 := by
    show (t.2.2 - if pr t = pr t then 1 else 0).toNat = _
    rw [if_pos rfl]
    omega
  rw [e2, pr_minus]
  have e3 : t.2.2.toNat = (t.2.2.toNat - 1) + 1 := by omega
  have e4 : List.replicate t.2.2.toNat (pr t) = pr t :: List.replicate (t.2.2.toNat - 1) (pr t) := by
    rw [e3, List.replicate_succ]
    rfl
  rw [e4]
  exact List.perm_middle
end
section
variable {s b : Str} {L : List Tri} {p : List Str}
theorem way_cons (c : Cn L) : Way s L (b :: p) ↔ (s, b) ∈ L.map pr ∧ Way b (lessT L (s, b)) p := by
  unfold Way
  show ((s, b) :: pairsOf (b :: p)).Perm (exL L) ↔ _
  constructor
  · intro h
    have hm : (s, b) ∈ L.map pr := (mem_ex c.pos _).mp (h.mem_iff.mp (List.mem_cons_self ..))
    exact ⟨hm, List.Perm.cons_inv (h.trans (less_perm c hm))⟩
  · rintro ⟨hm, h⟩
    exact (List.Perm.cons (s, b) h).trans (less_perm c hm).symm
theorem way_nil : Way s L [] ↔ exL L = [] := by
  unfold Way
  show ([] : List Ed).Perm (exL L) ↔ _
  rw [List.nil_perm]
theorem ex_len : ∀ L : List Tri, (∀ t ∈ L, 0 ≤ t.2.2) → ((exL L).length : Int) = (L.map fun t => t.2.2).sum
  | [], _ => rfl
  | t :: l, h => by
    have ih := ex_len l fun u hu => h u (List.mem_cons_of_mem _ hu)
    have h0 := h t (List.mem_cons_self ..)
    have e1 : exL (t :: l) = List.replicate t.2.2.toNat (pr t) ++ exL l := by unfold exL; rw [List.flatMap_cons]
    rw [e1, List.length_append, List.length_replicate, List.map_cons, List.sum_cons, ← ih]
    omega
theorem less_len (c : Cn L) (he : (s, b) ∈ L.map pr) : (exL L).length = (exL (lessT L (s, b))).length + 1 := (less_perm c he).length_eq
/-- the first steps of all ways -/
def openS (s : Str) (L : List Tri) : List Str := ((L.filter fun t => decide (t.1 = s)).map fun t => t.2.1).filter fun b => hadL b (lessT L (s, b))
theorem open_mem (c : Cn L) : b ∈ openS s L ↔ ∃ p, Way s L (b :: p) := by
  unfold openS
  rw [List.mem_filter, List.mem_map]
  constructor
  · rintro ⟨⟨t, ht, rfl⟩, h⟩
    obtain ⟨h1, h2⟩ := List.mem_filter.mp ht
    have h3 := of_decide_eq_true h2
    obtain ⟨p, w⟩ := way_of_had (less_cn c).pos h
    exact ⟨p, (way_cons c).mpr ⟨List.mem_map.mpr ⟨t, h1, by rw [← h3]; rfl⟩, w⟩⟩
  · rintro ⟨p, w⟩
    obtain ⟨hm, w⟩ := (way_cons c).mp w
    obtain ⟨t, ht, e⟩ := List.mem_map.mp hm
    refine ⟨⟨t, List.mem_filter.mpr ⟨ht, decide_eq_true (congrArg (fun p : Str × Str => p.1) e)⟩, congrArg (fun p : Str × Str => p.2) e⟩, had_of_way (less_cn c).pos w⟩
end
end RM
namespace RM
open PySem PySem.Spec PyProof.Rows L2 CS RZ
/-! ### not in, of an own class -/
/-! ### gone, open_steps, some_journey -/
end RM
namespace RM
open PySem PySem.Spec PyProof.Rows L2 CS RZ
/-! ### a, b = [], [..]: two new lists -/
def Ctx.hide1 (C : Ctx) (p : Addr) : Ctx := { C with Z := fun a => C.Z a ∨ a = p, H0 := fun a => if a = p then some (.lst []) else C.H0 a }
section
variable {C : Ctx} {ρ : En} {n : Nat} {σ : L2.St} {H H' : Hp} {O : Ow} {p : Addr}
theorem hide1_eq : (C.hide1 p).H0 p = some (.lst []) := if_pos rfl
theorem hide1_ne {a : Addr} (h : a ≠ p) : (C.hide1 p).H0 a = C.H0 a := if_neg h
theorem ev_hide1 (E : Ev C ρ n σ H O) (hn : H p = none) : Ev (C.hide1 p) ρ n σ (upd H p (.lst [])) O ∧ Same (hid C O H) (hid (C.hide1 p) O (upd H p (.lst []))) := by
  obtain ⟨f1, f2, f3, f4⟩ := E.fresh hn
  have S : Same (hid C O H) (hid (C.hide1 p) O (upd H p (.lst []))) := fun a o h => by
    obtain ⟨h1, h2, h3⟩ := hid_some h
    have ne : a ≠ p := ne_of_none h1 hn
    exact hid_of (by rw [upd_ne ne]; exact h1) (fun z => z.elim h2 ne) h3
  refine ⟨⟨E.len, fun i d e => ?_, fun i d e => ?_, fun i q h => ?_, E.inj, fun a z => ?_, fun a xs z => ?_, fun a o h hb => ?_, fun b h => ?_, E.slf, E.vis.trans S⟩, S⟩
  · obtain ⟨v, h1, h2⟩ := E.val i d e
    exact ⟨v, h1, h2.same S⟩
  · obtain ⟨q, h1, h2, h3⟩ := E.own i d e
    obtain ⟨o, ho⟩ := h3.some
    exact ⟨q, h1, h2, h3.same S (upd_ne (ne_of_none ho hn))⟩
  · refine ⟨(E.only i q h).1, ?_⟩
    rw [hide1_ne (p := p) (a := q) fun z => f2 i (z ▸ h)]
    exact (E.only i q h).2
  · rcases z with z | rfl
    · rw [hide1_ne (p := p) (a := a) fun w => f1 (w ▸ z)]
      exact E.zs a z
    · exact ⟨_, hide1_eq⟩
  · rcases z with z | rfl
    · rw [hide1_ne (p := p) (a := a) fun w => f1 (w ▸ z)]
      exact E.zt a xs z
    · rw [hide1_eq]
      exact fun w => nomatch w
  · by_cases c : a = p
    · subst c
      rw [hide1_eq] at h
      cases h
      exact upd_same
    · rw [hide1_ne c] at h
      rw [upd_ne c]
      exact E.keep a o h hb
  · have ne : b ≠ p := fun z => f4 (z ▸ h)
    refine ⟨.inl (E.box b h).1, ?_⟩
    obtain ⟨A, B, D, e, r⟩ := (E.box b h).2
    exact ⟨A, B, D, by rw [upd_ne ne]; exact e, r⟩
theorem ev_show1 (E : Ev (C.hide1 p) ρ n σ H O) {i : Nat} (hi : i < ρ.length) (hb : C.T.bx ≠ some p) (h0 : C.H0 p = none) (hz : ¬ C.Z p) :
    Ev C (ρ.set i (some (Sl.own (.list [])))) n (σ.set i (some (.ref p))) H (putO O i p) ∧ Same (hid (C.hide1 p) O H) (hid C (putO O i p) H) := by
  have hp : H p = some (.lst []) := E.keep p _ hide1_eq hb
  have noO : ∀ j, O j ≠ some p := fun j z => by
    have := (E.only j p z).2
    rw [hide1_eq] at this
    cases this
  have S : Same (hid (C.hide1 p) O H) (hid C (putO O i p) H) := fun a o h => by
    obtain ⟨h1, h2, h3⟩ := hid_some h
    refine hid_of h1 (fun z => h2 (.inl z)) fun j z => ?_
    rcases putO_some z with ⟨_, e⟩ | ⟨_, e⟩
    · exact h2 (.inr e)
    · exact h3 j e
  refine ⟨⟨?_, fun j d h => ?_, fun j d h => ?_, fun j q h => ?_, fun j k q h1 h2 => ?_, fun a z => ?_, fun a xs z => ?_, fun a o h hb2 => ?_, fun b h => ?_, fun p' hp' j q d h1 h2 h3 => ?_, E.vis.trans S⟩, S⟩
  · rw [List.length_set, List.length_set]
    exact E.len
  · by_cases c : j = i
    · subst c
      rw [List.getElem?_set_self hi] at h
      cases h
    · rw [List.getElem?_set_ne (Ne.symm c)] at h ⊢
      obtain ⟨u, h1, h2⟩ := E.val j d h
      exact ⟨u, h1, h2.same S⟩
  · by_cases c : j = i
    · subst c
      rw [List.getElem?_set_self hi] at h
      cases h
      rw [List.getElem?_set_self (by rw [← E.len]; exact hi)]
      refine ⟨p, ?_, rfl, .lst hp .nil⟩
      unfold putO
      rw [if_pos rfl]
    · rw [List.getElem?_set_ne (Ne.symm c)] at h ⊢
      obtain ⟨q, h1, h2, h3⟩ := E.own j d h
      refine ⟨q, ?_, h2, h3.same S rfl⟩
      unfold putO
      rw [if_neg c]
      exact h1
  · rcases putO_some h with ⟨rfl, rfl⟩ | ⟨c, h⟩
    · rw [List.getElem?_set_self hi]
      exact ⟨⟨_, rfl⟩, h0⟩
    · rw [List.getElem?_set_ne (Ne.symm c)]
      obtain ⟨h1, h2⟩ := E.only j q h
      refine ⟨h1, ?_⟩
      rw [hide1_ne (p := p) (a := q) fun z => noO j (z ▸ h)] at h2
      exact h2
  · rcases putO_some h1 with ⟨a1, a2⟩ | ⟨_, a1⟩
    · rcases putO_some h2 with ⟨b1, _⟩ | ⟨_, b1⟩
      · rw [a1, b1]
      · exact absurd (a2 ▸ b1) (noO k)
    · rcases putO_some h2 with ⟨_, b2⟩ | ⟨_, b1⟩
      · exact absurd (b2 ▸ a1) (noO j)
      · exact E.inj j k q a1 b1
  · obtain ⟨o, ho⟩ := E.zs a (.inl z)
    rw [hide1_ne (p := p) (a := a) fun w => hz (w ▸ z)] at ho
    exact ⟨o, ho⟩
  · have := E.zt a xs (.inl z)
    rw [hide1_ne (p := p) (a := a) fun w => hz (w ▸ z)] at this
    exact this
  · refine E.keep a o ?_ hb2
    rw [hide1_ne (p := p) (a := a) fun w => by rw [w, h0] at h; cases h]
    exact h
  · obtain ⟨z, bx⟩ := E.box b h
    exact ⟨z.elim id fun w => (hb (w ▸ h)).elim, bx⟩
  · by_cases c : j = i
    · subst c
      rw [List.getElem?_set_self hi] at h2
      cases h2
      cases h3
    · rw [List.getElem?_set_ne (Ne.symm c)] at h2
      rcases putO_some h1 with ⟨a1, _⟩ | ⟨_, a1⟩
      · exact (c a1).elim
      · exact E.slf p' hp' j q d a1 h2 h3
end
def cPar01 (i j : Nat) (t : CE) : CS := fun ρ n e => i < ρ.length ∧ j < ρ.length ∧ t ρ n (fun d ρ1 n1 => ρ1.length = ρ.length ∧ e.nx ((ρ1.set i (some (Sl.own (.list [])))).set j (some (Sl.own d))) n1) kF
section
variable {X : Cx} {g : Glob} {xk : WX} {pos : Pos}
theorem pds_par01 {i j : Nat} {x y : Str} {a : Expr} {t : CE} {px py pt pn : Pos} {kt k2 pt2} (hc : X.calm = true) (hN : X.N.Nodup) (hi : X.N[i]? = some x) (hj : X.N[j]? = some y) (hij : i ≠ j)
    (hx : X.env.scope.names.lookup x = some .local) (hy : X.env.scope.names.lookup y = some .local) (ha : PDF X g xk a t)
    (hst : starEach [.List [] pn, a] X.env = (false, eval (.List [] pn) X.env) :: starEach [a] X.env := by rfl) (hst2 : starEach [a] X.env = (false, eval a X.env) :: starEach [] X.env := by rfl)
    (hw : swappedStores [.Tuple [.Name x px, .Name y py] kt pt] (.Tuple [.List [] pn, a] k2 pt2) X.env = pure (some [x, y]) := by rfl)
    (hs : swapsWithSole [.Tuple [.Name x px, .Name y py] kt pt] (.Tuple [.List [] pn, a] k2 pt2) pos.line X.env = pure false := by rfl) :
    PDS X g xk (.Assign [.Tuple [.Name x px, .Name y py] kt pt] (.Tuple [.List [] pn, a] k2 pt2) pos) (cPar01 i j t) := by
  refine ⟨ps_imp (ps_par hc hN hi hj hij hx hy (pa_cons (pe_lst pa_nil) (pa_cons ha.pe pa_nil hst2) hst) hw hs) fun D σ H h => ?_⟩
  obtain ⟨C, ρ, n, O, e, hK, E, ⟨li, lj, t⟩, l⟩ := h
  refine ⟨Nat.zero_le _, fun p hp => ?_⟩
  obtain ⟨f1, f2, f3, f4⟩ := E.fresh hp
  obtain ⟨Ez, S0⟩ := ev_hide1 E hp
  refine ⟨C.hide1 p, ρ, n, O, _, kF, hK, Ez, t, fun _ _ _ _ _ _ _ _ h => h.elim, fun d ρ1 n1 q H1 H' O1 k1 E1 S1 hq s ow no => ⟨.ref p, .ref q, rfl, ?_⟩⟩
  obtain ⟨hlen, k1⟩ := k1
  obtain ⟨E2, S2⟩ := ev_show1 E1 (i := i) (by rw [hlen]; exact li) f4 f3 f1
  obtain ⟨E3, S3⟩ := E2.setOwn (i := j) (by rw [List.length_set, hlen]; exact lj) hq s (ow.same S2 rfl) no
  exact l.nx _ _ _ _ _ k1 E3 (((S0.trans S1).trans S2).trans S3)
end
end RM
namespace RM
open PySem PySem.Spec PyProof.Rows L2 CS RZ
/-! ### all ways, by following -/
abbrev Nd := List Str × Str × List Tri
def ndD (x : Nd) : D := .tuple [rowT (x.1 ++ [x.2.1]), .tuple (trisD x.2.2)]
def kids (L : List Tri) (u : Str) : List Tri := L.filter fun t => decide (t.1 = u)
def kid (x : Nd) (t : Tri) : Nd := (x.1 ++ [x.2.1], t.2.1, lessT x.2.2 (pr t))
def leaves : Nat → Nd → List (List Str)
  | 0, x => [x.1 ++ [x.2.1]]
  | m + 1, x => (kids x.2.2 x.2.1).flatMap fun t => leaves m (kid x t)
def nodes : Nat → Nd → Nat
  | 0, _ => 1
  | m + 1, x => 1 + ((kids x.2.2 x.2.1).map fun t => nodes m (kid x t)).sum
def sz (x : Nd) : Nat := (exL x.2.2).length
abbrev lv (x : Nd) : List (List Str) := leaves (sz x) x
abbrev nn (x : Nd) : Nat := nodes (sz x) x
structure NOk (x : Nd) : Prop where
  g : ∀ y ∈ x.1 ++ [x.2.1], GoodS y
  c : Cn x.2.2
  l : x.1.length + sz x ≤ 50
theorem kids_in {L : List Tri} {u : Str} {t : Tri} (h : t ∈ kids L u) : t ∈ L ∧ t.1 = u := by
  obtain ⟨h1, h2⟩ := List.mem_filter.mp h
  exact ⟨h1, of_decide_eq_true h2⟩
theorem kid_sz {x : Nd} {t : Tri} (c : Cn x.2.2) (h : t ∈ x.2.2) : sz x = sz (kid x t) + 1 := (less_perm (e := pr t) c (List.mem_map_of_mem h)).length_eq
theorem NOk.kid {x : Nd} (h : NOk x) {t : Tri} (ht : t ∈ kids x.2.2 x.2.1) : NOk (kid x t) where
  g := fun y hy => by
    rcases List.mem_append.mp hy with hy | hy
    · exact h.g y hy
    · rw [List.mem_singleton.mp hy]
      exact (h.c.g t (kids_in ht).1).2
  c := less_cn h.c
  l := by
    have := kid_sz h.c (kids_in ht).1
    have := h.l
    show (x.1 ++ [x.2.1]).length + _ ≤ 50
    rw [List.length_append, List.length_singleton]
    omega
theorem sz_zero {x : Nd} (c : Cn x.2.2) : sz x = 0 ↔ x.2.2 = [] := by
  constructor
  · intro h
    cases e : x.2.2 with
    | nil => rfl
    | cons t l =>
      have hm : pr t ∈ exL x.2.2 := (mem_ex c.pos _).mpr (by rw [e]; exact List.mem_map_of_mem (List.mem_cons_self ..))
      have h0 : exL x.2.2 = [] := List.length_eq_zero_iff.mp h
      rw [h0] at hm
      exact (List.not_mem_nil hm).elim
  · intro h
    unfold sz
    rw [h]
    rfl
theorem lv_nil {x : Nd} (c : Cn x.2.2) (h : x.2.2 = []) : lv x = [x.1 ++ [x.2.1]] ∧ nn x = 1 := by
  have := (sz_zero c).mpr h
  constructor
  · show leaves (sz x) x = _
    rw [this]
    rfl
  · show nodes (sz x) x = _
    rw [this]
    rfl
theorem flat_congr {α β : Type} {l : List α} {f g : α → List β} (h : ∀ a ∈ l, f a = g a) : l.flatMap f = l.flatMap g := by
  induction l with
  | nil => rfl
  | cons a l ih => rw [List.flatMap_cons, List.flatMap_cons, h a (List.mem_cons_self ..), ih fun b hb => h b (List.mem_cons_of_mem _ hb)]
theorem lv_cons {x : Nd} (c : Cn x.2.2) (h : x.2.2 ≠ []) : lv x = (kids x.2.2 x.2.1).flatMap (fun t => lv (kid x t)) ∧ nn x = 1 + ((kids x.2.2 x.2.1).map fun t => nn (kid x t)).sum := by
  obtain ⟨m, hm⟩ : ∃ m, sz x = m + 1 := ⟨sz x - 1, by have : sz x ≠ 0 := fun z => h ((sz_zero c).mp z); omega⟩
  have hk : ∀ t ∈ kids x.2.2 x.2.1, sz (kid x t) = m := fun t ht => by have := kid_sz c (kids_in ht).1; omega
  constructor
  · show leaves (sz x) x = _
    rw [hm]
    exact flat_congr fun t ht => by show leaves m (kid x t) = leaves (sz (kid x t)) (kid x t); rw [hk t ht]
  · show nodes (sz x) x = _
    rw [hm]
    show 1 + _ = _
    congr 2
    exact List.map_congr_left fun t ht => by show nodes m (kid x t) = nodes (sz (kid x t)) (kid x t); rw [hk t ht]
theorem nn_pos (x : Nd) : 1 ≤ nn x := by
  show 1 ≤ nodes (sz x) x
  cases sz x with
  | zero => exact Nat.le_refl _
  | succ m =>
    show 1 ≤ 1 + _
    omega
theorem len_le_sum : ∀ l : List Nd, l.length ≤ (l.map nn).sum
  | [] => Nat.le_refl _
  | x :: l => by
    have h1 := nn_pos x
    have h2 := len_le_sum l
    rw [List.length_cons, List.map_cons, List.sum_cons]
    omega
/-! how many there can be -/
def nb : Nat → Nat
  | 0 => 1
  | m + 1 => 1 + (m + 1) * nb m
theorem sum_bound {α : Type} (f : α → Nat) (k : Nat) : ∀ l : List α, (∀ a ∈ l, f a ≤ k) → (l.map f).sum ≤ l.length * k
  | [], _ => Nat.zero_le _
  | a :: l, h => by
    have h1 := h a (List.mem_cons_self ..)
    have h2 := sum_bound f k l fun b hb => h b (List.mem_cons_of_mem _ hb)
    rw [List.map_cons, List.sum_cons, List.length_cons, Nat.add_mul]
    omega
theorem len_ex : ∀ L : List Tri, (∀ t ∈ L, 0 < t.2.2) → L.length ≤ (exL L).length
  | [], _ => Nat.le_refl _
  | t :: L, h => by
    have ih := len_ex L fun u hu => h u (List.mem_cons_of_mem _ hu)
    have h0 := h t (List.mem_cons_self ..)
    have e1 : exL (t :: L) = List.replicate t.2.2.toNat (pr t) ++ exL L := by unfold exL; rw [List.flatMap_cons]
    rw [e1, List.length_append, List.length_replicate, List.length_cons]
    omega
/-! what they are -/
theorem leaves_mem : ∀ (m : Nat) (x : Nd) (z : List Str), Cn x.2.2 → sz x = m → (z ∈ leaves m x ↔ ∃ p, z = x.1 ++ x.2.1 :: p ∧ Way x.2.1 x.2.2 p)
  | 0, (r, u, L), z, c, hm => by
    have hl : L = [] := (sz_zero (x := (r, u, L)) c).mp hm
    show z ∈ [r ++ [u]] ↔ _
    rw [List.mem_singleton]
    constructor
    · rintro rfl
      exact ⟨[], rfl, way_nil.mpr (List.length_eq_zero_iff.mp hm)⟩
    · rintro ⟨p, rfl, w⟩
      cases p with
      | nil => rfl
      | cons b p =>
        have := ((way_cons c).mp w).1
        have hl2 : ((r, u, L) : Nd).2.2 = [] := hl
        rw [hl2] at this
        exact (List.not_mem_nil this).elim
  | m + 1, (r, u, L), z, c, hm => by
    show z ∈ (kids L u).flatMap (fun t => leaves m (kid (r, u, L) t)) ↔ _
    rw [List.mem_flatMap]
    have step : ∀ t ∈ kids L u, (z ∈ leaves m (kid (r, u, L) t) ↔ ∃ p, z = (r ++ [u]) ++ t.2.1 :: p ∧ Way t.2.1 (lessT L (pr t)) p) := fun t ht =>
      leaves_mem m (kid (r, u, L) t) z (less_cn c) (by have := kid_sz (x := (r, u, L)) c (kids_in ht).1; omega)
    constructor
    · rintro ⟨t, ht, h⟩
      obtain ⟨p, e, w⟩ := (step t ht).mp h
      obtain ⟨h1, h2⟩ := kids_in ht
      refine ⟨t.2.1 :: p, by rw [e, List.append_assoc]; rfl, (way_cons c).mpr ⟨List.mem_map.mpr ⟨t, h1, by rw [← h2]; rfl⟩, ?_⟩⟩
      have : pr t = (u, t.2.1) := by rw [← h2]; rfl
      rw [← this]
      exact w
    · rintro ⟨p, e, w⟩
      cases p with
      | nil =>
        have h0 := way_nil.mp w
        have : sz (r, u, L) = 0 := by
          show (exL L).length = 0
          rw [show exL L = [] from h0]
          rfl
        omega
      | cons b p =>
        obtain ⟨hm2, w2⟩ := (way_cons c).mp w
        obtain ⟨t, ht, q⟩ := List.mem_map.mp hm2
        have q1 : t.1 = u := congrArg (fun p : Str × Str => p.1) q
        have q2 : t.2.1 = b := congrArg (fun p : Str × Str => p.2) q
        have hk : t ∈ kids L u := List.mem_filter.mpr ⟨ht, decide_eq_true q1⟩
        refine ⟨t, hk, (step t hk).mpr ⟨p, by rw [e, q2, List.append_assoc]; rfl, ?_⟩⟩
        rw [q, q2]
        exact w2
theorem lv_mem {s : Str} {L : List Tri} (c : Cn L) (z : List Str) : z ∈ lv ([], s, L) ↔ ∃ p, z = s :: p ∧ Way s L p := leaves_mem _ ([], s, L) z c rfl
end RM
namespace RM
open PySem PySem.Spec PyProof.Rows L2 CS RZ
/-! ### k10: one less, and all ways, over data -/
def sdLess : SpD := fun ds n k _ => ∃ L t0, ds = [.tuple (trisD L), triD t0] ∧ Cn L ∧ t0 ∈ L ∧ k (.tuple (trisD (lessT L (pr t0)))) n
abbrev n_less : List Str := ["_law_rows_so", "_law_own", "_law_found", "_law_bit", "_law_many_so"]
abbrev le_b : CS := cSq (cSet 4 (cOp subD (cOp atD (cVar 3) (cC (.int 2))) (cCB gInt (cCons (cOp eqD (cVar 3) (cVar 1)) (cNil))))) (cIfS (cB (cOp gtD (cVar 4) (cC (.int 0)))) (cDrop (cApp 2 (cTup (cCons (cOp atD (cVar 3) (cC (.int 0))) (cCons (cOp atD (cVar 3) (cC (.int 1))) (cCons (cVar 4) (cNil))))))) (cNext))
def cs_less : CS := cSq (cOwn 2 (cLst (cNil))) (cSq (cFor (cSeq (cVar 0)) (stN 3) le_b) (cRet (cCB gTuple (cCons (cVar 2) (cNil)))))
theorem eqD_tri {t u : Tri} (ht : GoodP (pr t)) (hu : GoodP (pr u)) : eqD (triD t) (triD u) = some (.bool (decide (t = u))) := by
  unfold eqD
  rw [(OkN.tri ht).ok (by decide), (OkN.tri hu).ok (by decide), if_pos (show (true && true) = true from rfl), triD_eqv]
section
variable {e : EndsD} {n : Nat}
theorem le_loop {x0 : D} {t0 : Tri} (g0 : GoodP (pr t0)) : ∀ (ts : List Tri) (acc : List D) (t3 t4 : Option Sl), (∀ t ∈ ts, GoodP (pr t)) → (∀ t ∈ ts, t = t0 ↔ pr t0 = pr t) → acc.length + ts.length ≤ 1000 →
    (∀ t3 t4, e.nx [some (.v x0), some (.v (triD t0)), some (.own (.list (acc ++ trisD ((ts.map (minus1 (pr t0))).filter fun t => decide (0 < t.2.2))))), t3, t4] n) →
    cForL (stN 3) le_b (trisD ts) [some (.v x0), some (.v (triD t0)), some (.own (.list acc)), t3, t4] n e
  | [], acc, t3, t4, _, _, _, q => by
    have := q t3 t4
    rw [List.map_nil, List.filter_nil, show trisD [] = [] from rfl, List.append_nil] at this
    exact this
  | t :: ts, acc, t3, t4, hg, hq, ha, q => by
    rw [List.length_cons] at ha
    rw [List.map_cons, List.filter_cons] at q
    have et : (if decide (t = t0) = true then (1 : Int) else 0) = if pr t0 = pr t then 1 else 0 := by
      by_cases c : t = t0
      · rw [decide_eq_true c, if_pos rfl, if_pos ((hq t (List.mem_cons_self ..)).mp c)]
      · rw [decide_eq_false c, if_neg (by decide), if_neg fun z => c ((hq t (List.mem_cons_self ..)).mpr z)]
    refine ⟨_, rfl, .int t.2.2, rfl, _, eqD_tri (hg t (List.mem_cons_self ..)) g0, .int (if decide (t = t0) = true then 1 else 0), .inr ⟨_, rfl, rfl⟩, .int (t.2.2 - if decide (t = t0) = true then 1 else 0), rfl, ?_⟩
    rw [et]
    have rec_ := fun acc' => le_loop g0 (x0 := x0) ts acc' (some (.v (triD t))) (some (.v (.int (t.2.2 - if pr t0 = pr t then 1 else 0)))) (fun u hu => hg u (List.mem_cons_of_mem _ hu)) (fun u hu => hq u (List.mem_cons_of_mem _ hu))
    refine ⟨_, rfl, _, rfl, ?_⟩
    by_cases c : 0 < t.2.2 - (if pr t0 = pr t then (1 : Int) else 0)
    · have c' : decide (0 < (minus1 (pr t0) t).2.2) = true := decide_eq_true c
      rw [if_pos c'] at q
      rw [decide_eq_true c]
      refine ⟨⟨acc, rfl⟩, .str t.1, rfl, .str t.2.1, rfl, by show 3 ≤ lim; decide, acc, rfl, by unfold lim; omega, ?_⟩
      refine rec_ (acc ++ [triD (minus1 (pr t0) t)]) (by rw [List.length_append, List.length_singleton]; omega) fun t3 t4 => ?_
      rw [List.append_assoc]
      exact q t3 t4
    · have c' : ¬ decide (0 < (minus1 (pr t0) t).2.2) = true := by
        rw [decide_eq_true_iff]
        exact c
      rw [if_neg c'] at q
      rw [decide_eq_false c]
      exact rec_ acc (by omega) q
theorem himp_less (ds : List D) (n : Nat) (k : D → Nat → Prop) (ke : Xv → Nat → Prop) (h : sdLess ds n k ke) (he : e.rt = k) : cs_less (startE n_less ds) n e := by
  obtain ⟨L, t0, rfl, c, h0, q⟩ := h
  subst he
  have ll := c.len
  refine ⟨by show 0 ≤ lim; decide, by show 2 < 5; decide, trisD L, rfl, ?_⟩
  refine le_loop (c.g t0 h0) L [] none none c.g (fun t ht => ⟨fun z => by rw [z], fun z => ?_⟩) (by rw [List.length_nil]; omega) fun t3 t4 => ?_
  · have h1 := numAt_mem c.nd ht
    have h2 := numAt_mem c.nd h0
    rw [← z, h2] at h1
    have e1 : t0.1 = t.1 := congrArg (fun p : Str × Str => p.1) z
    have e2 : t0.2.1 = t.2.1 := congrArg (fun p : Str × Str => p.2) z
    obtain ⟨a, b, i⟩ := t
    obtain ⟨a', b', i'⟩ := t0
    simp only at e1 e2 h1
    rw [e1, e2, h1]
  · have e1 : (L.map (minus1 (pr t0))).filter (fun t => decide (0 < t.2.2)) = lessT L (pr t0) := by
      unfold lessT
      rw [left_one]
    rw [List.nil_append, e1]
    exact ⟨_, ⟨_, _, rfl, rfl, rfl⟩, q⟩
/-! all ways -/
abbrev n_all : List Str := ["_law_first_so", "_law_rows_so", "_law_found", "_law_rest", "_law_own", "_law_trail", "_law_left_so"]
abbrev al_p : CS := cIfS (cB (cOp eqD (cOp atD (cVar 4) (cC (.int 0))) (cOp atD (cVar 5) (cNeg (cC (.int 1)))))) (cDrop (cApp 3 (cTup (cCons (cOp addD (cVar 5) (cTup (cCons (cOp atD (cVar 4) (cC (.int 1))) (cNil)))) (cCons (cCall sdLess (cCons (cVar 6) (cCons (cVar 4) (cNil)))) (cNil)))))) (cNext)
abbrev al_c : CT := cB (cOpQ neD (.nm 3) (cLst (cNil)))
abbrev al_b : CS := cSq (cAsg (stT (stCons (stN 5) (stCons (stN 6) (stNil)))) (cPop 3)) (cSq (cIfS (cB (cOp eqD (cVar 6) (cTup (cNil)))) (cDrop (cApp 2 (cVar 5))) (cNext)) (cFor (cSeq (cRev (cVar 6) (cNeg (cC (.int 1))))) (stN 4) al_p))
def cs_all : CS := cSq (cPar01 2 3 (cLst (cCons (cTup (cCons (cTup (cCons (cVar 0) (cNil))) (cCons (cVar 1) (cNil)))) (cNil)))) (cSq (cWh al_c al_b) (cRet (cVar 2)))
theorem push_loop {x0 x1 : D} {t2 : Option Sl} {r : List Str} {u : Str} {L : List Tri} (h : NOk (r, u, L)) : ∀ (ts : List Tri) (acc : List D) (t4 : Option Sl), (∀ t ∈ ts, t ∈ L) → acc.length + ts.length < lim →
    (∀ t4, e.nx [some (.v x0), some (.v x1), t2, some (.own (.list (acc ++ (kids ts u).map fun t => ndD (kid (r, u, L) t)))), t4, some (.v (rowT (r ++ [u]))), some (.v (.tuple (trisD L)))] n) →
    cForL (stN 4) al_p (trisD ts) [some (.v x0), some (.v x1), t2, some (.own (.list acc)), t4, some (.v (rowT (r ++ [u]))), some (.v (.tuple (trisD L)))] n e
  | [], acc, t4, _, _, q => by
    have := q t4
    rw [show kids [] u = [] from rfl, List.map_nil, List.append_nil] at this
    exact this
  | t :: ts, acc, t4, hs, ha, q => by
    have ht := hs t (List.mem_cons_self ..)
    rw [List.length_cons] at ha
    have gu : GoodS u := h.g u (List.mem_append_right _ (List.mem_singleton.mpr rfl))
    have gt : GoodS t.1 := (h.c.g t ht).1
    have hl := h.l
    refine ⟨_, rfl, .str t.1, rfl, 1, rfl, .str u, atI_last, _, eqD_str gt gu, _, rfl, ?_⟩
    by_cases c : t.1 = u
    · have ek : kids (t :: ts) u = t :: kids ts u := by
        unfold kids
        rw [List.filter_cons, if_pos (decide_eq_true c)]
      rw [ek] at q
      rw [decide_eq_true c]
      have ea : addD (rowT (r ++ [u])) (.tuple [.str t.2.1]) = some (rowT (r ++ [u] ++ [t.2.1])) := by
        show (if (strD (r ++ [u])).length + 1 ≤ lim then some (PyData.tuple (strD (r ++ [u]) ++ [.str t.2.1])) else none) = _
        rw [if_pos (by rw [strD_len, List.length_append, List.length_singleton]; have : (r, u, L).1.length = r.length := rfl; unfold lim; omega)]
        unfold rowT strD
        rw [List.map_append (l₁ := r ++ [u])]
        rfl
      refine ⟨⟨acc, rfl⟩, .str t.2.1, rfl, by show 1 ≤ lim; decide, _, ea, L, t, rfl, h.c, ht, by show 2 ≤ lim; decide, acc, rfl, by omega, ?_⟩
      refine push_loop h ts (acc ++ [ndD (kid (r, u, L) t)]) _ (fun z hz => hs z (List.mem_cons_of_mem _ hz)) (by rw [List.length_append, List.length_singleton]; omega) fun t4 => ?_
      rw [List.append_assoc]
      exact q t4
    · have ek : kids (t :: ts) u = kids ts u := by
        unfold kids
        rw [List.filter_cons, if_neg (by simpa using c)]
      rw [ek] at q
      rw [decide_eq_false c]
      exact push_loop h ts acc _ (fun z hz => hs z (List.mem_cons_of_mem _ hz)) (by omega) q
theorem ndD_ok {x : Nd} (h : NOk x) : OkN 3 (ndD x) := OkN.tuple fun d hd => by
  rcases List.mem_cons.mp hd with rfl | hd
  · have := OkN.strs (ys := x.1 ++ [x.2.1]) h.g
    exact ⟨this.1, this.2.1, Nat.le_succ_of_le this.2.2⟩
  · rw [List.mem_singleton.mp hd]
    exact OkN.tris h.c.g
theorem ne_rest {rest : List Nd} (h : ∀ x ∈ rest, NOk x) : neD (.list (rest.map ndD)) (.list []) = some (.bool (!rest.isEmpty)) := by
  have h1 : okE (.list (rest.map ndD)) = true := (OkN.list fun d hd => by
    obtain ⟨x, hx, rfl⟩ := List.mem_map.mp hd
    exact ndD_ok (h x hx)).ok (k := 4) (by decide)
  show (if (okE (.list (rest.map ndD)) && okE (.list [])) = true then some (PyData.bool (!PyData.eqv (.list (rest.map ndD)) (.list []))) else none) = _
  rw [h1, if_pos (show (true && okE (.list [])) = true from rfl)]
  cases rest with
  | nil => rfl
  | cons x r => rfl
theorem all_loop {x0 x1 : D} : ∀ (k : Nat) (rest : List Nd) (found : List (List Str)) (t4 t5 t6 : Option Sl), (rest.map nn).sum ≤ k → (∀ x ∈ rest, NOk x) → found.length + (rest.map nn).sum ≤ 9864101 →
    (∀ t4 t5 t6, e.nx [some (.v x0), some (.v x1), some (.own (.list ((found ++ rest.reverse.flatMap lv).map rowT))), some (.own (.list [])), t4, t5, t6] n) →
    cWhL al_c al_b (k + 1) [some (.v x0), some (.v x1), some (.own (.list (found.map rowT))), some (.own (.list (rest.map ndD))), t4, t5, t6] n e := by
  intro k
  induction k with
  | zero =>
    intro rest found t4 t5 t6 hk hok hb q
    have hl := len_le_sum rest
    have : rest = [] := List.length_eq_zero_iff.mp (by omega)
    subst this
    refine ⟨rfl, by show 0 ≤ lim; decide, _, _, rfl, ne_rest hok, rfl, _, rfl, ?_⟩
    have := q t4 t5 t6
    rw [List.reverse_nil, List.flatMap_nil, List.append_nil] at this
    exact this
  | succ k ih =>
    intro rest found t4 t5 t6 hk hok hb q
    refine ⟨rfl, by show 0 ≤ lim; decide, _, _, rfl, ne_rest hok, rfl, _, rfl, ?_⟩
    rcases List.eq_nil_or_concat rest with rfl | ⟨init, x, rfl⟩
    · have := q t4 t5 t6
      rw [List.reverse_nil, List.flatMap_nil, List.append_nil] at this
      exact this
    · rw [List.concat_eq_append] at *
      have hx := hok x (List.mem_append_right _ (List.mem_singleton.mpr rfl))
      have hi : ∀ y ∈ init, NOk y := fun y hy => hok y (List.mem_append_left _ hy)
      have hli := len_le_sum init
      have hnx := nn_pos x
      rw [List.map_append, List.sum_append] at hk hb
      have e0 : (List.map nn [x]).sum = nn x := by simp
      rw [e0] at hk hb
      have ee : (!(init ++ [x]).isEmpty) = true := by simp
      rw [ee]
      have em : (init ++ [x]).map ndD = init.map ndD ++ [ndD x] := by rw [List.map_append]; rfl
      rw [em]
      obtain ⟨r, u, L⟩ := x
      refine ⟨init.map ndD, ndD (r, u, L), rfl, _, rfl, by show 0 ≤ lim; decide, _, eqD_tris (m := []) hx.c.g (fun _ h => by cases h), _, rfl, ?_⟩
      have er : (init ++ [(r, u, L)]).reverse.flatMap lv = lv (r, u, L) ++ init.reverse.flatMap lv := by
        rw [List.reverse_append, List.flatMap_append]
        simp
      rw [er] at q
      by_cases c : L = []
      · rw [decide_eq_true c]
        obtain ⟨v1, v2⟩ := lv_nil (x := (r, u, L)) hx.c c
        rw [v1] at q
        refine ⟨⟨found.map rowT, rfl⟩, found.map rowT, rfl, by rw [List.length_map]; unfold lim; omega, ?_⟩
        have ef : found.map rowT ++ [rowT (r ++ [u])] = (found ++ [r ++ [u]]).map rowT := by rw [List.map_append]; rfl
        rw [ef]
        refine ⟨1, rfl, rfl, _, rfl, (trisD L).reverse, rfl, ?_⟩
        rw [c]
        refine ih init (found ++ [r ++ [u]]) _ _ _ (by omega) hi (by rw [List.length_append, List.length_singleton]; omega) fun t4 t5 t6 => ?_
        rw [List.append_assoc]
        exact q t4 t5 t6
      · rw [decide_eq_false c]
        obtain ⟨v1, v2⟩ := lv_cons (x := (r, u, L)) hx.c c
        have hL := hx.c.len
        refine ⟨1, rfl, rfl, _, rfl, trisD L.reverse, ?_, ?_⟩
        · show some ((trisD L).reverse) = _
          unfold trisD
          rw [List.map_reverse]
        refine push_loop hx L.reverse (init.map ndD) _ (fun t ht => List.mem_reverse.mp ht) (by rw [List.length_map, List.length_reverse]; have : (r, u, L).2.2.length = L.length := rfl; unfold lim; omega) fun t4 => ?_
        have ek : (kids L.reverse u).map (fun t => ndD (kid (r, u, L) t)) = (((kids L u).reverse).map (kid (r, u, L))).map ndD := by
          unfold kids
          rw [List.filter_reverse, List.map_map]
          rfl
        rw [ek, ← List.map_append]
        have sumk : ((((kids L u).reverse).map (kid (r, u, L))).map nn).sum = ((kids L u).map fun t => nn (kid (r, u, L) t)).sum := by
          rw [List.map_map, List.map_reverse, List.sum_reverse]
          rfl
        have v2' : nn (r, u, L) = 1 + ((kids L u).map fun t => nn (kid (r, u, L) t)).sum := v2
        refine ih (init ++ ((kids L u).reverse).map (kid (r, u, L))) found _ _ _ (by rw [List.map_append, List.sum_append, sumk]; omega) (fun y hy => ?_) (by rw [List.map_append, List.sum_append, sumk]; omega) fun t4 t5 t6 => ?_
        · rcases List.mem_append.mp hy with hy | hy
          · exact hi y hy
          · obtain ⟨t, ht, rfl⟩ := List.mem_map.mp hy
            exact hx.kid (List.mem_reverse.mp ht)
        · have e3 : (init ++ ((kids L u).reverse).map (kid (r, u, L))).reverse.flatMap lv = lv (r, u, L) ++ init.reverse.flatMap lv := by
            rw [List.reverse_append, List.flatMap_append, List.map_reverse, List.reverse_reverse, List.flatMap_map, v1]
          rw [e3]
          exact q t4 t5 t6
end
end RM
namespace RM
open PySem PySem.Spec PyProof.Rows L2 CS RZ
/-! ### k10: a case -/
end RM
namespace RM
open PySem PySem.Spec PyProof.Rows L2 CS RZ
/-! ### sorted(set(e)), e a long list of few texts -/
end RM
namespace RM
open PySem PySem.Spec PyProof.Rows L2 CS RZ
/-! ### k10: the case, to its end -/
end RM
namespace RM
open PySem PySem.Spec PyProof.Rows L2 CS RZ
/-! ### k10: near, and a drawn turn -/
def totT (l : List Tri) : Int := (l.map fun t => t.2.2).sum
theorem totT_cons (t : Tri) (l : List Tri) : totT (t :: l) = t.2.2 + totT l := by
  unfold totT
  rw [List.map_cons, List.sum_cons]
theorem some_of : ∀ (ps : List (Str × Str)) (q : Str × Str) (x : Int), ps.Nodup → 0 ≤ x → (ps.map fun p => if q = p then x else 0).sum ≤ x
  | [], q, x, _, h => h
  | p :: ps, q, x, hn, h => by
    obtain ⟨h1, h2⟩ := List.nodup_cons.mp hn
    rw [List.map_cons, List.sum_cons]
    by_cases c : q = p
    · rw [if_pos c]
      have : (ps.map fun p => if q = p then x else 0).sum = 0 := by
        have key : ∀ ps : List (Str × Str), q ∉ ps → (ps.map fun p => if q = p then x else 0).sum = 0 := by
          intro ps
          induction ps with
          | nil => intro _; rfl
          | cons a ps ih =>
            intro hq
            rw [List.mem_cons, not_or] at hq
            rw [List.map_cons, List.sum_cons, if_neg hq.1, ih hq.2]
            rfl
        exact key ps (c ▸ h1)
      omega
    · rw [if_neg c]
      have := some_of ps q x h2 h
      omega
theorem sum_some (ps : List (Str × Str)) (hn : ps.Nodup) : ∀ l : List Tri, (∀ t ∈ l, 0 ≤ t.2.2) → (ps.map (sumAt l)).sum ≤ totT l
  | [], _ => by
    have key : ∀ ps : List (Str × Str), (ps.map (sumAt [])).sum = 0 := by
      intro ps
      induction ps with
      | nil => rfl
      | cons a ps ih =>
        rw [List.map_cons, List.sum_cons, ih]
        rfl
    rw [key]
    exact Int.le_refl 0
  | t :: l, h => by
    have h1 := sum_some ps hn l fun u hu => h u (List.mem_cons_of_mem _ hu)
    have h2 := some_of ps (pr t) t.2.2 hn (h t (List.mem_cons_self ..))
    rw [totT_cons]
    have key : ∀ ps : List (Str × Str), (ps.map (sumAt (t :: l))).sum = (ps.map fun p => if pr t = p then t.2.2 else 0).sum + (ps.map (sumAt l)).sum := by
      intro ps
      induction ps with
      | nil => rfl
      | cons a ps ih =>
        simp only [List.map_cons, List.sum_cons]
        rw [ih, sumAt_cons]
        omega
    rw [key]
    omega
theorem tot_canon {l : List Tri} (h : ∀ t ∈ l, 0 ≤ t.2.2) : totT (canon l) ≤ totT l := by
  have e1 : totT (canon l) = (((canon l).map pr).map (sumAt l)).sum := by
    unfold totT
    rw [List.map_map]
    exact congrArg List.sum (List.map_congr_left fun t ht => (canon_mem ht).2.2)
  rw [e1]
  exact sum_some _ (canon_nodup l) l h
structure Nc (m : Int) (ss : List Str) (l : List Tri) : Prop where
  ok : ∀ t ∈ l, t.1 ∈ ss ∧ t.2.1 ∈ ss ∧ t.1 ≠ t.2.1 ∧ 0 ≤ t.2.2
  len : l.length ≤ 30
  tot : totT l ≤ m
theorem Nc.fine {m : Int} {ss : List Str} {l : List Tri} (h : Nc m ss l) : Fine l := fun t ht => (h.ok t ht).2.2
theorem Nc.ex {ss : List Str} {l : List Tri} (h : Nc 10 ss l) : (exL (canon l)).length ≤ 10 := by
  have h1 := ex_len (canon l) fun t ht => Int.le_of_lt (canon_mem ht).2.1
  have h2 := tot_canon fun t ht => (h.ok t ht).2.2.2
  have h3 := h.tot
  unfold totT at h2 h3
  omega
/-! ### a drawn turn -/
end RM
namespace RM
open PySem PySem.Spec PyProof.Rows L2 CS RZ
/-! ### a value-level expression inside a bare one -/
/-! ### k10: the six given cases -/
end RM
namespace RM
open PySem PySem.Spec PyProof.Rows L2 CS RZ
/-! ### k11: the first of all journeys is the least one -/
end RM
namespace RM
open PySem PySem.Spec PyProof.Rows L2 CS RZ
/-! ### all journeys of at most eleven steps over at most six places -/
theorem nd_len : ∀ (xs ss : List Str), xs.Nodup → (∀ x ∈ xs, x ∈ ss) → xs.length ≤ ss.length
  | [], _, _, _ => Nat.zero_le _
  | x :: xs, ss, hn, h => by
    obtain ⟨h1, h2⟩ := List.nodup_cons.mp hn
    have h3 := h x (List.mem_cons_self ..)
    have h4 := nd_len xs (ss.erase x) h2 fun y hy => (List.mem_erase_of_ne (fun z : y = x => h1 (by rw [← z]; exact hy))).mpr (h y (List.mem_cons_of_mem _ hy))
    have h5 := List.length_erase_of_mem h3
    have h6 := List.length_pos_of_mem h3
    rw [List.length_cons]
    omega
def nb5 : Nat → Nat
  | 0 => 1
  | m + 1 => 1 + min (m + 1) 5 * nb5 m
theorem nb5_eleven : nb5 11 = 5097656 := by decide
theorem nb5_mono : ∀ {a b : Nat}, a ≤ b → nb5 a ≤ nb5 b
  | a, 0, h => by
    have : a = 0 := by omega
    rw [this]
    exact Nat.le_refl _
  | a, b + 1, h => by
    by_cases c : a = b + 1
    · rw [c]
      exact Nat.le_refl _
    · have h1 := nb5_mono (a := a) (b := b) (by omega)
      show nb5 a ≤ 1 + min (b + 1) 5 * nb5 b
      have h2 : nb5 b ≤ min (b + 1) 5 * nb5 b := Nat.le_mul_of_pos_left _ (by omega)
      omega
theorem kids_five {L : List Tri} {u : Str} {ss : List Str} (c : Cn L) (h : ∀ t ∈ L, t.1 ∈ ss ∧ t.2.1 ∈ ss) (h6 : ss.length ≤ 6) : (kids L u).length ≤ 5 := by
  cases e : kids L u with
  | nil => exact Nat.zero_le _
  | cons t0 r =>
    rw [← e]
    have hu : u ∈ ss := by
      have h1 := kids_in (L := L) (u := u) (t := t0) (by rw [e]; exact List.mem_cons_self ..)
      rw [← h1.2]
      exact (h t0 h1.1).1
    have nd : ((kids L u).map fun t => t.2.1).Nodup := by
      have nf : ((kids L u).map pr).Nodup := c.nd.sublist (List.filter_sublist.map _)
      refine List.pairwise_map.mpr ((List.pairwise_map.mp nf).imp_of_mem fun {t v} ht hv h z => h ?_)
      show (t.1, t.2.1) = (v.1, v.2.1)
      rw [(kids_in ht).2, (kids_in hv).2, z]
    have := nd_len (u :: (kids L u).map fun t => t.2.1) ss (List.nodup_cons.mpr ⟨fun z => by
      obtain ⟨t, ht, e2⟩ := List.mem_map.mp z
      obtain ⟨h1, h2⟩ := kids_in ht
      exact (c.fine t h1).1 (by rw [h2, e2]), nd⟩) fun y hy => by
      rcases List.mem_cons.mp hy with rfl | hy
      · exact hu
      · obtain ⟨t, ht, rfl⟩ := List.mem_map.mp hy
        exact (h t (kids_in ht).1).2
    rw [List.length_cons, List.length_map] at this
    omega
theorem nodes_five {ss : List Str} (h6 : ss.length ≤ 6) : ∀ (m : Nat) (x : Nd), NOk x → sz x = m → (∀ t ∈ x.2.2, t.1 ∈ ss ∧ t.2.1 ∈ ss) → nodes m x ≤ nb5 m
  | 0, x, _, _, _ => Nat.le_refl _
  | m + 1, x, h, hm, hs => by
    have h1 := sum_bound (fun t => nodes m (kid x t)) (nb5 m) (kids x.2.2 x.2.1) fun t ht => nodes_five h6 m (kid x t) (h.kid ht) (by have := kid_sz h.c (kids_in ht).1; omega) fun u hu => by
      obtain ⟨v, hv, e1, _⟩ := less_mem hu
      have := hs v hv
      have e2 : v.1 = u.1 := congrArg (fun p : Str × Str => p.1) e1
      have e3 : v.2.1 = u.2.1 := congrArg (fun p : Str × Str => p.2) e1
      rw [e2, e3] at this
      exact this
    have h2 : (kids x.2.2 x.2.1).length ≤ m + 1 := by
      have a1 : (kids x.2.2 x.2.1).length ≤ x.2.2.length := List.length_filter_le _ _
      have a2 := len_ex x.2.2 h.c.pos
      have a3 : (exL x.2.2).length = m + 1 := hm
      omega
    have h5 := kids_five (u := x.2.1) h.c hs h6
    have h3 : (kids x.2.2 x.2.1).length * nb5 m ≤ min (m + 1) 5 * nb5 m := Nat.mul_le_mul_right _ (by omega)
    show 1 + _ ≤ 1 + min (m + 1) 5 * nb5 m
    omega
/-- the law's list of all journeys: at most ten steps, or at most eleven over six places -/
def sdAllB : SpD := fun ds n k _ => ∃ s L, ds = [.str s, .tuple (trisD L)] ∧ GoodS s ∧ Cn L ∧ (exL L).length ≤ 40 ∧ nn ([], s, L) ≤ 9864101 ∧ k (.list ((lv ([], s, L)).map rowT)) n
theorem himp_allB {e : EndsD} (ds : List D) (n : Nat) (k : D → Nat → Prop) (ke : Xv → Nat → Prop) (h : sdAllB ds n k ke) (he : e.rt = k) : cs_all (startE n_all ds) n e := by
  obtain ⟨s, L, rfl, gs, c, hl, hn, q⟩ := h
  subst he
  have ok : NOk ([], s, L) := ⟨fun y hy => by rw [List.mem_singleton.mp hy]; exact gs, c, by show 0 + (exL L).length ≤ 50; omega⟩
  refine ⟨by show 2 < 7; decide, by show 3 < 7; decide, by show 1 ≤ lim; decide, by show 2 ≤ lim; decide, by show 1 ≤ lim; decide, rfl, nn ([], s, L) + 1, ?_⟩
  refine all_loop (nn ([], s, L)) [([], s, L)] [] none none none (by simp) (fun x hx => by rw [List.mem_singleton.mp hx]; exact ok) (by simpa using hn) fun t4 t5 t6 => ?_
  have e1 : (([] : List (List Str)) ++ [([], s, L)].reverse.flatMap lv) = lv ([], s, L) := by simp
  rw [e1]
  exact q
theorem nn_five {ss : List Str} {s : Str} {L : List Tri} (gs : GoodS s) (c : Cn L) (h6 : ss.length ≤ 6) (hs : ∀ t ∈ L, t.1 ∈ ss ∧ t.2.1 ∈ ss) (hl : (exL L).length ≤ 11) : nn ([], s, L) ≤ 9864101 := by
  have ok : NOk ([], s, L) := ⟨fun y hy => by rw [List.mem_singleton.mp hy]; exact gs, c, by show 0 + (exL L).length ≤ 50; omega⟩
  have h1 := nodes_five h6 (sz ([], s, L)) ([], s, L) ok rfl hs
  have h2 := nb5_mono (a := sz ([], s, L)) (b := 11) hl
  rw [nb5_eleven] at h2
  have h3 : nn ([], s, L) = nodes (sz ([], s, L)) ([], s, L) := rfl
  omega
end RM
namespace RM
open PySem PySem.Spec PyProof.Rows L2 CS RZ
/-! ### k11: gone, also where there is no such step -/
end RM
namespace RM
open PySem PySem.Spec PyProof.Rows L2 CS RZ
/-! ### k11: a drawn turn -/
end RM
namespace RM
open PySem PySem.Spec PyProof.Rows L2 CS RZ
/-! ### k11: what is left, or what lacks -/
end RM
namespace RM
open PySem PySem.Spec PyProof.Rows L2 CS RZ
/-! ### v = f(m); if t: return ..; v.append(e), f's list being new: behind it v is not read -/
end RM
namespace RM
open PySem PySem.Spec PyProof.Rows L2 CS RZ
/-! ### k11: a case, its beginning -/
end RM
namespace RM
open PySem PySem.Spec PyProof.Rows L2 CS RZ
/-! ### k11: a case, its middle -/
end RM
namespace RM
open PySem PySem.Spec PyProof.Rows L2 CS RZ
/-! ### k11: a case, its end -/
end RM
namespace RM
open PySem PySem.Spec PyProof.Rows L2 CS RZ
/-! ### f(k2 = x, k1 = y): a def called by names, in another order -/
def pickL {α : Type} (is : List Nat) (l : List α) : List α := is.filterMap fun i => l[i]?
theorem IsL.pick {T : Tab} {H : Hp} {v : List V} {d : List D} (h : IsL T H v d) : ∀ is : List Nat, IsL T H (pickL is v) (pickL is d)
  | [] => .nil
  | i :: is => by
    have ih := h.pick is
    unfold pickL at ih ⊢
    rw [List.filterMap_cons, List.filterMap_cons]
    cases e : d[i]? with
    | none =>
      have e2 : v[i]? = none := by
        rw [List.getElem?_eq_none_iff] at e ⊢
        rw [h.length]
        exact e
      rw [e2]
      exact ih
    | some x =>
      obtain ⟨y, e2, r⟩ := h.get e
      rw [e2]
      exact .cons r ih
theorem vals_at : ∀ {vs : List V} {us : List Value}, Vals vs us → ∀ i : Nat, (vs[i]? = none ∧ us[i]? = none) ∨ ∃ v u, vs[i]? = some v ∧ us[i]? = some u ∧ Vals [v] [u]
  | _, _, .nil, i => .inl ⟨rfl, rfl⟩
  | _, _, .cons h r, 0 => .inr ⟨_, _, rfl, rfl, .cons h .nil⟩
  | _, _, .cons h r, i + 1 => by
    rw [List.getElem?_cons_succ, List.getElem?_cons_succ]
    exact vals_at r i
theorem vals_pick {vs : List V} {us : List Value} (h : Vals vs us) : ∀ is : List Nat, Vals (pickL is vs) (pickL is us)
  | [] => .nil
  | i :: is => by
    have ih := vals_pick h is
    unfold pickL at ih ⊢
    rw [List.filterMap_cons, List.filterMap_cons]
    rcases vals_at h i with ⟨e1, e2⟩ | ⟨v, u, e1, e2, r⟩
    · rw [e1, e2]
      exact ih
    · rw [e1, e2]
      cases r with
      | cons r _ => exact .cons r ih
structure HasFP (P : Program) (w : World) (K : PySem.W.Frag) (mg : Str → Option Value) (base : Heap) (CX : CXT) (g : Glob) (k : Nat) (x : Str) (ps ks : List Str) (is : List Nat) (sd : SpD) : Prop where
  ex : ∃ f fd, FnOk P w K mg base CX k f fd ps (spD g sd) ∧ (∃ gs, KBn K fd ps 0 ks gs (fun vs zs => vs ++ pickL is zs)) ∧ PySem.W.keepIn K (.ref f) = true ∧ mg x = some (.ref f)
def cCallP (N : Nat) (is : List Nat) (sd : SpD) (ta : CA) : CE := fun ρ n k ke => ta ρ n (fun ds ρ1 n1 => ds.length = N ∧ sd (pickL is ds) n1 (fun d n2 => k d ρ1 n2) (fun y n2 => ke y ρ1 n2)) ke
section
variable {X : Cx} {g : Glob} {xk : WX} {pos p : Pos} {CX : CXT} {j k : Nat} {x : Str} {ps ks : List Str} {is : List Nat} {ta : CA} {sd : SpD}
theorem pd_funP {kws : List Keyword} (h : HasFP X.prog X.w X.K X.mg X.base CX g j x ps ks is sd) (hr : Room k X.A) (l : j ≤ k) (hg : Gl X x) (hx : ∀ σ, PassesAt CX X σ (WE xk σ)) (ha : PDKw X g xk kws ta)
    (hall : (backToKw pos (keywordEach kws X.env)).all (·.1.isSome) = true := by rfl) (hks : (backToKw pos (keywordEach kws X.env)).filterMap (·.1) = ks := by rfl) (hdb : (x == ("__debug__" : Str)) = false := by decide)
    (hpl : ((backTo pos (starEach [] X.env)).any (·.1) || (backToKw pos (keywordEach kws X.env)).any (·.1.isNone)) = false := by rfl) : PD X g xk (.Call (.Name x p) [] kws pos) (cCallP ks.length is sd ta) := by
  obtain ⟨f, fd, F, ⟨gs, hb⟩, hk, hm⟩ := h.ex
  refine ⟨⟨fun pins s σ H Q I h => ?_⟩⟩
  obtain ⟨C, ρ, n, O, kk, ke, hK, E, t, xl, q⟩ := h
  refine wpAny_Call_Name_kw (ld_glob I hg hm ?_ hdb)
  refine PySem.W.callWith_KW0 (first := []) (h₀ := X.base) I.ok.mod.kin hk hall ?_ hpl
  refine thn (ha.pk.run pos pins s σ H (fun vs H2 => vs.length = ks.length ∧ spD g sd (pickL is vs) H2 Q (WE xk σ)) I ⟨C, ρ, n, O, _, ke, hK, E, t, xl, fun ds ρ2 n2 vs H2 O2 k2 E2 S2 i2 => ⟨by rw [i2.length]; exact k2.1,
    spD_use hK E2 xl (i2.pick is) k2.2 fun d n' v H' a b c i => q _ _ _ _ _ _ a b (S2.trans c) i⟩⟩) fun ws s3 ⟨zs, H2, I3, r2, l2, q2⟩ => ⟨I3.kIn, ?_⟩
  rw [hks]
  exact run_kw (us := []) (vs := []) (E := WE xk) F (hr.mono l) hb (hx σ) I3 .nil r2 rfl (r2.length.symm.trans l2) q2
end
theorem kb_names {K : PySem.W.Frag} {x qual : Str} {st : Stmt} {f : Addr} {fd : FuncData} {ps ks : List Str} {is : List Nat} (F : Fun K x qual st f fd)
    (h : ∀ (kV doc pm : Value) (an : Option Addr) (cdv ct : Value) (ws : List Value), ws.length = ks.length → bindArgs (PySem.W.fnOf x qual (defArgs st) (defBody st) (defScope st) .none kV doc pm an cdv ct) ⟨[], ks.zip ws⟩ = pure (ps.zip (pickL is ws))) :
    ∃ gs, KBn K fd ps 0 ks gs (fun vs zs => vs ++ pickL is zs) := by
  obtain ⟨oc, od, kV, doc, pm, an, cdv, ct, osl, rfl, lk, hcd⟩ := F.ex
  refine ⟨fun us ws => us ++ pickL is ws, fun s us ws _ hu hw => ?_, fun r1 r2 => ?_⟩
  · match us, hu with
    | [], _ => exact .of_eq (h kV doc pm an cdv ct ws hw)
  · induction r1 with
    | nil => exact vals_pick r2 is
    | cons a _ ih => exact .cons a ih
end RM
namespace RM
open PySem PySem.Spec PyProof.Rows L2 CS RZ
/-! ### k11 by hand: what is due -/
end RM
namespace RM
open PySem PySem.Spec PyProof.Rows L2 CS RZ
/-! ### k11 by hand -/
end RM
namespace RM
open PySem PySem.Spec PyProof.Rows L2 CS RZ
/-! ### k13: rounds added to a journey -/
theorem over_ext {l m : List Tri} (h : ∀ p, sumAt l p = sumAt m p) (v : Str) : over l v = over m v := by
  have hc : ∀ p, ends l p → p ∈ placesL v (l ++ m) := fun p ⟨t, ht, q⟩ => (places_mem p).mpr (.inr ⟨t, List.mem_append_left _ ht, q⟩)
  have hd : ∀ p, ends m p → p ∈ placesL v (l ++ m) := fun p ⟨t, ht, q⟩ => (places_mem p).mpr (.inr ⟨t, List.mem_append_right _ ht, q⟩)
  have nd := places_nd (s := v) (L := l ++ m)
  have e1 : ((placesL v (l ++ m)).map fun y => sumAt l (v, y)) = (placesL v (l ++ m)).map fun y => sumAt m (v, y) := List.map_congr_left fun y _ => h _
  have e2 : ((placesL v (l ++ m)).map fun y => sumAt l (y, v)) = (placesL v (l ++ m)).map fun y => sumAt m (y, v) := List.map_congr_left fun y _ => h _
  rw [over_eq, over_eq, ← sum_outs nd v l hc, ← sum_outs nd v m hd, ← sum_ins nd v l hc, ← sum_ins nd v m hd, e1, e2]
theorem over_canon {l : List Tri} (h : Fine l) (v : Str) : over (canon l) v = over l v := over_ext (fun p => sumAt_canon' h p) v
theorem ex_step : ∀ l : List Ed, exL (l.map fun p => ((p.1, p.2, 1) : Tri)) = l
  | [] => rfl
  | p :: l => by
    have ih := ex_step l
    unfold exL at ih ⊢
    rw [List.map_cons, List.flatMap_cons, ih]
    rfl
theorem over_step (s : Str) (p : List Str) (v : Str) : over (stepT (s :: p)) v = one v s - one v (endOf s p) := by
  refine (deg_ex (L := stepT (s :: p)) (fun t ht => ?_)).mp ?_ v
  · obtain ⟨q, _, rfl⟩ := List.mem_map.mp ht
    show (0 : Int) ≤ 1
    decide
  · unfold stepT
    rw [ex_step]
    exact way_deg s p
theorem count_ex : ∀ (L : List Tri) (e : Ed), (∀ t ∈ L, 0 ≤ t.2.2) → ((exL L).count e : Int) = sumAt L e
  | [], e, _ => rfl
  | t :: L, e, h => by
    have ih := count_ex L e fun u hu => h u (List.mem_cons_of_mem _ hu)
    have h0 := h t (List.mem_cons_self ..)
    have e1 : exL (t :: L) = List.replicate t.2.2.toNat (pr t) ++ exL L := by unfold exL; rw [List.flatMap_cons]
    rw [e1, sumAt_cons, ← ih, List.count_append, List.count_replicate]
    by_cases c : pr t = e
    · rw [if_pos c, if_pos (by simpa using c)]
      omega
    · rw [if_neg c, if_neg (by simpa using c)]
      omega
theorem drop_pairs : ∀ (k : Nat) (l : List Str), ∀ e ∈ pairsOf (l.drop k), e ∈ pairsOf l
  | 0, l, e, h => h
  | k + 1, [], e, h => h
  | k + 1, [a], e, h => by
    rw [List.drop_succ_cons, List.drop_nil] at h
    exact h
  | k + 1, a :: b :: l, e, h => by
    rw [List.drop_succ_cons] at h
    exact List.mem_cons_of_mem _ (drop_pairs k (b :: l) e h)
/-- what is found, not yet added up -/
structure Fd (row : List Str) (l : List Tri) : Prop where
  fine : Fine l
  sub : ∀ t ∈ l, pr t ∈ pairsOf row
  ov : ∀ v, over l v = over (stepT row) v
  ge : ∀ e, sumAt (stepT row) e ≤ sumAt l e
theorem step_pr (row : List Str) : (stepT row).map pr = pairsOf row := by
  unfold stepT
  rw [List.map_map]
  exact List.map_id' _
theorem fd_start {row : List Str} (j : Jn row) : Fd row (canon (stepT row)) where
  fine := fine_canon j.fine
  sub := fun t ht => by
    have := (canon_mem ht).1
    rwa [step_pr] at this
  ov := over_canon j.fine
  ge := fun e => by rw [sumAt_canon' j.fine]; exact Int.le_refl _
/-! the Counts of it -/
structure Rd (s : Str) (p : List Str) (L : List Tri) : Prop where
  pc : Pc s L
  ov : ∀ v, over L v = one v s - one v (endOf s p)
  sub : ∀ e ∈ L.map pr, e ∈ pairsOf (s :: p)
  ge : ∀ e, (pairsOf (s :: p)).count e ≤ (exL L).count e
theorem nodup_le {α : Type} [DecidableEq α] : ∀ {a b : List α}, a.Nodup → (∀ x ∈ a, x ∈ b) → a.length ≤ b.length
  | [], _, _, _ => Nat.zero_le _
  | x :: a, b, hn, h => by
    obtain ⟨h1, h2⟩ := List.nodup_cons.mp hn
    have hx := h x (List.mem_cons_self ..)
    have := nodup_le (b := b.erase x) h2 fun y hy => (List.mem_erase_of_ne (fun z : y = x => h1 (z ▸ hy))).mpr (h y (List.mem_cons_of_mem _ hy))
    have l := List.length_erase_of_mem hx
    have : 0 < b.length := List.length_pos_of_mem hx
    rw [List.length_cons]
    omega
theorem rd_of {s : Str} {p : List Str} {l : List Tri} (j : Jn (s :: p)) (hl : (s :: p).length ≤ 31) (hn : ∀ y ∈ s :: p, y ≠ "none") (f : Fd (s :: p) l) : Rd s p (canon l) where
  pc := {
    cn := ⟨good_canon fun t ht => by
        have := pairs_in s p _ (f.sub t ht)
        exact ⟨j.good _ this.1, j.good _ this.2⟩, fine_canon f.fine, fun t ht => (canon_mem ht).2.1, by
        have h1 := nodup_le (b := pairsOf (s :: p)) (canon_nodup l) fun e he => by
          obtain ⟨t, ht, rfl⟩ := List.mem_map.mp he
          obtain ⟨u, hu, q⟩ := List.mem_map.mp (canon_mem ht).1
          rw [← q]
          exact f.sub u hu
        rw [List.length_map, pairs_len] at h1
        omega, canon_nodup l, List.pairwise_map.mpr (canon_pw l)⟩
    gs := j.good s (List.mem_cons_self ..)
    ll := by
      have h1 := nodup_le (b := pairsOf (s :: p)) (canon_nodup l) fun e he => by
        obtain ⟨t, ht, rfl⟩ := List.mem_map.mp he
        obtain ⟨u, hu, q⟩ := List.mem_map.mp (canon_mem ht).1
        rw [← q]
        exact f.sub u hu
      rw [List.length_map, pairs_len] at h1
      omega
    nn := fun y hy => by
      rcases (places_mem y).mp hy with rfl | ⟨t, ht, e⟩
      · exact hn _ (List.mem_cons_self ..)
      · obtain ⟨u, hu, q⟩ := List.mem_map.mp (canon_mem ht).1
        have := pairs_in s p _ (f.sub u hu)
        rw [q] at this
        rcases e with rfl | rfl
        · exact hn _ this.1
        · exact hn _ this.2 }
  ov := fun v => by rw [over_canon f.fine, f.ov, over_step]
  sub := fun e he => by
    obtain ⟨t, ht, rfl⟩ := List.mem_map.mp he
    obtain ⟨u, hu, q⟩ := List.mem_map.mp (canon_mem ht).1
    rw [← q]
    exact f.sub u hu
  ge := fun e => by
    have h1 := count_ex (canon l) e fun t ht => (fine_canon f.fine t ht).2
    have h2 := count_ex (stepT (s :: p)) e fun t ht => (j.fine t ht).2
    have h3 := f.ge e
    unfold stepT at h2
    rw [ex_step] at h2
    rw [sumAt_canon' f.fine] at h1
    have h4 : sumAt (stepT (s :: p)) e = sumAt ((pairsOf (s :: p)).map fun p => ((p.1, p.2, 1) : Tri)) e := rfl
    omega
section
variable {s b : Str} {p q : List Str} {L : List Tri}
theorem Rd.mem (r : Rd s p L) {e : Ed} : e ∈ exL L ↔ e ∈ pairsOf (s :: p) := by
  constructor
  · intro h
    exact r.sub e ((mem_ex r.pc.cn.pos e).mp h)
  · intro h
    have h1 := r.ge e
    have h2 : 0 < (pairsOf (s :: p)).count e := List.count_pos_iff.mpr h
    exact List.count_pos_iff.mp (by omega)
theorem Rd.way (r : Rd s p L) : ∃ w, Way s L w ∧ endOf s w = endOf s p := by
  refine way_is ((deg_ex fun t ht => Int.le_of_lt (r.pc.cn.pos t ht)).mpr r.ov) fun V hs hV e he => ?_
  have := way_hang s p V hs fun e he => hV e (r.mem.mpr he)
  exact this e.1 (pairs_in s p e (r.mem.mp he)).1
theorem Rd.fin (r : Rd s p L) : endS s L = endOf s p := by
  obtain ⟨w, h, e⟩ := r.way
  rw [way_end r.pc.cn.pos h, e]
end
end RM
namespace RM
open PySem PySem.Spec PyProof.Rows L2 CS RZ
/-! ### k13: turned, and in one piece -/
section
variable {s b n0 n1 : Str} {p q : List Str} {L : List Tri}
theorem sum_turn : ∀ (l : List Tri) (a b : Str), sumAt (l.map turnT) (a, b) = sumAt l (b, a)
  | [], _, _ => rfl
  | t :: l, a, b => by
    rw [List.map_cons, sumAt_cons, sumAt_cons, sum_turn l a b]
    have : (pr (turnT t) = (a, b)) ↔ (pr t = (b, a)) := by
      show ((t.2.1, t.1) : Ed) = (a, b) ↔ ((t.1, t.2.1) : Ed) = (b, a)
      simp only [Prod.mk.injEq]
      exact And.comm
    by_cases c : pr t = (b, a)
    · rw [if_pos c, if_pos (this.mpr c)]
      rfl
    · rw [if_neg c, if_neg fun z => c (this.mp z)]
theorem fine_turn (h : Fine L) : Fine (L.map turnT) := fun t ht => by
  obtain ⟨u, hu, rfl⟩ := List.mem_map.mp ht
  exact ⟨(h u hu).1.symm, (h u hu).2⟩
theorem good_turn (h : GoodL L) : GoodL (L.map turnT) := fun t ht => by
  obtain ⟨u, hu, rfl⟩ := List.mem_map.mp ht
  exact ⟨(h u hu).2, (h u hu).1⟩
def turnL (L : List Tri) : List Tri := canon (L.map turnT)
theorem endOf_mem : ∀ (s : Str) (p : List Str), endOf s p ∈ s :: p
  | s, [] => List.mem_cons_self ..
  | s, b :: p => List.mem_cons_of_mem _ (endOf_mem b p)
theorem Rd.turn_pc (r : Rd s p L) : Pc (endOf s p) (turnL L) := by
  have hin : ∀ y ∈ s :: p, y ∈ placesL s L := fun y hy => by
    have := way_hang s p (fun y => y ∈ placesL s L) start_in (fun e he => by
      have h1 := ties_in (s := s) e ((mem_ex r.pc.cn.pos e).mp (r.mem.mpr he))
      exact ⟨fun _ => h1.2, fun _ => h1.1⟩)
    exact this y hy
  have hz := hin _ (endOf_mem s p)
  refine pc_of (fine_turn r.pc.cn.fine) (good_turn r.pc.cn.g) (by rw [List.length_map]; exact r.pc.ll) (r.pc.gp _ hz) (r.pc.nn _ hz) fun t ht => ?_
  obtain ⟨u, hu, rfl⟩ := List.mem_map.mp ht
  have := ties_in (s := s) (pr u) (List.mem_map_of_mem hu)
  exact ⟨r.pc.nn _ this.2, r.pc.nn _ this.1⟩
/-! one piece -/
/-! one step more -/
end
end RM
namespace RM
open PySem PySem.Spec PyProof.Rows L2 CS RZ
/-! ### k13: a round apart -/
def isYo (x : Str) : Prop := x = "yonder" ∨ x = "thither"
section
variable {s : Str} {p : List Str} {L : List Tri}
/-- no place of the journey is over there -/
def NoYo (s : Str) (L : List Tri) : Prop := ∀ y ∈ placesL s L, ¬ isYo y
end
end RM
namespace RM
open PySem PySem.Spec PyProof.Rows L2 CS RZ
/-! ### k13: the rounds, as the law makes them -/
end RM
namespace RM
open PySem PySem.Spec PyProof.Rows L2 CS RZ
/-! ### is not True; rows of texts in a list -/
theorem rowT_eqv (a b : List Str) : PyData.eqv (rowT a) (rowT b) = decide (a = b) := by
  have : PyData.eqv (rowT a) (rowT b) = PyData.eqvAll (strD a) (strD b) := by simp [rowT, PyData.eqv]
  rw [this, eqvAll_strs]
end RM
namespace RM
open PySem PySem.Spec PyProof.Rows L2 CS RZ
/-! ### k13: a drawn turn -/
structure T13 (ss : List Str) (s : Str) (p : List Str) (L : List Tri) : Prop where
  s1 : ss.Nodup
  s2 : 3 ≤ ss.length
  s3 : ss.length ≤ 6
  s4 : ∀ x ∈ ss, x ∈ tagPool
  w : Wk ss (s :: p) s (endOf s p)
  hl : (s :: p).length ≤ 22
  r : Rd s p L
  ll : L.length ≤ 25
  ny : NoYo s L
section
variable {e : EndsD} {n : Nat} {t1 t2 t3 t4 t5 t6 t7 t8 : Option Sl} {ss : List Str} {s b n0 n1 : Str} {p q' : List Str} {L : List Tri}
theorem T13.gs (T : T13 ss s p L) : ∀ y ∈ s :: p, GoodS y := fun y hy => tag_good y (T.s4 y (T.w.ins y hy))
end
end RM
namespace RM
open PySem PySem.Spec PyProof.Rows L2 CS RZ
/-! ### k13: one step more, a round apart -/
end RM
namespace RM
open PySem PySem.Spec PyProof.Rows L2 CS RZ
/-! ### xs.remove(y), of data -/
end RM
namespace RM
open PySem PySem.Spec PyProof.Rows L2 CS RZ
/-! ### a slice as a new list; a, b = [..], x; from the bare heap with a box in use -/
def sdRightN (N M : Nat) : SpD := fun ds n k _ => ds = [boxD] ∧ n ≤ N ∧ ∀ n', n' ≤ n + M → k (.bool true) n'
theorem right_impN {N M : Nat} {g : Glob} {vs : List V} {H : Hp} {Q : VK} {E : XK} (h : ∃ (b : Addr) (n : Nat), vs = [.ref b] ∧ BoxAt H b n ∧ n ≤ N ∧ ∀ (H' : Hp) (n' : Nat), (∀ c o, c ≠ b → H c = some o → H' c = some o) → BoxAt H' b n' → n' ≤ n + M → Q (.bl true) H') : spD g (sdRightN N M) vs H Q E := by
  obtain ⟨b, n, rfl, hb, hn, q⟩ := h
  refine ⟨{ T := ⟨g.K, g.cls, some b⟩, Z := fun a => a = b, H0 := H }, [boxD], n, fun d n' => d = .bool true ∧ n' ≤ n + M, fun _ _ => False, ⟨rfl, rfl⟩, rfl, ev_bare rfl rfl (fun a z => by rw [show a = b from z]) (fun b' h => ?_), .cons (.box rfl) .nil, ⟨rfl, hn, fun n' h => ⟨rfl, h⟩⟩, fun d n' v H' hd F i => ?_, fun _ _ _ _ _ h => h.elim⟩
  · have e : b = b' := Option.some.inj h
    subst e
    exact ⟨rfl, hb⟩
  · obtain ⟨rfl, hn'⟩ := hd
    rw [isBl i]
    exact q H' n' (fun c o hc ho => F.keep c o ho fun z => hc (Option.some.inj z).symm) (F.box b rfl) hn'
end RM
namespace RM
open PySem PySem.Spec PyProof.Rows L2 CS RZ
/-! ### k76: the sure beginning -/
def sureP : Nat → Str → List Tri → List Str
  | 0, _, _ => []
  | m + 1, s, L => match openS s L with
    | [b] => b :: sureP m b (lessT L (s, b))
    | _ => []
section
variable {s b : Str} {L : List Tri}
theorem way_len {p : List Str} (w : Way s L p) : p.length = (exL L).length := by
  have := w.length_eq
  rw [pairs_len, List.length_cons] at this
  omega
theorem sure_prefix : ∀ (m : Nat) (s : Str) (L : List Tri) (p : List Str), Cn L → (exL L).length = m → Way s L p → sureP m s L <+: p
  | 0, s, L, p, c, hm, w => List.nil_prefix
  | m + 1, s, L, p, c, hm, w => by
    show (match openS s L with | [b] => b :: sureP m b (lessT L (s, b)) | _ => []) <+: p
    cases e : openS s L with
    | nil => exact List.nil_prefix
    | cons b r =>
      cases r with
      | cons b2 r => exact List.nil_prefix
      | nil =>
        have hl := way_len w
        cases p with
        | nil => rw [hm] at hl; cases hl
        | cons x q =>
          have hx : x ∈ openS s L := (open_mem c).mpr ⟨q, w⟩
          rw [e] at hx
          have := List.mem_singleton.mp hx
          subst this
          obtain ⟨h1, h2⟩ := (way_cons c).mp w
          exact (List.cons_prefix_cons.mpr ⟨rfl, sure_prefix m x _ q (less_cn c) (by have := less_len c h1; omega) h2⟩)
end
section
variable {e : EndsD} {n : Nat}
def sureE (s : Str) (p : List Str) (L : List Tri) : List Str := (endOf s p :: sureP (exL (turnL L)).length (endOf s p) (turnL L)).reverse
end
end RM
namespace RM
open PySem PySem.Spec PyProof.Rows L2 CS RZ
/-! ### k76: what rows share -/
theorem cut_take {r : List Str} {f : Nat} (h : f ≤ r.length) : cutL (strD r) none (some (f : Nat)) = strD (r.take f) := by
  unfold cutL
  rw [HT.sIx_none, HT.sIx_nat, List.drop_zero, Nat.sub_zero, strD_len, Nat.min_eq_left h]
  unfold strD
  rw [← List.map_take]
theorem slice_take {r : List Str} {f : Nat} (h : f ≤ r.length) : sliceD (rowT r) none (some (f : Nat)) = some (rowT (r.take f)) := by
  show some (PyData.tuple (cutL (strD r) none (some (f : Nat)))) = _
  rw [cut_take h]
  rfl
theorem neD_rows {a b : List Str} (ha : ∀ y ∈ a, GoodS y) (hb : ∀ y ∈ b, GoodS y) : neD (rowT a) (rowT b) = some (.bool (!decide (a = b))) := by
  unfold neD
  have h1 : okE (rowT a) = true := (OkN.strs ha).ok (by decide)
  have h2 : okE (rowT b) = true := (OkN.strs hb).ok (by decide)
  rw [h1, h2, if_pos (show (true && true) = true from rfl), rowT_eqv]
/-! rows turned -/
def swE (e : Ed) : Ed := (e.2, e.1)
theorem pairs_revP : ∀ l : List Str, (pairsOf l.reverse).Perm ((pairsOf l).map swE)
  | [] => .nil
  | [a] => .nil
  | a :: b :: r => by
    have ih := pairs_revP (b :: r)
    rw [List.reverse_cons, List.reverse_cons, pairs_snoc, pairs_cons, List.map_cons, ← List.reverse_cons]
    exact (List.perm_append_comm.trans (List.Perm.refl _ : ([(b, a)] ++ pairsOf (b :: r).reverse).Perm ((b, a) :: pairsOf (b :: r).reverse))).trans (List.Perm.cons _ ih)
theorem count_sw : ∀ (l : List Ed) (e : Ed), (l.map swE).count (swE e) = l.count e
  | [], _ => rfl
  | a :: l, e => by
    rw [List.map_cons, List.count_cons, List.count_cons, count_sw l e]
    by_cases c : a = e
    · subst c
      simp
    · have c2 : ¬ swE a = swE e := fun z => c (by
        have z1 := congrArg (fun p : Ed => p.1) z
        have z2 := congrArg (fun p : Ed => p.2) z
        exact Prod.ext z2 z1)
      rw [if_neg (by simpa using c2), if_neg (by simpa using c)]
theorem ex_turn {L : List Tri} (c : Cn L) (ct : Cn (turnL L)) : (exL (turnL L)).Perm ((exL L).map swE) := by
  refine List.perm_iff_count.mpr fun e => ?_
  have h1 := count_ex (turnL L) e fun t ht => Int.le_of_lt (ct.pos t ht)
  have h2 := count_ex L (swE e) fun t ht => Int.le_of_lt (c.pos t ht)
  have h3 : sumAt (turnL L) e = sumAt L (swE e) := by
    unfold turnL
    rw [sumAt_canon' (fine_turn c.fine)]
    exact sum_turn L e.1 e.2
  have h4 : ((exL L).map swE).count e = (exL L).count (swE e) := by
    exact count_sw (exL L) (swE e)
  omega
section
variable {s : Str} {L : List Tri} {p : List Str}
theorem rev_row : ∀ (s : Str) (p : List Str), ∃ w, (s :: p).reverse = endOf s p :: w
  | s, [] => ⟨[], rfl⟩
  | s, b :: p => by
    obtain ⟨w, e⟩ := rev_row b p
    exact ⟨w ++ [s], by rw [List.reverse_cons, e]; rfl⟩
theorem way_turn (c : Cn L) (ct : Cn (turnL L)) (w : Way s L p) : ∃ w', (s :: p).reverse = endOf s p :: w' ∧ Way (endOf s p) (turnL L) w' := by
  obtain ⟨w', e⟩ := rev_row s p
  refine ⟨w', e, ?_⟩
  unfold Way
  rw [← e]
  exact ((pairs_revP (s :: p)).trans (w.map swE)).trans (ex_turn c ct).symm
end
end RM
namespace RM
open PySem PySem.Spec PyProof.Rows L2 CS RZ
/-! ### k76: what all journeys share -/
/-! ### k76: whether what is left hangs together -/
end RM
namespace RM
open PySem PySem.Spec PyProof.Rows L2 CS RZ
/-! ### k76: the law's own closure -/
theorem cut_drop {ds : List D} {k : Nat} (h : k ≤ ds.length) : cutL ds (some (k : Nat)) none = ds.drop k := by
  unfold cutL
  rw [HT.sIx_none, HT.sIx_nat, Nat.min_eq_left h]
  exact List.take_of_length_le (by rw [List.length_drop]; omega)
end RM
namespace RM
open PySem PySem.Spec PyProof.Rows L2 CS RZ
/-! ### k76: a walk's own bound; where a journey stands on its sure beginning -/
def sdWalkB : SpD := fun ds n k _ => ∃ (ss : List Str) (most : Int), ds = [boxD, .list (strD ss), .int most] ∧ ss.Nodup ∧ 2 ≤ ss.length ∧ ss.length ≤ 8 ∧ (∀ s ∈ ss, GoodS s) ∧ n ≤ 700000 ∧ 0 ≤ most ∧ most ≤ 50 ∧
  ∀ (a z : Str) (row : List Str) (n' : Nat), Wk ss row a z → row.length ≤ most.toNat + 1 → n' ≤ n + 200 → k (.tuple (strD row)) n'
theorem himp_walkB {e : EndsD} (ds : List D) (n : Nat) (k : D → Nat → Prop) (ke : Xv → Nat → Prop) (h : sdWalkB ds n k ke) (he : e.rt = k) : cs_walk (startE n_walk ds) n e := by
  obtain ⟨ss, most, rfl, hn, h2, h8, hg, hN, m0, m1, q⟩ := h
  subst he
  have h200 : (1000 : Int) < 2 ^ 200 := by decide
  refine ⟨.list (strD ss), strD ss, rfl, rfl, by omega, by rw [strD_len]; omega, by rw [strD_len]; omega, fun d hd => ?_⟩
  obtain ⟨a, ha, rfl⟩ := List.mem_map.mp hd
  refine ⟨by show 1 ≤ lim; decide, by show 3 < 8; decide, ?_⟩
  refine ⟨.int (most + 1), rfl, most + 1, rfl, by omega, by omega, by omega, fun r r0 r1 => ?_⟩
  refine ⟨r, rfl, ⟨by omega, by omega⟩, ?_⟩
  have hr := range_len r
  refine walk_loop hn h2 h8 hg _ [a] a none none none (n + 1 + 1) (by omega) (by rw [List.length_singleton]; omega) ⟨⟨[], rfl⟩, ⟨[], rfl⟩, fun s hs => by rw [List.mem_singleton.mp hs]; exact ha, fun p hp => by cases hp⟩ fun row z t4 t5 t6 n3 w l1 hn3 => ?_
  rw [List.length_singleton] at l1
  have gz : GoodS z := by
    obtain ⟨r, er⟩ := w.tl
    exact hg z (w.ins z (by rw [er]; simp))
  have zl : atD (.list (strD row)) (.int (-1)) = some (.str z) := by
    obtain ⟨r, er⟩ := w.tl
    rw [er]
    exact atI_last
  have zf : atD (.list (strD row)) (.int 0) = some (.str a) := by
    obtain ⟨r, er⟩ := w.hd
    rw [er]
    exact atI_zero _ _
  have ll : (strD row).length = row.length := strD_len row
  have fin : ∀ (n4 : Nat), n4 ≤ n3 + 1 → walkt4 (fw ss row most t4 t5 t6) n4 e := fun n4 h4 => ⟨_, ⟨_, _, rfl, rfl, rfl⟩, q a z row n4 w (by omega) (by omega)⟩
  refine ⟨rfl, 1, rfl, _, _, rfl, zl, rfl, _, _, rfl, zf, _, neD_str gz (hg a ha), _, rfl, ?_⟩
  by_cases c : z = a
  · rw [decide_eq_true c]
    exact fin n3 (by omega)
  · rw [decide_eq_false c]
    refine ⟨rfl, .list (strD row), .int (strD row).length, rfl, ⟨_, _, rfl, rfl, rfl⟩, rfl, .bool (decide (((strD row).length : Int) ≤ most)), rfl, _, rfl, ?_⟩
    by_cases c2 : ((strD row).length : Int) ≤ most
    · rw [decide_eq_true c2]
      refine ⟨3, rfl, by omega, by decide, by decide, fun r r0 r1 => ⟨.bool (r == 0), rfl, _, rfl, ?_⟩⟩
      cases cr : r == 0 with
      | false => exact fin (n3 + 1) (Nat.le_refl _)
      | true =>
        refine ⟨⟨_, rfl⟩, rfl, _, .str a, rfl, zf, strD row, rfl, by rw [ll]; unfold lim; omega, ?_⟩
        have e1 : strD row ++ [PyData.str a] = strD (row ++ [a]) := by
          unfold strD
          rw [List.map_append]
          rfl
        rw [e1]
        exact ⟨_, ⟨_, _, rfl, rfl, rfl⟩, q a a (row ++ [a]) (n3 + 1) (w.snoc ha fun z => c z.symm) (by rw [List.length_append, List.length_singleton]; omega) (by omega)⟩
    · rw [decide_eq_false c2]
      exact fin n3 (by omega)
abbrev Lr (s : Str) (p : List Str) : List Tri := canon (stepT (s :: p))
theorem cn_row {s : Str} {p : List Str} (j : Jn (s :: p)) (hl : (s :: p).length ≤ 31) : Cn (Lr s p) := cn_canon j.fine (fun t ht => by
    obtain ⟨q, hq, rfl⟩ := List.mem_map.mp ht
    exact ⟨j.good _ (pairs_mem hq).1, j.good _ (pairs_mem hq).2⟩) (by rw [step_len]; omega)
theorem ex_row {s : Str} {p : List Str} (j : Jn (s :: p)) (hl : (s :: p).length ≤ 31) : (exL (Lr s p)).Perm (pairsOf (s :: p)) := by
  have c := cn_row j hl
  refine List.perm_iff_count.mpr fun e => ?_
  have h1 := count_ex (Lr s p) e fun t ht => Int.le_of_lt (c.pos t ht)
  have h2 := count_ex (stepT (s :: p)) e fun t ht => (j.fine t ht).2
  unfold stepT at h2
  rw [ex_step] at h2
  rw [show sumAt (Lr s p) e = sumAt (stepT (s :: p)) e from sumAt_canon' j.fine e] at h1
  have h4 : sumAt (stepT (s :: p)) e = sumAt ((pairsOf (s :: p)).map fun p => ((p.1, p.2, 1) : Tri)) e := rfl
  omega
theorem row_way {s : Str} {p : List Str} (j : Jn (s :: p)) (hl : (s :: p).length ≤ 31) : Way s (Lr s p) p := (ex_row j hl).symm
theorem row_len {s : Str} {p : List Str} (j : Jn (s :: p)) (hl : (s :: p).length ≤ 31) : (exL (Lr s p)).length = p.length := by
  rw [(ex_row j hl).length_eq, pairs_len, List.length_cons]
  omega
end RM
namespace RM
open PySem PySem.Spec PyProof.Rows L2 CS RZ
/-! ### k76: what is drawn and asked -/
structure T76 (s : Str) (p : List Str) : Prop where
  j : Jn (s :: p)
  hl : (s :: p).length ≤ 31
  nn : ∀ y ∈ s :: p, y ≠ "none"
section
variable {e : EndsD} {n : Nat} {s : Str} {p : List Str} {t1 t2 t3 t4 t5 t6 t7 t8 t9 t10 : Option Sl}
theorem T76.r (T : T76 s p) : Rd s p (Lr s p) := by
  have := rd_of T.j (by have := T.hl; omega) T.nn (fd_start T.j)
  rwa [show canon (canon (stepT (s :: p))) = Lr s p from (cn_row T.j T.hl).id] at this
theorem T76.len (T : T76 s p) : (exL (Lr s p)).length = p.length := row_len T.j T.hl
def heL (s : Str) (p : List Str) : List Str := sureE s p (Lr s p)
theorem T76.he (T : T76 s p) : (heL s p).reverse <+: (s :: p).reverse := by
  obtain ⟨w, e, hw⟩ := way_turn T.r.pc.cn T.r.turn_pc.cn (row_way T.j T.hl)
  unfold heL sureE
  rw [List.reverse_reverse, e]
  exact List.cons_prefix_cons.mpr ⟨rfl, sure_prefix _ _ _ w T.r.turn_pc.cn rfl hw⟩
theorem t76_of {ss row : List Str} {a z : Str} (w : Wk ss row a z) (s4 : ∀ x ∈ ss, x ∈ tagPool) (hl : row.length ≤ 31) : ∃ p, row = a :: p ∧ T76 a p := by
  obtain ⟨p, rfl⟩ := w.hd
  exact ⟨p, rfl, jn_of w (fun x hx => tag_good x (s4 x hx)) (by omega), hl, fun y hy => tag_none y (s4 y (w.ins y hy))⟩
end
end RM
namespace RM
open PySem PySem.Spec PyProof.Rows L2 CS RZ
/-! ### k76: place by place -/
section
variable {e : EndsD} {n : Nat} {s x : Str} {p A B : List Str} {t1 t2 t3 t4 t5 t6 t7 t8 t9 t10 : Option Sl}
/-- the journey, cut at a place -/
structure At76 (s : Str) (p A : List Str) (x : Str) (B : List Str) : Prop where
  T : T76 s p
  e : s :: p = A ++ x :: B
  eB : B = p.drop A.length
  ex : (s :: p)[A.length]? = some x
  lt : A.length < p.length
  le : A.length ≤ (sureP p.length s (Lr s p)).length
theorem At76.j (a : At76 s p A x B) : Jn (A ++ x :: B) := by rw [← a.e]; exact a.T.j
theorem At76.hl (a : At76 s p A x B) : (A ++ x :: B).length ≤ 31 := by rw [← a.e]; exact a.T.hl
theorem At76.jB (a : At76 s p A x B) : Jn (x :: B) := ⟨fun y hy => a.j.good y (List.mem_append_right _ hy), fun q hq => a.j.ch q (by
    refine drop_pairs A.length _ q ?_
    rw [List.drop_left' rfl]
    exact hq), by have := a.hl; rw [List.length_append] at this; omega⟩
theorem At76.at_ (a : At76 s p A x B) : atD (.tuple (strD (A ++ x :: B))) (.int ((((A.length : Nat) : Int) + 1) - 1)) = some (.str x) := by
  have e0 : (((A.length : Nat) : Int) + 1) - 1 = ((A.length : Nat) : Int) := by omega
  rw [e0]
  exact at_mid
theorem At76.good (a : At76 s p A x B) : ∀ q ∈ pairsOf (x :: B), GoodP q := fun q hq => ⟨a.jB.good _ (pairs_mem hq).1, a.jB.good _ (pairs_mem hq).2⟩
end
end RM
namespace RM
open PySem PySem.Spec PyProof.Rows L2 CS RZ
/-! ### (..) * k; what is had, computed -/
def repTD : D → D → Option D
  | .tuple ds, .int k => if ds ≠ [] ∧ 2 ≤ k ∧ k ≤ 1000 ∧ ds.length ≤ 1000 then some (.tuple (List.replicate k.toNat ds).flatten) else none
  | _, _ => none
theorem od_repT {X : Cx} : OpD X (binaryOp .Mult) repTD := by
  refine ⟨_, op_repT, fun T Hh H x y dx dy z Q hK s ix iy hg q => ?_⟩
  unfold repTD at hg
  split at hg
  · obtain ⟨⟨c0, c1, c2, c3⟩, rfl⟩ := ifs hg
    obtain ⟨a, xs, rfl, ha, ra⟩ := ix.tup'
    rw [iy.int']
    have hne : xs ≠ [] := fun z => by
      have := ra.length
      rw [z] at this
      exact c0 (List.length_eq_zero_iff.mp this.symm)
    exact ⟨a, _, xs, rfl, rfl, hK ▸ sqt_same s ha, hne, c1, c2, by rw [ra.length]; exact c3, newT q (isL_rep ra _)⟩
  · cases hg
instance (a b : Str) : Decidable (leS a b) := by unfold leS; exact inferInstance
/-H-/
end RM
namespace RM
open PySem PySem.Spec PyProof.Rows L2 CS RZ
/-! ### k76 by hand -/
end RM
namespace RM
open PySem PySem.Spec PyProof.Rows L2 CS RZ
/-! ### last steps out of places: which can be told ahead -/
/-! what leads to the end -/
def Lead (K : Str → Str → Prop) (z : Str) : Nat → Str → Prop
  | 0, x => x = z
  | n + 1, x => ∃ y, K x y ∧ Lead K z n y
end RM
namespace RM
open PySem PySem.Spec PyProof.Rows L2 CS RZ
/-! ### d = {}; for a, b in l: d.setdefault(b, []).append(a) -/
end RM
namespace RM
open PySem PySem.Spec PyProof.Rows L2 CS RZ
/-! ### the rule of it -/
end RM
namespace RM
open PySem PySem.Spec PyProof.Rows L2 CS RZ
/-! ### which names lead to an end -/
def LK (ps : List Ed) : Str → Str → Prop := fun a b => (a, b) ∈ ps
structure WP (z y : Str) (ps : List Ed) (ks w : List Str) : Prop where
  nd : ks.Nodup
  sub : ∀ x ∈ ks, x ≠ z ∧ ∃ m, Lead (LK ps) z m x
  src : ∀ x ∈ ks, x ∈ ps.map Prod.fst
  wk : ∀ x ∈ w, x = z ∨ x ∈ ks
  wl : w.length ≤ ks.length
  hy : y = z ∨ y ∈ ks
  cl : ∀ u, (u = z ∨ u ∈ ks) → u = y ∨ u ∈ w ∨ ∀ x, (x, u) ∈ ps → x = z ∨ x ∈ ks
theorem wp_step {z y x : Str} {ps : List Ed} {ks w : List Str} (h : WP z y ps ks w) (hx : (x, y) ∈ ps) (c : x ≠ z) (d : x ∉ ks) : WP z y ps (ks ++ [x]) (w ++ [x]) := by
  have ly : ∃ m, Lead (LK ps) z m y := by
    rcases h.hy with q | q
    · exact ⟨0, q⟩
    · exact (h.sub y q).2
  refine ⟨?_, fun u hu => ?_, fun u hu => ?_, fun u hu => ?_, ?_, ?_, fun u hu => ?_⟩
  · exact List.nodup_append.mpr ⟨h.nd, by simp, fun u hu v hv q => d (by rw [List.mem_singleton.mp hv] at q; exact q ▸ hu)⟩
  · rcases List.mem_append.mp hu with hu | hu
    · exact h.sub u hu
    · rw [List.mem_singleton.mp hu]
      obtain ⟨m, q⟩ := ly
      exact ⟨c, m + 1, y, hx, q⟩
  · rcases List.mem_append.mp hu with hu | hu
    · exact h.src u hu
    · rw [List.mem_singleton.mp hu]
      exact List.mem_map_of_mem (f := Prod.fst) hx
  · rcases List.mem_append.mp hu with hu | hu
    · exact (h.wk u hu).imp id fun q => List.mem_append_left _ q
    · exact .inr (List.mem_append_right _ hu)
  · have := h.wl
    rw [List.length_append, List.length_append]
    omega
  · exact h.hy.imp id fun q => List.mem_append_left _ q
  · by_cases q : u = x
    · exact .inr (.inl (by simp [q]))
    · have : u = z ∨ u ∈ ks := hu.imp id fun w => by
        rcases List.mem_append.mp w with w | w
        · exact w
        · exact (q (List.mem_singleton.mp w)).elim
      rcases h.cl u this with r | r | r
      · exact .inl r
      · exact .inr (.inl (List.mem_append_left _ r))
      · exact .inr (.inr fun v hv => (r v hv).imp id fun s => List.mem_append_left _ s)
end RM
namespace RM
open PySem PySem.Spec PyProof.Rows L2 CS RZ
/-! ### a dict with a star -/
end RM
namespace RM
open PySem PySem.Spec PyProof.Rows L2 CS RZ
/-! ### led_to, last_outs -/
end RM
namespace RM
open PySem PySem.Spec PyProof.Rows L2 CS RZ
/-! ### sure_lasts, sure_first_ins -/
end RM
namespace RM
open PySem PySem.Spec PyProof.Rows L2 CS RZ
/-! ### last_outs tells what can be the last step -/
end RM
namespace RM
open PySem PySem.Spec PyProof.Rows L2 CS RZ
/-! ### a comprehension over an own dict -/
/-- a dict is locked or unlocked, all else stays -/
def Fz (H H' : Hp) : Prop := ∀ a o, H a = some o → H' a = some o ∨ (∃ o1 kvs, o = .frz o1 (.dK kvs) ∧ H' a = some (.dK kvs)) ∨ ∃ o1 kvs, o = .dK kvs ∧ H' a = some (.frz o1 (.dK kvs))
section
variable {T : Tab} {H H' : Hp}
theorem fz_dk (f : Fz H H') {a : Addr} {kvs : List (L2.Key × V)} (h : L2.Rd H a (.dK kvs)) : L2.Rd H' a (.dK kvs) := by
  rcases h with h | ⟨o, h⟩
  · rcases f _ _ h with g | ⟨o1, k1, e, g⟩ | ⟨o1, k1, e, g⟩
    · exact .inl g
    · cases e
    · cases e
      exact .inr ⟨_, g⟩
  · rcases f _ _ h with g | ⟨o1, k1, e, g⟩ | ⟨o1, k1, e, g⟩
    · exact .inr ⟨_, g⟩
    · cases e
      exact .inl g
    · cases e
theorem fz_at (f : Fz H H') {a : Addr} {u : HO} (h : H a = some u) (n1 : ∀ o1 kvs, u ≠ .frz o1 (.dK kvs)) (n2 : ∀ kvs, u ≠ .dK kvs) : H' a = some u := by
  rcases f _ _ h with g | ⟨o1, k1, e, g⟩ | ⟨o1, k1, e, g⟩
  · exact g
  · exact (n1 _ _ e).elim
  · exact (n2 _ e).elim
theorem fz_rd (f : Fz H H') {a : Addr} {u : HO} (h : L2.Rd H a u) (n1 : ∀ o1 kvs, u ≠ .frz o1 (.dK kvs)) (n2 : ∀ kvs, u ≠ .dK kvs) : L2.Rd H' a u := by
  rcases h with h | ⟨o, h⟩
  · exact .inl (fz_at f h n1 n2)
  · exact .inr ⟨o, fz_at f h (fun o1 kvs e => by cases e; exact n2 _ rfl) fun kvs e => by cases e⟩
theorem fz_tup (f : Fz H H') {K : PySem.W.Frag} {a : Addr} {xs : List V} (h : SqT K H a xs) : SqT K H' a xs := by
  rcases h with h | h
  · exact .inl (fz_rd f h (fun _ _ e => by cases e) fun _ e => by cases e)
  · exact .inr h
mutual
theorem Is.fz (s : Fz H H') : ∀ {v : V} {d : D}, Is T H v d → Is T H' v d
  | _, _, .non => .non
  | _, _, .bl b => .bl b
  | _, _, .int i => .int i
  | _, _, .str x => .str x
  | _, _, .lst h r => .lst (fz_at s h (fun _ _ e => by cases e) fun _ e => by cases e) (IsL.fz s r)
  | _, _, .tup h r => .tup ⟨fz_tup s h.1, fun n => fz_at s (h.2 n) (fun _ _ e => by cases e) fun _ e => by cases e⟩ (IsL.fz s r)
  | _, _, .box h => .box h
  | _, _, .dk h r => .dk (fz_dk s h) (IsK.fz s r)
  | _, _, .dt h r => .dt (fz_rd s h (fun _ _ e => by cases e) fun _ e => by cases e) (IsT.fz s r)
  | _, _, .obj h1 h2 r => .obj (fz_at s h1 (fun _ _ e => by cases e) fun _ e => by cases e) (fz_at s h2 (fun _ _ e => by cases e) fun _ e => by cases e) (IsF.fz s r)
  | _, _, .exc h1 h2 r => .exc (fz_at s h1 (fun _ _ e => by cases e) fun _ e => by cases e) (fz_at s h2 (fun _ _ e => by cases e) fun _ e => by cases e) (IsF.fz s r)
  | _, _, .exn h => .exn (fz_at s h (fun _ _ e => by cases e) fun _ e => by cases e)
theorem IsL.fz (s : Fz H H') : ∀ {v : List V} {d : List D}, IsL T H v d → IsL T H' v d
  | _, _, .nil => .nil
  | _, _, .cons h r => .cons (Is.fz s h) (IsL.fz s r)
theorem IsK.fz (s : Fz H H') : ∀ {v : List (L2.Key × V)} {d : List (D × D)}, IsK T H v d → IsK T H' v d
  | _, _, .nil => .nil
  | _, _, .cons h r => .cons (Is.fz s h) (IsK.fz s r)
theorem IsT.fz (s : Fz H H') : ∀ {v : List (List L2.Key × V)} {d : List (D × D)}, IsT T H v d → IsT T H' v d
  | _, _, .nil => .nil
  | _, _, .cons h r => .cons (Is.fz s h) (IsT.fz s r)
theorem IsF.fz (s : Fz H H') : ∀ {v : List (Str × V)} {d : List (D × D)}, IsF T H v d → IsF T H' v d
  | _, _, .nil => .nil
  | _, _, .cons h r => .cons (Is.fz s h) (IsF.fz s r)
end
theorem OwnAt.fz {Hh Hh' : Hp} {p : Addr} {d : D} (s : Fz Hh Hh') (h : OwnAt T Hh H p d) (e : H' p = H p) : OwnAt T Hh' H' p d := by
  cases h with
  | lst h r => exact .lst (e.trans h) (r.fz s)
  | dk h r => exact .dk (e.trans h) (r.fz s)
  | dt h r => exact .dt (e.trans h) (r.fz s)
  | obj h g r => exact .obj (e.trans h) (fz_at s g (fun _ _ e => by cases e) fun _ e => by cases e) (r.fz s)
end
/-- one dict's lock -/
inductive Sw : HO → HO → Prop
  | on (o : Obj) (kvs : List (L2.Key × V)) : Sw (.dK kvs) (.frz o (.dK kvs))
  | off (o : Obj) (kvs : List (L2.Key × V)) : Sw (.frz o (.dK kvs)) (.dK kvs)
section
variable {C : Ctx} {ρ : En} {n : Nat} {σ : L2.St} {H : Hp} {O : Ow} {p : Addr} {u u' : HO}
theorem fz_upd (sw : Sw u u') (hp : H p = some u) : Fz H (upd H p u') := fun a o h => by
  by_cases c : a = p
  · subst c
    rw [hp] at h
    cases h
    rw [upd_same]
    cases sw with
    | on o kvs => exact .inr (.inr ⟨_, _, rfl, rfl⟩)
    | off o kvs => exact .inr (.inl ⟨_, _, rfl, rfl⟩)
  · rw [upd_ne c]
    exact .inl h
theorem hid_upd (hz : ¬ C.Z p) (ho : ∀ i, O i ≠ some p) : hid C O (upd H p u') = upd (hid C O H) p u' := by
  funext a
  by_cases c : a = p
  · subst c
    rw [upd_same]
    exact hid_of upd_same hz ho
  · rw [upd_ne c]
    unfold hid
    rw [upd_ne c]
theorem Ev.swap (E : Ev C ρ n σ H O) (sw : Sw u u') (hp : hid C O H p = some u) (h0 : C.H0 p = Option.none) (hb : C.B p = Option.none) (hx : C.T.bx ≠ some p) : Ev C ρ n σ (upd H p u') O := by
  obtain ⟨g1, g2, g3⟩ := hid_some hp
  have eh := hid_upd (H := H) (u' := u') g2 g3
  have f : Fz (hid C O H) (hid C O (upd H p u')) := by rw [eh]; exact fz_upd sw hp
  refine ⟨E.len, fun i d e => ?_, fun i d e => ?_, E.only, E.inj, E.zs, E.zt, fun a o h z => ?_, fun b h => ⟨(E.box b h).1, ?_⟩, E.slf, fun a o h => ?_⟩
  · obtain ⟨v, h1, h2⟩ := E.val i d e
    exact ⟨v, h1, h2.fz f⟩
  · obtain ⟨q, h1, h2, h3⟩ := E.own i d e
    refine ⟨q, h1, h2, h3.fz f (upd_ne fun z => g3 i (z ▸ h1))⟩
  · rw [upd_ne fun w => by rw [w, h0] at h; cases h]
    exact E.keep a o h z
  · obtain ⟨A, B, D', e, r⟩ := (E.box b h).2
    exact ⟨A, B, D', by rw [upd_ne (fun z : b = p => hx (z ▸ h))]; exact e, r⟩
  · rw [eh, upd_ne fun w => by rw [w, hb] at h; cases h]
    exact E.vis a o h
end
end RM
namespace RM
open PySem PySem.Spec PyProof.Rows L2 CS RZ
/-! ### for a, b in zip(x, y) -/
theorem walk_zipT {K : PySem.W.Frag} {a b : Addr} {xs ys : List V} {n : Nat} (hn : n = min xs.length ys.length) : Walk (ItzT K a b) n (fun H => SqT K H a xs ∧ SqT K H b ys) (YPair (fun i => xs[i]?) fun i => ys[i]?) where
  goes i H hi h := ⟨xs, ys, xs[i]'(by omega), ys[i]'(by omega), h.1, h.2, List.getElem?_eq_getElem _, List.getElem?_eq_getElem _⟩
  stops H h := ⟨xs, ys, h.1, h.2, by omega⟩
  yields i H v H' hi h y := by
    obtain ⟨T, x, z, e1, e2, e3, e4, e5⟩ := y
    exact ⟨T, x, z, e1, e2, e3, e4 xs h.1, e5 ys h.2⟩
/-! ### a, b = two new things -/
end RM
namespace RM
open PySem PySem.Spec PyProof.Rows L2 CS RZ
/-! ### last steps out, first steps in, told of a trail -/
end RM
namespace RM
open PySem PySem.Spec PyProof.Rows L2 CS RZ
/-! ### what is due: the last steps that all trails have -/
end RM
namespace RM
open PySem PySem.Spec PyProof.Rows L2 CS RZ
end RM
namespace RM
open PySem PySem.Spec PyProof.Rows L2 CS RZ
/-! ### k39: what is drawn and asked -/
section
variable {e : EndsD} {n : Nat} {s : Str} {p : List Str} {t1 t2 t3 t4 t5 t6 : Option Sl}
theorem T76.fin (T : T76 s p) : endS s (Lr s p) = endOf s p := T.r.fin
end
end RM
set_option maxHeartbeats 4000000
namespace RM
open PySem PySem.Spec PyProof.Rows L2 CS RZ
/-! ### k39: the answers that are told by hand, computed -/
def two : List Tri := [("a", "b", 2), ("b", "a", 2)]
end RM
set_option maxHeartbeats 4000000
namespace RM
open PySem PySem.Spec PyProof.Rows L2 CS RZ
/-! ### k39, by hand -/
def A1 : List Ed := [("b", "d")]
def A2 : List Ed := [("b", "d"), ("c", "a")]
def sdByHand39 : SpD := fun ds n k _ => ds = [] ∧ k (.bool true) n
end RM
namespace RM
open PySem PySem.Spec PyProof.Rows L2 CS RZ
end RM
namespace RM
open PySem PySem.Spec PyProof.Rows L2 CS RZ
/-! ### first steps out of a place (k34) -/
end RM
namespace RM
open PySem PySem.Spec PyProof.Rows L2 CS RZ
end RM
namespace RM
open PySem PySem.Spec PyProof.Rows L2 CS RZ
/-! ### first_outs, first_ins, last_ins -/
end RM
set_option maxHeartbeats 4000000
namespace RM
open PySem PySem.Spec PyProof.Rows L2 CS RZ
/-! ### firstsL computed; what all trails have: first and last steps at one place (k34) -/
end RM
namespace RM
open PySem PySem.Spec PyProof.Rows L2 CS RZ
/-! ### last steps out of several places together (k37, k38, k40) -/
end RM
namespace RM
open PySem PySem.Spec PyProof.Rows L2 CS RZ
/-! ### kept, can_be_last (k37, k38, k40) -/
end RM
namespace RM
open PySem PySem.Spec PyProof.Rows L2 CS RZ
/-! ### can_be_last (k37) -/
theorem eqD_rowT {a b : List Str} (ha : ∀ y ∈ a, GoodS y) (hb : ∀ y ∈ b, GoodS y) : eqD (.tuple (strD a)) (.tuple (strD b)) = some (.bool (decide (a = b))) := by
  unfold eqD
  rw [(OkN.strs ha).ok (by decide), (OkN.strs hb).ok (by decide), if_pos (show (true && true) = true from rfl)]
  have := rowT_eqv a b
  unfold rowT at this
  rw [this]
end RM
namespace RM
open PySem PySem.Spec PyProof.Rows L2 CS RZ
/-! ### k37's law side: the last exits of a trail -/
end RM
namespace RM
open PySem PySem.Spec PyProof.Rows L2 CS RZ
/-! ### v = [[], [], [], []], of which the lists grow in a loop: nobody else knows them -/
def outs (H : Hp) (S : List Addr) : Hp := fun b => if b ∈ S then none else H b
section
variable {C : Ctx} {ρ : En} {n : Nat} {σ : L2.St} {H H' Hx : Hp} {O : Ow} {a : Addr} {o : HO} {S : List Addr}
theorem outs_mono (s : Same H H') : Same (outs H S) (outs H' S) := fun b o h => by
  unfold outs at h ⊢
  split at h
  · cases h
  · rename_i c
    rw [if_neg c]
    exact s _ _ h
end
/-- slot iG holds the list at p of the lists at qs, which hold gs; nobody else knows them -/
structure Gh (C : Ctx) (iG : Nat) (p : Addr) (qs : List Addr) (gs : List (List D)) (ρ : En) (n : Nat) (σ : L2.St) (H : Hp) (O : Ow) : Prop where
  ev : Ev C ρ n σ (outs H (p :: qs)) O
  slot : σ[iG]? = some (some (.ref p))
  nd : (p :: qs).Nodup
  top : H p = some (.lst (qs.map V.ref))
  rows : ∀ (j : Nat) (q : Addr), qs[j]? = some q → ∃ us g, H q = some (.lst us) ∧ gs[j]? = some g ∧ IsL C.T (hid C O (outs H (p :: qs))) us g
  len : gs.length = qs.length
section
variable {X : Cx} {g : Glob} {xk : WX} {pos : Pos} {iG : Nat}
theorem Gh.ext {C : Ctx} {ρ : En} {n : Nat} {σ : L2.St} {H H' : Hp} {O : Ow} {p : Addr} {qs : List Addr} {gs : List (List D)} (G : Gh C iG p qs gs ρ n σ H O) (s : Same H H') : Gh C iG p qs gs ρ n σ H' O :=
  ⟨G.ev.ext (outs_mono s), G.slot, G.nd, s _ _ G.top, fun j q hj => let ⟨us, l, h1, h2, h3⟩ := G.rows j q hj; ⟨us, l, s _ _ h1, h2, h3.same (hid_same (outs_mono s))⟩, G.len⟩
end
end RM
namespace RM
open PySem PySem.Spec PyProof.Rows L2 CS RZ
/-! ### [f1, f2, f3, f4][e](..): a def out of a list of defs -/
end RM
namespace RM
open PySem PySem.Spec PyProof.Rows L2 CS RZ
/-! ### last_outs and the others, of a place that is none too (k34) -/
/-- counts that are had, and so are the turned ones -/
structure Q34 (s : Str) (L : List Tri) : Prop where
  pc : Pc s L
  had : hadL s L = true
  pct : Pc (endS s L) (turnL L)
  hadt : hadL (endS s L) (turnL L) = true
  he : endS (endS s L) (turnL L) = s
theorem ends_ex {L : List Tri} (c : Cn L) (a : Str) : ends L a ↔ ∃ e ∈ exL L, e.1 = a ∨ e.2 = a := by
  constructor
  · rintro ⟨t, ht, h⟩
    exact ⟨pr t, (mem_ex c.pos _).mpr (List.mem_map_of_mem ht), h⟩
  · rintro ⟨e, he, h⟩
    obtain ⟨t, ht, rfl⟩ := List.mem_map.mp ((mem_ex c.pos _).mp he)
    exact ⟨t, ht, h⟩
theorem Q34.pl {s : Str} {L : List Tri} (q : Q34 s L) (a : Str) : inPl (endS s L) (turnL L) a = inPl s L a := by
  have h1 : ends (turnL L) a ↔ ends L a := by
    rw [ends_ex q.pct.cn, ends_ex q.pc.cn]
    constructor
    · rintro ⟨e, he, h⟩
      obtain ⟨d, hd, rfl⟩ := List.mem_map.mp ((ex_turn q.pc.cn q.pct.cn).mem_iff.mp he)
      exact ⟨d, hd, h.symm⟩
    · rintro ⟨e, he, h⟩
      exact ⟨swE e, (ex_turn q.pc.cn q.pct.cn).mem_iff.mpr (List.mem_map_of_mem he), h.symm⟩
  rw [Bool.eq_iff_iff, inPl_iff, inPl_iff]
  constructor
  · rintro (rfl | h)
    · exact (places_mem _).mp end_in
    · exact .inr (h1.mp h)
  · rintro (rfl | h)
    · have := (places_mem _).mp (end_in (s := endS a L) (L := turnL L))
      rw [q.he] at this
      exact this
    · exact .inr (h1.mpr h)
/-! what the law is told -/
end RM
namespace RM
open PySem PySem.Spec PyProof.Rows L2 CS RZ
/-! ### _law_ends_due (k34) -/
/-- ys is what sorted(set(xs)) tells -/
structure SS (ys xs : List Str) : Prop where
  nd : ys.Nodup
  mem : ∀ p, p ∈ ys ↔ p ∈ xs
  pw : sortedS ys = true
end RM
namespace RM
open PySem PySem.Spec PyProof.Rows L2 CS RZ
/-! ### k34's turn -/
section
variable {s a b : Str} {L : List Tri}
theorem SS.one {ys xs zs : List Str} (h : SS ys xs) (pw : zs.Pairwise leS) (nd : zs.Nodup) (hm : ∀ p, p ∈ zs ↔ p ∈ xs) : zs = ys :=
  sorted_one pw (sorted_pw h.pw) nd h.nd fun p => (hm p).trans (h.mem p).symm
end
end RM
set_option maxHeartbeats 4000000
namespace RM
open PySem PySem.Spec PyProof.Rows L2 CS RZ
/-! ### xs + ys as a new list -/
def cAddF (ta tb : CE) : CE := fun ρ n k ke => ta ρ n (fun x ρ1 n1 => tb ρ1 n1 (fun y ρ2 n2 => ∃ ds es : List D, x = .list ds ∧ y = .list es ∧ ds.length + es.length ≤ lim ∧ k (.list (ds ++ es)) ρ2 n2) ke) ke
theorem pf_add {X : Cx} {g : Glob} {xk : WX} {pos : Pos} {a b : Expr} {ta tb : CE} (ha : PD X g xk a ta) (hb : PD X g xk b tb) : PDF X g xk (.BinOp a .Add b pos) (cAddF ta tb) := by
  refine ⟨PE.imp (pe_op op_cat ha.pe hb.pe) fun σ H Q h => ?_⟩
  obtain ⟨C, ρ, n, O, k, ke, hK, E, t, x, q⟩ := h
  refine ⟨C, ρ, n, O, _, ke, hK, E, t, x, fun d ρ1 n1 v H1 O1 k1 E1 S1 i1 => ⟨C, ρ1, n1, O1, _, ke, hK, E1, k1, x, fun d2 ρ2 n2 v2 H2 O2 k2 E2 S2 i2 => ?_⟩⟩
  obtain ⟨ds, es, rfl, rfl, hl, k2⟩ := k2
  have i1 := i1.same S2
  obtain ⟨a, xs, rfl, ha, ra⟩ := i1.list'
  obtain ⟨b, ys, rfl, hb, rb⟩ := i2.list'
  exact ⟨a, b, xs, ys, rfl, rfl, hid_le _ _ ha, hid_le _ _ hb, by rw [ra.length, rb.length]; exact lim_le hl, fun p hp => q _ _ _ p H2 _ _ k2 E2 (S1.trans S2) hp (same_new hp) (.lst upd_same (ra.append rb)) rfl⟩
/-! ### for x in a text -/
/-! ### k34, by hand -/
def G1 : List (List (List Str)) := [[["b", "c"], ["b", "c"], ["c"], ["c"]], [["d"], ["c"], ["a", "c"], ["a", "c"]], [["a", "b"], ["a", "b"], ["a", "b"], ["a", "b"]], [[], [], ["b"], ["b"]]]
def G2 : List (List (List Str)) := G1 ++ ([[["b", "c"], ["b", "c"], ["b", "c"], ["b", "c"]], [["c"], ["b"], ["b"], ["b"]]] : List (List (List Str)))
def G3 : List (List (List Str)) := G2 ++ ([[[], [], [], []]] : List (List (List Str)))
def G4 : List (List (List Str)) := G3 ++ ([[["c"], ["b"], ["b"], ["b"]]] : List (List (List Str)))
def G5 : List (List (List Str)) := G4 ++ ([[["b", "c"], ["b", "c"], ["b", "c"], ["b", "c"]]] : List (List (List Str)))
def G6 : List (List (List Str)) := G5 ++ ([[["a"], ["a"], ["a"], ["a"]]] : List (List (List Str)))
def G7 : List (List (List Str)) := G6 ++ ([[["d"], ["c"], ["a"], ["c"]]] : List (List (List Str)))
end RM
namespace RM
open PySem PySem.Spec PyProof.Rows L2 CS RZ
/-! ### {x: y} of two names -/
end RM
set_option maxHeartbeats 4000000
namespace CS
open PySem PySem.Spec PyProof.Rows L2
end CS
set_option maxHeartbeats 4000000
namespace CS
open PySem PySem.Spec PyProof.Rows L2
open RZ
end CS
namespace RM
open PySem PySem.Spec PyProof.Rows L2 CS RZ
/-! ### for p in zip(x, y), two tuples, p a name -/
end RM
namespace CS
open PySem PySem.Spec PyProof.Rows L2
/-! ### except (A, B, C) as n -/
end CS
namespace RM
/-! ### determinants, by the first row -/
section
variable {R C : Type} (e : R → C → Int)
def E1 (r : R) : List C → (List C → Int) → Int
  | [], _ => 0
  | c :: cs, F => e r c * F cs - E1 r cs (fun l => F (c :: l))
variable {e}
/-! rows -/
/-! columns -/
/-! other names for rows and columns -/
/-- a factor of each row -/
def prodI : List Int → Int
  | [] => 1
  | a :: l => a * prodI l
end
end RM
namespace RM
open PySem PySem.Spec PyProof.Rows L2 CS RZ
/-! ### how many journeys: a determinant (the steps of one kind told apart) -/
def fac : Nat → Int
  | 0 => 1
  | n + 1 => ((n + 1 : Nat) : Int) * fac n
end RM
namespace RM
open PySem PySem.Spec PyProof.Rows L2 CS RZ
/-! ### how many journeys: the theorem -/
end RM
namespace RM
open PySem PySem.Spec PyProof.Rows L2 CS RZ
/-! ### how many journeys: the steps of one kind alike -/
def FL (L : List Tri) : Int := prodI (L.map fun t => fac t.2.2.toNat)
theorem FL_cons (t : Tri) (L : List Tri) : FL (t :: L) = fac t.2.2.toNat * FL L := rfl
theorem FL_filter : ∀ L : List Tri, FL (L.filter fun t => decide (0 < t.2.2)) = FL L
  | [] => rfl
  | t :: L => by
    by_cases c : 0 < t.2.2
    · rw [List.filter_cons_of_pos (by simpa using c), FL_cons, FL_cons, FL_filter L]
    · rw [List.filter_cons_of_neg (by simpa using c), FL_cons, FL_filter L]
      have : t.2.2.toNat = 0 := by omega
      rw [this]
      show _ = 1 * _
      omega
end RM
namespace RM
open PySem PySem.Spec PyProof.Rows L2 CS RZ
/-! ### determinants, row by row without remainders (Bareiss) -/
abbrev Row := List Int
def gt (r : Row) (j : Nat) : Int := r.getD j 0
end RM
namespace RM
open PySem PySem.Spec PyProof.Rows L2 CS RZ
/-! ### great numbers: *, //, & 1; enumerate; comb, perm, gcd -/
/-! enumerate -/
def enumD (ds : List D) : List D := (List.range ds.length).zipWith (fun i d => .tuple [.int (i : Nat), d]) ds
def cEnumW (ta : CA) : CA := fun ρ n k ke => ta ρ n (fun ds ρ' n' => ∃ xs, ds = [.list xs] ∧ k (enumD xs) ρ' n') ke
theorem enumD_len (ds : List D) : (enumD ds).length = ds.length := by
  unfold enumD
  rw [List.length_zipWith, List.length_range]
  omega
theorem enumD_get {ds : List D} {i : Nat} {d : D} (h : (enumD ds)[i]? = some d) : ∃ d0, ds[i]? = some d0 ∧ d = .tuple [.int (i : Nat), d0] := by
  unfold enumD at h
  rw [List.getElem?_zipWith] at h
  cases e : ds[i]? with
  | none =>
    rw [e] at h
    cases e2 : (List.range ds.length)[i]? <;> rw [e2] at h <;> cases h
  | some d0 =>
    have hi := (List.getElem?_eq_some_iff.mp e).1
    rw [e, List.getElem?_eq_getElem (by rw [List.length_range]; exact hi), List.getElem_range] at h
    cases h
    exact ⟨d0, rfl, rfl⟩
theorem enum_wd {T : Tab} {Hb : Hp} {J : It} {G : Hp → Prop} {xs : List V} {dx : List D} (w : Walk J xs.length G (YPair (fun i => some (.int (i : Nat))) fun i => xs[i]?)) (hG : ∀ H, Same Hb H → G H) (ix : IsL T Hb xs dx) : WalkD T J (enumD dx) Hb := by
  refine ⟨⟨G, _, by rw [enumD_len, ← ix.length]; exact w, hG, fun i x H H2 d s y e => ?_⟩⟩
  obtain ⟨t, x0, y0, rfl, ht, rfl, e1, e2⟩ := y
  refine ⟨same_new ht, fun Hx s2 hn => ?_⟩
  have hT := hn t _ upd_same ht
  obtain ⟨d0, e3, rfl⟩ := enumD_get e
  obtain ⟨v1, g1, h1⟩ := ix.get e3
  have e1 : some (V.int (i : Nat)) = some x0 := e1
  have e2 : xs[i]? = some y0 := e2
  rw [e2] at g1
  cases g1
  cases e1
  exact .tup (tph_in hT) (.cons (.int _) (.cons (h1.same s2) .nil))
section
variable {X : Cx} {g : Glob} {xk : WX} {pos p : Pos} {x : Str} {e : Expr} {es : List Expr} {ta : CA}
theorem pdi_enum {tpos : Pos} {elts : List Expr} {kk : Nat} (G : Good X g) (hg : Gl X "enumerate") (hm : X.mg "enumerate" = none) (ha : PDA X g xk [e] ta) (hs : starEach [e] X.env = [(false, eval e X.env)] := by rfl) : PDI X g xk (.Tuple elts kk tpos) (.Call (.Name "enumerate" p) [e] [] pos) (cEnumW ta) := by
  refine ⟨pi_imp (pi_enum hg hm ha.pa hs) fun σ H R r => ?_⟩
  obtain ⟨C, ρ, n, O, k, ke, hK, E, t, x, q⟩ := r
  refine ⟨C, ρ, n, O, _, ke, hK, E, t, x, fun ds ρ1 n1 vs H1 O1 k1 E1 S1 i1 => ?_⟩
  obtain ⟨xs, rfl, k1⟩ := k1
  have eK := hK.1.trans G.K
  obtain ⟨v, rfl, iv⟩ := i1.one
  obtain ⟨a, us, rfl, ha, ra⟩ := iv.list'
  exact ⟨a, us, rfl, SqL.of (hid_le _ _ ha), q _ _ _ _ _ _ k1 E1 S1 (enum_wd walk_enum (fun H s => SqL.of (s _ _ ha)) ra)⟩
/-! functions of math -/
end
end RM
namespace RM
open PySem PySem.Spec PyProof.Rows L2 CS RZ
/-! ### choices and arrangements -/
end RM
namespace RM
open PySem PySem.Spec PyProof.Rows L2 CS RZ
/-! ### arrangements -/
end RM
namespace RM
open PySem PySem.Spec PyProof.Rows L2 CS RZ
/-! ### determinant -/
end RM
namespace RM
open PySem PySem.Spec PyProof.Rows L2 CS RZ
/-! ### exit_numbers, orders, last_ways -/
end RM
namespace RM
open PySem PySem.Spec PyProof.Rows L2 CS RZ
/-! ### tree_sum -/
end RM
namespace RM
open PySem PySem.Spec PyProof.Rows L2 CS RZ
/-! ### how_many is how many there are -/
end RM
namespace RM
open PySem PySem.Spec PyProof.Rows L2 CS RZ
/-! ### how_many -/
end RM
set_option maxHeartbeats 4000000
namespace RM
open PySem PySem.Spec PyProof.Rows L2 CS RZ
/-! ### a op b op c as a test -/
/-! ### for a, b in zip(text, list) -/
end RM
namespace RM
open PySem PySem.Spec PyProof.Rows L2 CS RZ
/-! ### isinstance of one built-in type, a op b op c as a value, a constant of the module, a sign in a text, text.split(text) -/
def cIsK1 (o : Opd) (a : String) : CE := fun ρ n k ke => cOpd o ρ n (fun get ρ1 n1 => ∃ d t, get ρ1 = some d ∧ kindD d = some t ∧ k (.bool (decide (t = a))) ρ1 n1) ke
def kit1B (a : String) : Bool := kinds.all fun t => kitB t a == some (decide (t = a))
section
variable {X : Cx} {g : Glob} {xk : WX} {pos p : Pos}
theorem pd_isK1 {e : Expr} {o : Opd} {x : Str} {a : String} {px : Pos} (G : Good X g) (hk : kit1B a = true) (h : PDQ X g xk e o) (gx : Gl X x) (mx : X.mg x = none) (vx : bootBuiltins x = some (.type a)) (hg : Gl X "isinstance") (hm : X.mg "isinstance" = none)
    (nx : x ≠ "__name__" := by decide) (dx : (x == ("__debug__" : Str)) = false := by decide)
    (hs : starEach [e, .Name x px] X.env = (false, eval e X.env) :: starEach [.Name x px] X.env := by rfl) (hs2 : starEach [.Name x px] X.env = (false, eval (.Name x px) X.env) :: starEach [] X.env := by rfl)
    (hpl : (backTo pos (starEach [.Name x px] X.env)).any (·.1) = false := by rfl) : PD X g xk (.Call (.Name "isinstance" p) [e, .Name x px] [] pos) (cIsK1 o a) := by
  refine ⟨PE.imp (pe_callB call_isi hg hm (by decide +kernel) (pa_cons h.pe (pa_cons (pe_bltn (v := .ty a) gx mx vx rfl nx dx) pa_nil hs2) hs) (by decide) (by decide) hs hpl) fun σ H Q r => ?_⟩
  obtain ⟨C, ρ, n, O, k, ke, hK, E, t, x, q⟩ := r
  refine ⟨C, ρ, n, O, _, ke, hK, E, t, x, fun get ρ1 n1 v H1 O1 k1 E1 S1 p1 => ?_⟩
  obtain ⟨d, t, h1, h2, k1⟩ := k1
  have iv := kind_ty ((p1 _ _ _ _ _ E1 (Same.refl _) h1).is hid_le) h2
  have hkt : PySem.W.kitOne X.K (.type t) (.type a) = some (decide (t = a)) := by
    unfold kit1B at hk
    simp only [List.all_eq_true, beq_iff_eq] at hk
    exact kit_ty (hk t (kind_mem h2))
  exact ⟨v, .ty a, .type t, .type a, _, rfl, .ty a, (hK.1.trans G.K) ▸ iv, hkt, q _ _ _ _ _ _ k1 E1 S1 (.bl _)⟩
end
end RM
namespace RM
open PySem PySem.Spec PyProof.Rows L2 CS RZ
/-! ### what text.split(" > ") tells -/
abbrev sepT : Str := " > "
theorem sep_len : sepT.length = 3 := by decide +kernel
end RM
namespace RM
open PySem PySem.Spec PyProof.Rows L2 CS RZ
/-! ### is_place, is_journey, journey_of of any text (k43) -/
abbrev letT : Str := "abcdefghijklmnopqrstuvwxyz"
def plcL (l : List Nat) : Bool := decide (1 ≤ l.length) && (decide (l.length ≤ 8) && l.all fun c => decide (c ∈ letT.cps.toList))
def placeB (z : Str) : Bool := plcL z.cps.toList
theorem len_list (z : Str) : z.length = z.cps.toList.length := by rw [Array.length_toList]; rfl
theorem place_in {l : List Nat} (h : plcL l = true) : 1 ≤ l.length ∧ l.length ≤ 8 ∧ ∀ c ∈ l, c ∈ letT.cps.toList := by
  unfold plcL at h
  simp only [Bool.and_eq_true, decide_eq_true_eq, List.all_eq_true] at h
  exact ⟨h.1, h.2.1, h.2.2⟩
theorem let_small : ∀ c ∈ letT.cps.toList, 97 ≤ c ∧ c ≤ 122 := by decide +kernel
theorem place_good {z : Str} (h : placeB z = true) : GoodS z := by
  show z.cps.all (· < 0x110000) = true
  rw [Array.all_eq_true_iff_forall_mem]
  intro c hc
  have := let_small c ((place_in h).2.2 c (by simpa using hc))
  exact decide_eq_true (by omega)
/-! what is glued comes apart -/
abbrev cpl (z : Str) : List Nat := z.cps.toList
theorem cpl_app (a b : Str) : cpl (a ++ b) = cpl a ++ cpl b := by
  show (a.cps ++ b.cps).toList = _
  simp
end RM
namespace RM
open PySem PySem.Spec PyProof.Rows L2 CS RZ
/-! ### is_place, is_journey, journey_text, journey_of, what is heard (k43) -/
theorem neD_strS {a b : Str} (ha : GoodS a) (hb : GoodS b) : neD (.str a) (.str b) = some (.bool (decide (a ≠ b))) := by
  have h := eqD_str ha hb
  unfold eqD at h
  unfold neD
  split at h
  · rename_i c
    rw [if_pos c]
    have h : PyData.eqv (.str a) (.str b) = decide (a = b) := by
      have := Option.some.inj h
      exact PyData.bool.inj this
    rw [h]
    simp
  · cases h
end RM
namespace RM
open PySem PySem.Spec PyProof.Rows L2 CS RZ
/-! ### spoilt texts (k43) -/
theorem good_iff {z : Str} : GoodS z ↔ ∀ c ∈ cpl z, c < 0x110000 := by
  show z.cps.all (· < 0x110000) = true ↔ _
  rw [Array.all_eq_true_iff_forall_mem]
  constructor
  · intro h c hc
    have := h c (by simpa [cpl] using hc)
    simpa using this
  · intro h c hc
    have := h c (by simpa [cpl] using hc)
    simpa using this
theorem good_app {a b : Str} (ha : GoodS a) (hb : GoodS b) : GoodS (a ++ b) := good_iff.mpr fun c hc => by
  rw [cpl_app] at hc
  rcases List.mem_append.mp hc with h | h
  · exact good_iff.mp ha c h
  · exact good_iff.mp hb c h
theorem good_sep : GoodS sepT := (by decide +kernel : (PyData.str sepT).canLay0 = true)
theorem good_join : ∀ ys : List Str, (∀ y ∈ ys, GoodS y) → GoodS (Str.join sepT ys)
  | [], _ => (by decide +kernel : (PyData.str Str.empty).canLay0 = true)
  | [x], h => h x (List.mem_singleton.mpr rfl)
  | x :: y :: r, h => good_app (good_app (h x (List.mem_cons_self ..)) good_sep) (good_join (y :: r) fun z hz => h z (List.mem_cons_of_mem _ hz))
theorem len_join : ∀ ys : List Str, (∀ y ∈ ys, y.length ≤ 8) → (Str.join sepT ys).length ≤ ys.length * 11
  | [], _ => Nat.le_refl _
  | [x], h => by
    have := h x (List.mem_singleton.mpr rfl)
    show x.length ≤ _
    rw [List.length_singleton]
    omega
  | x :: y :: r, h => by
    have ih := len_join (y :: r) fun z hz => h z (List.mem_cons_of_mem _ hz)
    have := h x (List.mem_cons_self ..)
    show (x ++ sepT ++ Str.join sepT (y :: r)).length ≤ _
    rw [Str.length_append, Str.length_append, sep_len, List.length_cons]
    omega
theorem place_len {z : Str} (h : placeB z = true) : z.length ≤ 8 := by
  rw [len_list]
  exact (place_in h).2.1
end RM
set_option maxHeartbeats 4000000
namespace RM
open PySem PySem.Spec PyProof.Rows L2 CS RZ
/-! ### k17: _law_chosen, _law_all_steps -/
end RM
set_option maxHeartbeats 4000000
namespace RM
open PySem PySem.Spec PyProof.Rows L2 CS RZ
/-! ### how many journeys rows of any order have -/
theorem canon_filt {R : List Tri} (h : (R.map pr).Nodup) : (canon R).Perm (R.filter fun t => decide (0 < t.2.2)) := by
  have n1 : (canon R).Nodup := List.Pairwise.of_map pr (fun a b c e => c (by rw [e])) (canon_nodup R)
  have n2 : R.Nodup := List.Pairwise.of_map pr (fun a b c e => c (by rw [e])) h
  refine (List.perm_ext_iff_of_nodup n1 (n2.sublist List.filter_sublist)).mpr fun t => ?_
  rw [List.mem_filter, decide_eq_true_iff]
  constructor
  · intro ht
    obtain ⟨h1, h2, h3⟩ := canon_mem ht
    obtain ⟨u, hu, e⟩ := List.mem_map.mp h1
    have e2 : t.2.2 = u.2.2 := by
      rw [h3, ← e, ← numAt_sum h, numAt_mem h hu]
    have : t = u := Prod.ext (congrArg Prod.fst e).symm (Prod.ext (congrArg Prod.snd e).symm e2)
    rw [this]
    exact ⟨hu, by rw [← e2]; exact h2⟩
  · rintro ⟨ht, h0⟩
    unfold canon
    have e1 : sumAt R (pr t) = t.2.2 := by rw [← numAt_sum h, numAt_mem h ht]
    refine List.mem_map.mpr ⟨pr t, List.mem_filter.mpr ⟨?_, ?_⟩, ?_⟩
    · rw [(List.mergeSort_perm _ _).mem_iff, mem_firsts]
      exact List.mem_map_of_mem ht
    · rw [e1]
      exact decide_eq_true h0
    · rw [e1]
      rfl
theorem ex_perm {A B : List Tri} (h : A.Perm B) : (exL A).Perm (exL B) := by
  unfold exL
  exact h.flatMap_right _
theorem FL_perm {A B : List Tri} (h : A.Perm B) : FL A = FL B := by
  unfold FL
  have h2 := h.map fun t : Tri => fac t.2.2.toNat
  revert h2
  generalize (A.map fun t : Tri => fac t.2.2.toNat) = a
  generalize (B.map fun t : Tri => fac t.2.2.toNat) = b
  intro h2
  induction h2 with
  | nil => rfl
  | cons x _ ih => show x * _ = x * _; rw [ih]
  | swap x y l => show y * (x * _) = x * (y * _); rw [← Int.mul_assoc, Int.mul_comm y x, Int.mul_assoc]
  | trans _ _ a b => exact a.trans b
structure Rw (R : List Tri) : Prop where
  g : GoodL R
  fine : Fine R
  nd : (R.map pr).Nodup
  len : R.length ≤ 30
theorem Rw.ex {R : List Tri} (h : Rw R) : (exL (canon R)).Perm (exL R) := by
  have := ex_perm (canon_filt h.nd)
  rwa [ex_filter] at this
theorem Rw.fl {R : List Tri} (h : Rw R) : FL (canon R) = FL R := by
  rw [FL_perm (canon_filt h.nd), FL_filter]
theorem Rw.cn {R : List Tri} (h : Rw R) : Cn (canon R) := cn_canon h.fine h.g h.len
/-- what how_many and Counts ask of rows -/
theorem Rw.pc {R : List Tri} (h : Rw R) {s : Str} (gs : GoodS s) (hs : s ≠ "none") (hn : ∀ t ∈ R, t.1 ≠ "none" ∧ t.2.1 ≠ "none") : Pc s (canon R) := by
  refine ⟨h.cn, gs, h.cn.len, fun p hp => ?_⟩
  rcases (places_mem p).mp hp with rfl | ⟨t, ht, h2⟩
  · exact hs
  · have hm := (canon_filt h.nd).mem_iff.mp ht
    have hm := (List.mem_filter.mp hm).1
    rcases h2 with rfl | rfl
    · exact (hn t hm).1
    · exact (hn t hm).2
end RM
set_option maxHeartbeats 4000000
namespace RM
open PySem PySem.Spec PyProof.Rows L2 CS RZ
/-! ### k17: round trips from one place; three places in a row -/
end RM
set_option maxHeartbeats 4000000
namespace RM
open PySem PySem.Spec PyProof.Rows L2 CS RZ
/-! ### k17: _law_great_right -/
end RM
set_option maxHeartbeats 4000000
namespace RM
open PySem PySem.Spec PyProof.Rows L2 CS RZ
/-! ### k17, by hand -/
end RM
set_option maxHeartbeats 4000000
namespace RM
open PySem PySem.Spec PyProof.Rows L2 CS RZ
end RM
set_option maxHeartbeats 4000000
namespace RM
open PySem PySem.Spec PyProof.Rows L2 CS RZ
/-! ### k17: drawn turns -/
section
variable {e : EndsD} {n : Nat} {t1 t2 t3 t4 t5 t6 t7 t8 : Option Sl} {ss : List Str}
/-- the counts of a drawn walk, or of drawn steps -/
structure D17 (ss : List Str) (L : List Tri) : Prop where
  cn : Cn L
  sub : ∀ t ∈ L, t.1 ∈ ss ∧ t.2.1 ∈ ss
  len : (exL L).length ≤ 10
  s4 : ∀ s ∈ ss, s ∈ tagPool
  le : ss.length ≤ 4
theorem D17.pc {L : List Tri} {s : Str} (h : D17 ss L) (hs : s ∈ ss) : Pc s L := by
  have := pc_of h.cn.fine h.cn.g h.cn.len (tag_good _ (h.s4 _ hs)) (tag_none _ (h.s4 _ hs)) (fun t ht => ⟨tag_none _ (h.s4 _ (h.sub t ht).1), tag_none _ (h.s4 _ (h.sub t ht).2)⟩)
  rwa [h.cn.id] at this
theorem D17.size {L : List Tri} {s : Str} (h : D17 ss L) (hs : s ∈ ss) : (8 * (exL L).length + 2) * 2 ^ (placesL s L).length ≤ 9000 := by
  have h1 : (placesL s L).length ≤ ss.length := nodup_le places_nd fun p hp => by
    rcases (places_mem p).mp hp with rfl | ⟨t, ht, rfl | rfl⟩
    · exact hs
    · exact (h.sub t ht).1
    · exact (h.sub t ht).2
  have h2 : 2 ^ (placesL s L).length ≤ 2 ^ 4 := Nat.pow_le_pow_right (by decide) (Nat.le_trans h1 h.le)
  have h3 := h.len
  have h4 : (8 * (exL L).length + 2) * 2 ^ (placesL s L).length ≤ (8 * 10 + 2) * 2 ^ 4 := Nat.mul_le_mul (by omega) h2
  exact Nat.le_trans h4 (by decide)
theorem D17.nn {L : List Tri} {s : Str} (h : D17 ss L) (hs : s ∈ ss) : nn ([], s, L) ≤ 9864101 := nn_five (tag_good _ (h.s4 _ hs)) h.cn (by have := h.le; omega) h.sub (by have := h.len; omega)
end
end RM
namespace RM
open PySem PySem.Spec PyProof.Rows L2 CS
/-! ### values that _law_same asks, with long lists -/
end RM
namespace RM
open PySem PySem.Spec PyProof.Rows L2 CS RZ
/-! ### the list of all journeys stands in order, each once -/
theorem ltR_self : ∀ a : List Str, ltR a a = false
  | [] => rfl
  | x :: a => by rw [ltR_cons, if_pos rfl, ltR_self a]
theorem ltR_app : ∀ c a b : List Str, ltR (c ++ a) (c ++ b) = ltR a b
  | [], _, _ => rfl
  | x :: c, a, b => by rw [List.cons_append, List.cons_append, ltR_cons, if_pos rfl, ltR_app c a b]
theorem kids_pw {L : List Tri} {s : Str} (c : Cn L) : (kids L s).Pairwise fun t u => t.2.1.cps.toList < u.2.1.cps.toList := by
  have h1 : L.Pairwise fun a b => leP (pr a) (pr b) = true := List.pairwise_map.mp c.pw
  have h2 : L.Pairwise fun a b => pr a ≠ pr b := List.pairwise_map.mp c.nd
  have h3 := (h1.and h2).sublist (List.filter_sublist (p := fun t : Tri => decide (t.1 = s)))
  refine List.Pairwise.imp_of_mem (fun {t u} ht hu h => ?_) h3
  have e1 := (kids_in ht).2
  have e2 := (kids_in hu).2
  obtain ⟨h4, h5⟩ := h
  have hne : t.2.1 ≠ u.2.1 := fun e => h5 (Prod.ext (e1.trans e2.symm) e)
  have h6 : leS t.2.1 u.2.1 := by
    have h7 : leR [t.1, t.2.1] [u.1, u.2.1] = true := h4
    rw [leR_eq, ltR_cons, if_pos (e2.trans e1.symm), ltR_cons, if_neg (Ne.symm hne)] at h7
    have h8 : ¬ u.2.1.cps.toList < t.2.1.cps.toList := by
      intro z
      rw [decide_eq_true z] at h7
      cases h7
    exact List.not_lt.mp h8
  refine Classical.byContradiction fun z => hne ?_
  exact leS_anti h6 (List.not_lt.mp z)
theorem leaves_pw : ∀ (m : Nat) (x : Nd), Cn x.2.2 → sz x = m → (leaves m x).Pairwise fun a b => ltR a b = true
  | 0, x, c, hm => List.pairwise_singleton _ _
  | m + 1, x, c, hm => by
    show ((kids x.2.2 x.2.1).flatMap fun t => leaves m (kid x t)).Pairwise _
    have hk : ∀ t ∈ kids x.2.2 x.2.1, Cn (kid x t).2.2 ∧ sz (kid x t) = m := fun t ht => by
      have := kid_sz c (kids_in ht).1
      exact ⟨less_cn c, by omega⟩
    rw [List.pairwise_flatMap]
    refine ⟨fun t ht => leaves_pw m (kid x t) (hk t ht).1 (hk t ht).2, ?_⟩
    refine List.Pairwise.imp_of_mem (fun {t u} ht hu h a ha b hb => ?_) (kids_pw c)
    obtain ⟨p, rfl, _⟩ := (leaves_mem m (kid x t) a (hk t ht).1 (hk t ht).2).mp ha
    obtain ⟨q, rfl, _⟩ := (leaves_mem m (kid x u) b (hk u hu).1 (hk u hu).2).mp hb
    show ltR ((x.1 ++ [x.2.1]) ++ t.2.1 :: p) ((x.1 ++ [x.2.1]) ++ u.2.1 :: q) = true
    rw [ltR_app, ltR_cons, if_neg (fun e => ?_)]
    · exact decide_eq_true h
    · rw [e] at h
      exact List.lt_irrefl _ h
theorem lv_pw {s : Str} {L : List Tri} (c : Cn L) : (lv ([], s, L)).Pairwise fun a b => ltR a b = true := leaves_pw _ _ c rfl
theorem lv_nodup {s : Str} {L : List Tri} (c : Cn L) : (lv ([], s, L)).Nodup := (lv_pw c).imp fun h e => by
  rw [e, ltR_self] at h
  cases h
/-! ### turned journeys -/
end RM
set_option maxHeartbeats 4000000
namespace RM
open PySem PySem.Spec PyProof.Rows L2 CS RZ
/-! ### k12: a drawn journey turned -/
end RM
namespace RM
open PySem PySem.Spec PyProof.Rows L2 CS RZ
/-! ### zip of two sequences, each a list or a tuple (true: a tuple) -/
end RM
namespace RM
open PySem PySem.Spec PyProof.Rows L2 CS RZ
/-! ### determinant of rows that are lists or tuples, in any mix -/
end RM
namespace RM
open PySem PySem.Spec PyProof.Rows L2 CS RZ
/-! ### k16: a determinant by its first row; orders by what can come first -/
def skip (k j : Nat) : Nat := if j < k then j else j + 1
/-! ### orders of things, by what comes first -/
end RM
set_option maxHeartbeats 4000000
namespace RM
open PySem PySem.Spec PyProof.Rows L2 CS RZ
/-! ### (..) * 0 and (..) * 1 -/
end RM
namespace RM
open PySem PySem.Spec PyProof.Rows L2 CS RZ
/-! ### k16: _law_det -/
end RM
namespace RM
open PySem PySem.Spec PyProof.Rows L2 CS RZ
end RM
namespace RM
open PySem PySem.Spec PyProof.Rows L2 CS RZ
/-! ### k16: _law_strung, factorial -/
end RM
namespace RM
open PySem PySem.Spec PyProof.Rows L2 CS RZ
/-! ### sum of a tuple of numbers -/
end RM
namespace RM
open PySem PySem.Spec PyProof.Rows L2 CS RZ
/-! ### k16: _law_strung whole, factorial, _law_mixed -/
/-! factorial -/
/-! _law_mixed -/
end RM
namespace RM
open PySem PySem.Spec PyProof.Rows L2 CS RZ
/-! ### a, b, c = x, y, [] : the last one this frame's own -/
end RM
namespace RM
open PySem PySem.Spec PyProof.Rows L2 CS RZ
/-! ### a, b, c = x, y, z -/
end RM
namespace RM
open PySem PySem.Spec PyProof.Rows L2 CS RZ
/-! ### the defs of k43: spoilt texts, the text of steps -/
/-! the text of steps -/
end RM
namespace RM
open PySem PySem.Spec PyProof.Rows L2 CS RZ
/-! ### by hand (k43) -/
theorem okS_row (k : Nat) (ps : List Str) (h : ps.length ≤ 1000) : okS (k + 2) (rowT ps) := by
  refine ⟨by unfold strD; rw [List.length_map]; exact h, fun d hd => ?_⟩
  unfold strD at hd
  obtain ⟨p, _, rfl⟩ := List.mem_map.mp hd
  exact trivial
section
variable {e : EndsD} {n : Nat} {t0 t1 : Option Sl}
theorem gd {z : Str} (h : (PyData.str z).canLay0 = true) : GoodS z := h
end
end RM
namespace RM
open PySem PySem.Spec PyProof.Rows L2 CS RZ
/-! ### how many journeys have told last steps: the determinant of what is kept -/
def okK (la : Str → Option Str) (e : Ed) : Bool := decide (la e.1 = none ∨ la e.1 = some e.2)
def PK (la : Str → Option Str) : Nat → Str → List Ed → Int
  | 0, _, _ => 1
  | n + 1, s, E => ((E.filter fun e => decide (e.1 = s)).map fun e => if outN E s = 1 ∧ okK la e = false then 0 else PK la n e.2 (E.erase e)).sum
end RM
namespace RM
open PySem PySem.Spec PyProof.Rows L2 CS RZ
/-! ### how many journeys of all have told last steps -/
/-! one place alone -/
/-! what is kept -/
end RM
namespace RM
open PySem PySem.Spec PyProof.Rows L2 CS RZ
/-! ### how many journeys leave a place by a told step at a told time -/
end RM
namespace RM
open PySem PySem.Spec PyProof.Rows L2 CS RZ
/-! ### tree_sum of a list or a tuple -/
end RM
namespace RM
open PySem PySem.Spec PyProof.Rows L2 CS RZ
/-! ### fractions in lowest terms -/
/-! lowest -/
/-! _law_fraction -/
end RM
namespace RM
open PySem PySem.Spec PyProof.Rows L2 CS RZ
/-! ### share_of, share_last, share_first_in -/
end RM
namespace RM
open PySem PySem.Spec PyProof.Rows L2 CS RZ
/-! ### in how many of all journeys a step with a number leads to a place -/
end RM
namespace RM
open PySem PySem.Spec PyProof.Rows L2 CS RZ
/-! ### defs with keyword-only parameters that may be left out -/
end RM
namespace RM
open PySem PySem.Spec PyProof.Rows L2 CS RZ
/-! ### share_last, share_first_in -/
end RM
namespace RM
open PySem PySem.Spec PyProof.Rows L2 CS RZ
/-! ### share_out, share_in -/
end RM
namespace RM
open PySem PySem.Spec PyProof.Rows L2 CS RZ
/-! ### the law's own shares (k35) -/
end RM
namespace RM
open PySem PySem.Spec PyProof.Rows L2 CS RZ
/-! ### steps out of a place, into it; what is heard of a share (k36) -/
abbrev numL (i : Int) : D := .list [.str "number", .int i]
abbrev plL (a : Str) : D := .list [.str "place", .str a]
end RM
namespace RM
open PySem PySem.Spec PyProof.Rows L2 CS RZ
/-! ### places that are none; by hand (k35) -/
abbrev fD (x y : Int) : D := .tuple [.int x, .int y]
end RM
namespace RM
open PySem PySem.Spec PyProof.Rows L2 CS RZ
/-! ### k35's turn -/
end RM
namespace RM
open PySem PySem.Spec PyProof.Rows L2 CS RZ
/-! ### a pair of places, all numbers (k36) -/
end RM
namespace RM
open PySem PySem.Spec PyProof.Rows L2 CS RZ
/-! ### the same at all numbers but the last; by hand (k36) -/
/-! by hand -/
def B1 : List D := [fD 1 3, fD 2 3, fD 2 3]
def B2 : List D := [fD 1 3, fD 2 3, fD 2 3, fD 1 3, fD 1 1, fD 0 1]
def B3 : List D := B2 ++ [fD 2 3, fD 2 3, fD 2 3, fD 0 1]
def B4 : List D := B3 ++ [fD 1 3]
def B5 : List D := B4 ++ [numL 0, numL 2]
def B6 : List D := B5 ++ [numL (-1), plL "x"]
def B7 : List D := B6 ++ [plL "y", plL "x"]
def C7 : List D := B4 ++ [numL 0, numL 2, numL (-1)]
end RM
namespace RM
open PySem PySem.Spec PyProof.Rows L2 CS RZ
/-! ### k36's turn -/
end RM
namespace RM
open PySem PySem.Spec PyProof.Rows L2 CS RZ
/-! ### k43's turn -/
structure T43 (s : Str) (p : List Str) : Prop where
  t : T76 s p
  pl : ∀ y ∈ s :: p, placeB y = true
  gd : ∀ y ∈ s :: p, GoodS y
  ch : ∀ e ∈ pairsOf (s :: p), e.1 ≠ e.2
  hl : (s :: p).length ≤ 13
section
variable {e : EndsD} {n : Nat} {s : Str} {p : List Str} {t1 t2 t3 t4 t5 t6 : Option Sl}
theorem T43.gl (T : T43 s p) : GoodS (Str.join sepT (s :: p)) := good_join _ T.gd
theorem T43.ll (T : T43 s p) : (Str.join sepT (s :: p)).length ≤ 200 := by
  have := len_join (s :: p) fun y hy => place_len (T.pl y hy)
  have := T.hl
  omega
end
end RM
namespace RM
open PySem PySem.Spec PyProof.Rows L2 CS RZ
/-! ### k43's turns -/
end RM
set_option maxHeartbeats 4000000
namespace CS
open PySem PySem.Spec PyProof.Rows L2
/-! ### defs that are called where no repr is under way -/
structure FnG (P : Program) (w : World) (K : PySem.W.Frag) (mg : Str → Option Value) (base : Heap) (k : Nat) (f : Addr) (fd : FuncData) (ps : List Str) (sp : Sp) : Prop where
  len : ∀ vs H Q E, sp vs H Q E → vs.length = ps.length
  run : ∀ (A : Around) (outer : List Env) (s : Shared) (H : Hp) (args : Args) (us : List Value) (vs : List V) (Q : VK) (E : XK), A.guards = some [] → Room k A → Env0 P w K mg base A outer s H → BindsTo s fd args (ps.zip us) → Vals vs us → sp vs H Q E →
    codeAny (model P w) A (.call (.ref f) args) (CR CX0 outer P w H s Q E) s
section
variable {K : PySem.W.Frag} {P : Program} {w : World} {mg : Str → Option Value} {base : Heap}
theorem FnG.of {CX : CXT} {k : Nat} {f : Addr} {fd : FuncData} {ps : List Str} {sp : Sp} (F : FnOk P w K mg base CX0 k f fd ps sp) : FnG P w K mg base k f fd ps sp := ⟨F.len, fun A outer s H args us vs Q E _ => F.run A outer s H args us vs Q E⟩
end
end CS
namespace RM
open PySem PySem.Spec PyProof.Rows L2 CS RZ
/-! ### a op b op c op .. as a test, of any length -/
section
variable {X : Cx} {g : Glob} {xk : WX} {pos p : Pos}
def tLinks : List (R2 × TE) → V → TT
  | [], _ => fun _ _ _ => False
  | [(r, tb)], x => fun σ H Q => tb σ H fun y H1 => r x y H1 fun z H2 => ∃ k, z = .bl k ∧ Q k H2
  | (r, tb) :: l :: ls, x => fun σ H Q => tb σ H fun y H1 => r x y H1 fun z H2 => ∃ k, z = .bl k ∧ (if k = true then tLinks (l :: ls) y σ H2 Q else Q false H2)
inductive LkT (X : Cx) : List CmpOp → List Expr → List (R2 × TE) → Prop
  | one {op : CmpOp} {r : R2} {b : Expr} {tb : TE} : OpR X (compareOp op) r → PE X b tb → LkT X [op] [b] [(r, tb)]
  | cons {op op' : CmpOp} {ops : List CmpOp} {r : R2} {b b' : Expr} {bs : List Expr} {tb : TE} {l : R2 × TE} {ls : List (R2 × TE)} : OpR X (compareOp op) r → PE X b tb → LkT X (op' :: ops) (b' :: bs) (l :: ls) → LkT X (op :: op' :: ops) (b :: b' :: bs) ((r, tb) :: l :: ls)
theorem LkT.run {ops : List CmpOp} {bs : List Expr} {ls : List (R2 × TE)} (h : LkT X ops bs ls) : ∀ (pins : List (Addr × Obj)) (s : Shared) (σ : L2.St) (H : Hp) (Q : Bool → Hp → Prop) (x : V) (v : Value), Inv X pins σ H s → RelV x v → tLinks ls x σ H Q →
    wpAny (model X.prog X.w) X.A (testChain pos v ops (evalEach bs X.env)) (TP X pins σ Q) X.xe s := by
  induction h with
  | one ho hb =>
    intro pins s σ H Q x v I rx h
    exact test_last (thn (hb.run pins s σ H _ I h) fun u s2 ⟨y, H2, I2, r2, q2⟩ => thn (ho pins s2 σ H2 x y v u _ I2 rx r2 q2) fun d s5 ⟨z2, H5, I5, r5, k2, e2, q5⟩ => by
      subst e2
      cases r5
      exact wpAny_truthy_bool ⟨H5, I5, q5⟩)
  | cons ho hb _ ih =>
    intro pins s σ H Q x v I rx h
    refine test_link (thn (hb.run pins s σ H _ I h) fun u s2 ⟨y, H2, I2, r2, q2⟩ => thn (ho pins s2 σ H2 x y v u _ I2 rx r2 q2) fun d s3 ⟨z, H3, I3, r3, k, e, q3⟩ => ?_)
    subst e
    cases r3
    refine wpAny_truthy_bool ?_
    cases k with
    | false => exact ite_ff ⟨H3, I3, q3⟩
    | true => exact ite_tt (ih pins s3 σ H3 Q y u I3 r2 q3)
def tChainN (ta : TE) (ls : List (R2 × TE)) : TT := fun σ H Q => ta σ H fun x H1 => tLinks ls x σ H1 Q
theorem pt_links {op op' : CmpOp} {ops : List CmpOp} {a b b' : Expr} {bs : List Expr} {ta : TE} {ls : List (R2 × TE)} (ha : PE X a ta) (h : LkT X (op :: op' :: ops) (b :: b' :: bs) ls)
    (hm : lastMarks (op :: op' :: ops) (b :: b' :: bs) = false := by with_unfolding_all rfl) : PT X (.Compare a (op :: op' :: ops) (b :: b' :: bs) pos) (tChainN ta ls) :=
  ⟨fun pins s σ H Q I hh => isTrue_chain (thn (ha.run pins s σ H _ I hh) fun v s1 ⟨x, H1, I1, r1, q1⟩ => h.run pins s1 σ H1 Q x v I1 r1 q1) hm⟩
def cLinks : List ((D → D → Option D) × CE) → D → CT
  | [], _ => fun _ _ _ _ => False
  | [(u, t)], x => fun ρ n k ke => t ρ n (fun y ρ1 n1 => ∃ b, u x y = some (.bool b) ∧ k b ρ1 n1) ke
  | (u, t) :: l :: ls, x => fun ρ n k ke => t ρ n (fun y ρ1 n1 => ∃ b, u x y = some (.bool b) ∧ (if b = true then cLinks (l :: ls) y ρ1 n1 k ke else k false ρ1 n1)) ke
def cChainN (ta : CE) (ls : List ((D → D → Option D) × CE)) : CT := fun ρ n k ke => ta ρ n (fun x ρ1 n1 => cLinks ls x ρ1 n1 k ke) ke
inductive LkD (X : Cx) (g : Glob) (xk : WX) : List CmpOp → List Expr → List ((D → D → Option D) × CE) → Prop
  | one {op : CmpOp} {u : D → D → Option D} {b : Expr} {tb : CE} : OpD X (compareOp op) u → PD X g xk b tb → LkD X g xk [op] [b] [(u, tb)]
  | cons {op op' : CmpOp} {ops : List CmpOp} {u : D → D → Option D} {b b' : Expr} {bs : List Expr} {tb : CE} {l : (D → D → Option D) × CE} {ls : List ((D → D → Option D) × CE)} : OpD X (compareOp op) u → PD X g xk b tb → LkD X g xk (op' :: ops) (b' :: bs) (l :: ls) → LkD X g xk (op :: op' :: ops) (b :: b' :: bs) ((u, tb) :: l :: ls)
theorem LkD.raw (G : Good X g) {ops : List CmpOp} {bs : List Expr} {ls : List ((D → D → Option D) × CE)} (h : LkD X g xk ops bs ls) : ∃ rs : List (R2 × TE), rs.length = ls.length ∧ LkT X ops bs rs ∧
    ∀ (C : Ctx) (ρ : En) (n : Nat) (O : Ow) (k : Bool → En → Nat → Prop) (ke : KE) (σ : L2.St) (H : Hp) (v : V) (d : D) (Q : Bool → Hp → Prop), C.On g → Ev C ρ n σ H O → Is C.T (hid C O H) v d → cLinks ls d ρ n k ke → XL C xk ke →
      (∀ (b : Bool) (ρ' : En) (n' : Nat) (H' : Hp) (O' : Ow), k b ρ' n' → Ev C ρ' n' σ H' O' → Same (hid C O H) (hid C O' H') → Q b H') → tLinks rs v σ H Q := by
  induction h with
  | @one op u b tb ho hb =>
    obtain ⟨r, hr, hg⟩ := ho
    refine ⟨[(r, lift g xk tb)], rfl, .one hr hb.pe, fun C ρ n O k ke σ H v d Q hK E i t x q => ?_⟩
    refine ⟨C, ρ, n, O, _, ke, hK, E, t, x, fun d2 ρ2 n2 v2 H2 O2 k2 E2 S2 i2 => ?_⟩
    obtain ⟨b, hz, k2⟩ := k2
    exact hg C.T (hid C O2 H2) H2 v v2 d d2 (.bool b) _ (hK.1.trans G.K) hid_le (i.same S2) i2 hz (newq E2 fun v3 H3 E3 S3 i3 => ⟨b, isBl i3, q _ _ _ _ _ k2 E3 (S2.trans S3)⟩)
  | @cons op op' ops u b b' bs tb l ls ho hb _ ih =>
    obtain ⟨r, hr, hg⟩ := ho
    obtain ⟨rs, hl, h1, h2⟩ := ih
    obtain ⟨r1, rs, rfl⟩ : ∃ a l', rs = a :: l' := by
      cases rs with
      | nil => cases hl
      | cons a l' => exact ⟨a, l', rfl⟩
    refine ⟨(r, lift g xk tb) :: r1 :: rs, by rw [List.length_cons, hl]; rfl, .cons hr hb.pe h1, fun C ρ n O k ke σ H v d Q hK E i t x q => ?_⟩
    refine ⟨C, ρ, n, O, _, ke, hK, E, t, x, fun d2 ρ2 n2 v2 H2 O2 k2 E2 S2 i2 => ?_⟩
    obtain ⟨b, hz, k2⟩ := k2
    refine hg C.T (hid C O2 H2) H2 v v2 d d2 (.bool b) _ (hK.1.trans G.K) hid_le (i.same S2) i2 hz (newq E2 fun v3 H3 E3 S3 i3 => ⟨b, isBl i3, ?_⟩)
    cases b with
    | false => exact q _ _ _ _ _ k2 E3 (S2.trans S3)
    | true => exact h2 C ρ2 n2 O2 k ke σ H3 v2 d2 Q hK E3 (i2.same S3) k2 x fun b ρ' n' H' O' a b' c => q _ _ _ _ _ a b' ((S2.trans S3).trans c)
theorem pdt_links {op op' : CmpOp} {ops : List CmpOp} {a b b' : Expr} {bs : List Expr} {ta : CE} {ls : List ((D → D → Option D) × CE)} (G : Good X g) (ha : PD X g xk a ta) (h : LkD X g xk (op :: op' :: ops) (b :: b' :: bs) ls)
    (hm : lastMarks (op :: op' :: ops) (b :: b' :: bs) = false := by with_unfolding_all rfl) : PDT X g xk (.Compare a (op :: op' :: ops) (b :: b' :: bs) pos) (cChainN ta ls) := by
  obtain ⟨rs, _, h1, h2⟩ := h.raw G
  refine ⟨PT.imp (pt_links ha.pe h1 hm) fun σ H Q hh => ?_⟩
  obtain ⟨C, ρ, n, O, k, ke, hK, E, t, x, q⟩ := hh
  exact ⟨C, ρ, n, O, _, ke, hK, E, t, x, fun d ρ1 n1 v H1 O1 k1 E1 S1 i1 => h2 C ρ1 n1 O1 k ke σ H1 v d Q hK E1 i1 k1 x fun b ρ' n' H' O' a b' c => q _ _ _ _ _ a b' (S1.trans c)⟩
/-! ### repr of data, where no repr is under way -/
end
theorem FnG.imp {P : Program} {w : World} {K : PySem.W.Frag} {mg : Str → Option Value} {base : Heap} {k : Nat} {f : Addr} {fd : FuncData} {ps : List Str} {sp sp' : Sp} (F : FnG P w K mg base k f fd ps sp) (h : ∀ vs H Q E, sp' vs H Q E → sp vs H Q E) : FnG P w K mg base k f fd ps sp' :=
  ⟨fun vs H Q E z => F.len vs H Q E (h _ _ _ _ z), fun A outer s H args us vs Q E a b c d e z => F.run A outer s H args us vs Q E a b c d e (h _ _ _ _ z)⟩
end RM
namespace RM
open PySem PySem.Spec PyProof.Rows L2 CS RZ
/-! ### isinstance(x, int): a bool is one, too -/
def cIsInt (o : Opd) : CE := fun ρ n k ke => cOpd o ρ n (fun get ρ1 n1 => ∃ d t, get ρ1 = some d ∧ kindD d = some t ∧ k (.bool (t == "int" || t == "bool")) ρ1 n1) ke
def kitIB : Bool := kinds.all fun t => kitB t "int" == some (t == "int" || t == "bool")
section
variable {X : Cx} {g : Glob} {xk : WX} {pos p : Pos}
theorem pd_isInt {e : Expr} {o : Opd} {x : Str} {px : Pos} (G : Good X g) (h : PDQ X g xk e o) (gx : Gl X x) (mx : X.mg x = none) (vx : bootBuiltins x = some (.type "int")) (hg : Gl X "isinstance") (hm : X.mg "isinstance" = none)
    (nx : x ≠ "__name__" := by decide) (dx : (x == ("__debug__" : Str)) = false := by decide)
    (hs : starEach [e, .Name x px] X.env = (false, eval e X.env) :: starEach [.Name x px] X.env := by rfl) (hs2 : starEach [.Name x px] X.env = (false, eval (.Name x px) X.env) :: starEach [] X.env := by rfl)
    (hpl : (backTo pos (starEach [.Name x px] X.env)).any (·.1) = false := by rfl) : PD X g xk (.Call (.Name "isinstance" p) [e, .Name x px] [] pos) (cIsInt o) := by
  refine ⟨PE.imp (pe_callB call_isi hg hm (by decide +kernel) (pa_cons h.pe (pa_cons (pe_bltn (v := .ty "int") gx mx vx rfl nx dx) pa_nil hs2) hs) (by decide) (by decide) hs hpl) fun σ H Q r => ?_⟩
  obtain ⟨C, ρ, n, O, k, ke, hK, E, t, x, q⟩ := r
  refine ⟨C, ρ, n, O, _, ke, hK, E, t, x, fun get ρ1 n1 v H1 O1 k1 E1 S1 p1 => ?_⟩
  obtain ⟨d, t, h1, h2, k1⟩ := k1
  have iv := kind_ty ((p1 _ _ _ _ _ E1 (Same.refl _) h1).is hid_le) h2
  have hk : kitIB = true := by decide +kernel
  have hkt : PySem.W.kitOne X.K (.type t) (.type "int") = some (t == "int" || t == "bool") := by
    unfold kitIB at hk
    simp only [List.all_eq_true, beq_iff_eq] at hk
    exact kit_ty (hk t (kind_mem h2))
  exact ⟨v, .ty "int", .type t, .type "int", _, rfl, .ty "int", (hK.1.trans G.K) ▸ iv, hkt, q _ _ _ _ _ _ k1 E1 S1 (.bl _)⟩
end
/-! ### things that may be crossings (k68) -/
/-- a small number -/
def SmI (i : Int) : Prop := -(2 ^ 200) < i ∧ i < 2 ^ 200
/-- a member of such a thing -/
inductive Me : D → Prop
  | int {i : Int} (h : SmI i) : Me (.int i)
  | non : Me .none
  | bl (b : Bool) : Me (.bool b)
  | str {z : Str} (h : GoodS z) (hl : z.length ≤ 5) : Me (.str z)
  | tup {is : List Int} (h : ∀ i ∈ is, SmI i) (hl : is.length ≤ 5) : Me (.tuple (is.map PyData.int))
def numB : D → Bool
  | .int _ => true
  | _ => false
abbrev n_is_number : List Str := ["thing"]
def cs_is_number : CS := cRet (cAndV (cIsInt (.nm 0)) (cNotV (cIsK1 (.nm 0) "bool")))
def sdIsNum : SpD := fun ds n k _ => ∃ d, ds = [d] ∧ Me d ∧ k (.bool (numB d)) n
section
variable {e : EndsD}
theorem himp_is_number (ds : List D) (n : Nat) (k : D → Nat → Prop) (ke : Xv → Nat → Prop) (h : sdIsNum ds n k ke) (he : e.rt = k) : cs_is_number (startE n_is_number ds) n e := by
  obtain ⟨d, rfl, hd, q⟩ := h
  subst he
  cases hd with
  | int _ => exact ⟨rfl, _, _, rfl, rfl, true, rfl, rfl, _, _, rfl, rfl, false, rfl, q⟩
  | bl b => exact ⟨rfl, _, _, rfl, rfl, true, rfl, rfl, _, _, rfl, rfl, true, rfl, q⟩
  | non => exact ⟨rfl, _, _, rfl, rfl, false, rfl, q⟩
  | str _ _ => exact ⟨rfl, _, _, rfl, rfl, false, rfl, q⟩
  | tup _ _ => exact ⟨rfl, _, _, rfl, rfl, false, rfl, q⟩
end
/-! check_size, cut -/
theorem cutL_mid {ds : List D} {i j : Nat} (h : i ≤ ds.length) : cutL ds (some ((i : Nat) : Int)) (some ((j : Nat) : Int)) = (ds.drop i).take (j - i) := by
  unfold cutL
  rw [show HT.sIx ds.length 0 (some ((i : Nat) : Int)) = min i ds.length from HT.sIx_nat _ _ _, show HT.sIx ds.length ds.length (some ((j : Nat) : Int)) = min j ds.length from HT.sIx_nat _ _ _, Nat.min_eq_left h]
  by_cases c : j ≤ ds.length
  · rw [Nat.min_eq_left c]
  · rw [Nat.min_eq_right (by omega)]
    rw [List.take_of_length_le (by rw [List.length_drop]; omega), List.take_of_length_le (by rw [List.length_drop]; omega)]
def cNoSize : Nat := 11
abbrev n_check_size : List Str := ["journey", "size"]
def cs_check_size : CS := cIfS (cOrT (cB (cOp ltD (cVar 1) (cC (.int 2)))) (cB (cOp gtD (cVar 1) (cOp addD (cCB gLen (cCons (cVar 0) (cNil))) (cC (.int 1)))))) (cRaise cNoSize ["number"] (cCons (cVar 1) (cNil))) (cNext)
theorem len_strD (row : List Str) : (strD row).length = row.length := by unfold strD; rw [List.length_map]
/-- the stretches -/
def stS (row : List Str) (f i : Nat) : List Str := (row.drop i).take f
def cutS (row : List Str) (f : Nat) : List (List Str) := (List.range (row.length + 1 - f)).map (stS row f)
abbrev n_cut : List Str := ["journey", "size", "at"]
def cs_cut : CS := cRet (cLc (cRange1 (cCons (cOp subD (cOp addD (cCB gLen (cCons (cVar 0) (cNil))) (cC (.int 1))) (cVar 1)) (cNil))) (stN 2) (cYes) (cCB gTuple (cCons (cSl (cVar 0) (cPart (cVar 2)) (cPart (cOp addD (cVar 2) (cVar 1)))) (cNil))) [2])
theorem slice_seq {x : D} {l : List D} (h : seqD x = some l) (lo hi : Option Int) : ∃ z, sliceD x lo hi = some z ∧ seqD z = some (cutL l lo hi) := by
  cases x <;> first | (cases h; exact ⟨_, rfl, rfl⟩) | cases h
theorem mid_strD (row : List Str) (i f : Nat) (h : i ≤ row.length) : cutL (strD row) (some ((i : Nat) : Int)) (some ((i + f : Nat) : Int)) = strD (stS row f i) := by
  rw [cutL_mid (by rw [len_strD]; exact h)]
  unfold strD stS
  rw [← List.map_drop, ← List.map_take, Nat.add_sub_cancel_left]
end RM
namespace RM
open PySem PySem.Spec PyProof.Rows L2 CS RZ
/-! ### is_crossing_by (k68) -/
def condB (row : List Str) (f : Nat) (a b c e : Int) : Prop := 0 ≤ a ∧ a < b ∧ b ≤ c ∧ c < e ∧ e < ((row.length + 2 - f : Nat) : Int)
instance {row : List Str} {f : Nat} {a b c e : Int} : Decidable (condB row f a b c e) := by unfold condB; infer_instance
def fourB (row : List Str) (f : Nat) (a b c e : Int) : Bool := decide (condB row f a b c e) && (decide (stS row (f - 1) a.toNat = stS row (f - 1) c.toNat) && (decide (stS row (f - 1) b.toNat = stS row (f - 1) e.toNat) && !decide (stS row (f - 1) (a.toNat + 1) = stS row (f - 1) (c.toNat + 1))))
def crossB (row : List Str) (f : Nat) : D → Bool
  | .tuple [.int a, .int b, .int c, .int e] => fourB row f a b c e
  | _ => false
theorem cut_len (row : List Str) (f : Nat) : ((cutS row f).map rowT).length = row.length + 1 - f := by
  unfold cutS
  rw [List.length_map, List.length_map, List.length_range]
theorem cut_at {row : List Str} {f : Nat} {i : Int} (h0 : 0 ≤ i) (h : i < ((row.length + 1 - f : Nat) : Int)) : atD (.list ((cutS row f).map rowT)) (.int i) = some (rowT (stS row f i.toNat)) := by
  have e : i = ((i.toNat : Nat) : Int) := by omega
  show atI _ i = _
  rw [e]
  refine atI_nat ?_
  unfold cutS
  have hh : i.toNat < row.length + 1 - f := by omega
  simp only [List.map_map, List.getElem?_map, List.getElem?_range hh, Option.map_some, Function.comp, Int.toNat_natCast]
theorem good_st {row : List Str} (h : ∀ y ∈ row, GoodS y) (f i : Nat) : ∀ y ∈ stS row f i, GoodS y := fun y hy => h y (List.mem_of_mem_drop (List.mem_of_mem_take hy))
abbrev n_is_crossing : List Str := ["journey", "size", "thing", "rows", "one", "inner", "other", "late", "member"]
end RM
namespace RM
open PySem PySem.Spec PyProof.Rows L2 CS RZ
/-! ### what the law calls a crossing (k68) -/
theorem OkN.non (k : Nat) : OkN k .none := ⟨rfl, by simp [PyData.canLay0], by simp [PyData.depth]⟩
theorem OkN.bl (k : Nat) (b : Bool) : OkN k (.bool b) := ⟨rfl, by simp [PyData.canLay0], by simp [PyData.depth]⟩
theorem Me.ok {d : D} (h : Me d) : OkN 1 d := by
  cases h with
  | int _ => exact OkN.int _ _
  | non => exact OkN.non _
  | bl b => exact OkN.bl _ b
  | str g _ => exact OkN.str _ g
  | tup _ _ =>
    refine OkN.tuple fun d hd => ?_
    obtain ⟨i, _, rfl⟩ := List.mem_map.mp hd
    exact OkN.int _ _
end RM
namespace RM
open PySem PySem.Spec PyProof.Rows L2 CS RZ
/-! ### rows of four numbers; things that are bent (k68) -/
/-! bent -/
end RM
namespace RM
open PySem PySem.Spec PyProof.Rows L2 CS RZ
/-! ### what is shown of such things (k68) -/
end RM
namespace RM
open PySem PySem.Spec PyProof.Rows L2 CS RZ
/-! ### k68's turn -/
theorem lists_strD : ∀ row : List Str, listsDs (strD row) = strD row
  | [] => rfl
  | s :: row => by
    show listsD (.str s) :: listsDs (strD row) = _
    rw [lists_strD row]
    rfl
theorem lists_row (row : List Str) : listsD (rowT row) = .list (strD row) := by
  show PyData.list (listsDs (strD row)) = _
  rw [lists_strD]
theorem catL {a b : List D} (h : a.length + b.length ≤ lim) : addD (.list a) (.list b) = some (.list (a ++ b)) := if_pos h
end RM
namespace RM
open PySem PySem.Spec PyProof.Rows L2 CS RZ
/-! ### by hand (k68) -/
def trip5 : List Str := ["a", "b", "a", "c", "a"]
def far9 : List Str := ["a", "b", "c", "a", "b", "d", "a", "b", "e"]
def i4 (a b c d : Int) : D := .tuple [.int a, .int b, .int c, .int d]
def Am6 : List D := [i4 0 2 2 4, .list [.int 0, .int 2, .int 2, .int 4], .tuple [.int 0, .int 2, .int 2], .tuple [.int 0, .int 2, .int 2, .int 4, .int 4], i4 0 1 2 4, i4 0 2 4 4]
def Am10 : List D := Am6 ++ [i4 2 2 2 4, .none, .int 5, .str "0224"]
def Am15 : List D := Am10 ++ [.tuple [.bool false, .int 2, .int 2, .int 4], i4 0 2 2 5, i4 0 2 2 (-1), .tuple [i4 0 2 2 4], .tuple []]
def M17 : List D := Am15 ++ [.tuple [.str "0", .int 2, .int 2, .int 4], i4 0 0 2 4]
abbrev hb (g : Option Sl) (t2 : Option Sl) : En := [some (.v (.list M17)), g, t2, some (.v (rowT trip5)), some (.v (rowT far9)), none]
section
variable {e : EndsD} {n : Nat} {t0 t1 t2 t3 t4 : Option Sl}
theorem cv {row : List Str} {f : Nat} {d : D} {b : Bool} {k : D → Prop} (h : crossB row f d = b) (q : k (.bool b)) : k (.bool (crossB row f d)) := by rw [h]; exact q
end
end RM
namespace RM
open PySem PySem.Spec PyProof.Rows L2 CS RZ
/-! ### a, b = [a text], dict(pairs) : both this frame's own -/
end RM
namespace RM
open PySem PySem.Spec PyProof.Rows L2 CS RZ
/-! ### going by exit lists (k20) -/
def u0 : Str → Nat := fun _ => 0
end RM
namespace RM
open PySem PySem.Spec PyProof.Rows L2 CS RZ
/-! ### by_lists (k20) -/
end RM
namespace RM
open PySem PySem.Spec PyProof.Rows L2 CS RZ
/-! ### _law_follow (k20) -/
end RM
set_option maxHeartbeats 4000000
namespace RM
open PySem PySem.Spec PyProof.Rows L2 CS RZ
/-! ### sorted(set(a tuple of texts)), sorted(set(a list or a tuple of texts)) -/
section
variable {X : Cx} {g : Glob} {xk : WX} {pos pos2 : Pos}
theorem nodup_short : ∀ {cs ss : List Str}, cs.Nodup → (∀ x ∈ cs, x ∈ ss) → cs.length ≤ ss.length
  | [], _, _, _ => Nat.zero_le _
  | c :: cs, ss, h, hs => by
    rw [List.nodup_cons] at h
    have hc := hs c (List.mem_cons_self ..)
    have ih := nodup_short (cs := cs) (ss := ss.erase c) h.2 fun x hx => (List.mem_erase_of_ne fun (z : x = c) => h.1 (z ▸ hx)).mpr (hs x (List.mem_cons_of_mem _ hx))
    rw [List.length_erase_of_mem hc] at ih
    have := List.length_pos_of_mem hc
    rw [List.length_cons]
    omega
end
end RM
namespace RM
open PySem PySem.Spec PyProof.Rows L2 CS RZ
/-! ### exit lists of a journey (k20) -/
/-! the defs -/
def Asc (row ys : List Str) : Prop := ys.Nodup ∧ (∀ p, p ∈ ys ↔ p ∈ row.dropLast) ∧ sortedS ys = true
theorem Asc.len {row ys : List Str} (h : Asc row ys) : ys.length ≤ row.length := Nat.le_trans (nodup_short h.1 fun x hx => (h.2.1 x).mp hx) (by rw [List.length_dropLast]; omega)
theorem Asc.mem {row ys : List Str} (h : Asc row ys) {p : Str} (hp : p ∈ ys) : p ∈ row := List.dropLast_subset _ ((h.2.1 p).mp hp)
theorem Asc.one {row ys zs : List Str} (h : Asc row ys) (h2 : Asc row zs) : ys = zs := sorted_one (sorted_pw h.2.2) (sorted_pw h2.2.2) h.1 h2.1 fun p => (h.2.1 p).trans (h2.2.1 p).symm
end RM
namespace RM
open PySem PySem.Spec PyProof.Rows L2 CS RZ
/-! ### k20's turn -/
theorem pairs_range : ∀ row : List Str, pairsOf row = (List.range (row.length - 1)).map fun k => (row.getD k Str.empty, row.getD (k + 1) Str.empty)
  | [] => rfl
  | [_] => rfl
  | x :: y :: r => by
    have ih := pairs_range (y :: r)
    have e0 : pairsOf (x :: y :: r) = (x, y) :: pairsOf (y :: r) := rfl
    rw [e0, ih]
    have e1 : (x :: y :: r).length - 1 = (y :: r).length - 1 + 1 := rfl
    rw [e1, List.range_succ_eq_map, List.map_cons, List.map_map]
    rfl
end RM
namespace RM
open PySem PySem.Spec PyProof.Rows L2 CS RZ
/-! ### k20's turns -/
structure T20 (s : Str) (p : List Str) : Prop where
  gd : ∀ y ∈ s :: p, GoodS y
  hl : (s :: p).length ≤ 21
theorem T20.pl {s : Str} {p : List Str} (T : T20 s p) : (pairsOf (s :: p)).length ≤ 20 := by
  have h := pairs_range (s :: p)
  have := congrArg List.length h
  rw [List.length_map, List.length_range] at this
  have := T.hl
  omega
end RM
namespace RM
open PySem PySem.Spec PyProof.Rows L2 CS RZ
/-! ### k20: the laps, the turns -/
end RM
set_option maxHeartbeats 4000000
namespace RM
open PySem PySem.Spec PyProof.Rows L2 CS RZ
/-! ### tuple(a text) -/
end RM
namespace RM
open PySem PySem.Spec PyProof.Rows L2 CS RZ
/-! ### by hand (k20) -/
end RM
namespace RM
open PySem PySem.Spec PyProof.Rows L2 CS RZ
/-! ### for a, b, c in zip(x, y, z), three tuples -/
end RM
namespace RM
open PySem PySem.Spec PyProof.Rows L2 CS RZ
/-! ### d[p], p any tuple of texts and numbers -/
def tDGetS (K : PySem.W.Frag) (td ty : TE) : TE := fun σ H Q => td σ H fun x H1 => ty σ H1 fun y H2 => ∃ (a b : Addr) (kvs : List (List L2.Key × V)) (ks : List L2.Key) (v : V), x = .ref a ∧ y = .ref b ∧ L2.Rd H2 a (.dT kvs) ∧ SqT K H2 b (ks.map kV) ∧ valV kvs ks = some v ∧ Q v H2
theorem pe_dgetS {X : Cx} {o i : Expr} {td ty : TE} {pos : Pos} (hu : X.A.units + 1 < cLine) (ho : PE X o td) (hi : PE X i ty) (hs : NoSl i) : PE X (.Subscript o i pos) (tDGetS X.K td ty) := by
  refine ⟨fun pins s σ H Q I h => ?_⟩
  refine subD_of PySem.F.slot_dict_getitem.lookup hs (thn (ho.run pins s σ H _ I h) fun u s1 ⟨x, H1, I1, rx, q1⟩ => thn (hi.run pins s1 σ H1 _ I1 q1) fun iv s2 told => ?_)
  obtain ⟨y, H2, I2, ry, a, b, kvs, ks, v, ex, ey, e, hk, l, q2⟩ := told
  subst ex ey
  obtain rfl : u = Value.ref a := rx
  obtain rfl : iv = Value.ref b := ry
  obtain ⟨its, r, p, _⟩ := I2.tuple hk
  obtain ⟨o, h1, h2, n, h3⟩ := p
  have key : (tupleKind (mixKind X.prog X.w)).is s2.heap ks b := ⟨o, its.toArray, n, h1, h2, h3, by simpa using items_are r⟩
  obtain ⟨z, hd, xs, rel, dd⟩ := dt_rd I2.hok e
  refine ⟨dd.typeIs, ?_⟩
  obtain ⟨w', hw, rw'⟩ := RelO.some_of (v := v) (o := (atKey xs ks).map (·.2)) (by rw [← l]; exact rel.val ks)
  obtain ⟨p, hp, hp2⟩ := Option.map_eq_some_iff.mp hw
  refine wpAny_getItem_heap (tupleKind_room_in1 hu) key dd hp ?_
  rw [hp2]
  exact ⟨v, H2, I2.tok _, rw', q2⟩
def isDctT : D → Bool
  | .dict ((.none, .bool true) :: _) => true
  | _ => false
/-- d[p], p a name for a tuple -/
def cDGetS (o : Opd) (tk : CE) : CE := fun ρ n k ke => cOpd o ρ n (fun get ρ1 n1 => tk ρ1 n1 (fun y ρ2 n2 => ∃ x xs z, y = .tuple xs ∧ isDctT x = true ∧ get ρ2 = some x ∧ lookD x y = some (some z) ∧ k z ρ2 n2) ke) ke
section
variable {X : Cx} {g : Glob} {xk : WX} {pos : Pos}
theorem pd_dgetS {a b : Expr} {o : Opd} {tk : CE} (G : Good X g) (hu : X.A.units + 1 < cLine) (ha : PDQ X g xk a o) (hb : PD X g xk b tk) (hs : NoSl b) : PD X g xk (.Subscript a b pos) (cDGetS o tk) := by
  refine ⟨PE.imp (pe_dgetS hu ha.pe hb.pe hs) fun σ H Q h => ?_⟩
  obtain ⟨C, ρ, n, O, k, ke, hK, E, t, x, q⟩ := h
  refine ⟨C, ρ, n, O, _, ke, hK, E, t, x, fun get ρ1 n1 v H1 O1 k1 E1 S1 p1 => ⟨C, ρ1, n1, O1, _, ke, hK, E1, k1, x, fun y ρ2 n2 v2 H2 O2 k2 E2 S2 i2 => ?_⟩⟩
  have eK := hK.1.trans G.K
  obtain ⟨x0, xs, z, rfl, hd, h1, h2, k2⟩ := k2
  have pk := p1 _ _ _ _ _ E2 S2 h1
  obtain ⟨b, us, rfl, hb, rb⟩ := i2.tup'
  unfold lookD at h2
  split at h2
  · cases hd
  · rename_i ks0 xs0 e0
    injection e0 with e0
    subst e0
    obtain ⟨c, e3⟩ := ifs h2
    obtain ⟨a, kvs, rfl, hr, ik⟩ := pk_dt hid_le pk
    obtain ⟨ks, rfl, rfl⟩ := isL_keys rb c
    have := isT_look ks ik
    rw [e3] at this
    obtain ⟨w, e1, e2⟩ := this
    exact ⟨a, b, kvs, ks, w, rfl, rfl, hr, eK ▸ sqt_same hid_le hb, e1, q _ _ _ _ _ _ k2 E2 (S1.trans S2) e2⟩
  · cases h2
end
/-! ### _law_mixed over texts and numbers -/
/-! what comes out of a row of texts and of rows -/
end RM
namespace RM
open PySem PySem.Spec PyProof.Rows L2 CS RZ
/-! ### k49: the table of a row at a place -/
/-! ### passings -/
end RM
namespace RM
open PySem PySem.Spec PyProof.Rows L2 CS RZ
/-! ### k49: the law's own table -/
/-! places of the passings -/
/-! the loop -/
end RM
namespace RM
open PySem PySem.Spec PyProof.Rows L2 CS RZ
/-! ### p < q of two pairs of texts -/
/-! ### k49: coming, leaving, arrivals, departures -/
end RM
namespace RM
open PySem PySem.Spec PyProof.Rows L2 CS RZ
/-! ### k49: is_table, the sums of a table -/
/-! the sums -/
end RM
namespace RM
open PySem PySem.Spec PyProof.Rows L2 CS RZ
/-! ### k49: pieces_of with names as a list, pieces_without -/
/-! pieces_without -/
end RM
namespace RM
open PySem PySem.Spec PyProof.Rows L2 CS RZ
/-! ### k49: what hangs together without a place, the law's own way -/
structure T49 (s : Str) (p : List Str) : Prop where
  t : T76 s p
  pl : ∀ y ∈ s :: p, placeB y = true
  nw : ∀ y ∈ s :: p, y ≠ "nowhere"
theorem pair_snd : ∀ (s : Str) (p : List Str) (y : Str), y ∈ p → ∃ e ∈ pairsOf (s :: p), e.2 = y
  | s, b :: p, y, h => by
    rcases List.mem_cons.mp h with rfl | h
    · exact ⟨(s, y), List.mem_cons_self .., rfl⟩
    · obtain ⟨e, he, q⟩ := pair_snd b p y h
      exact ⟨e, List.mem_cons_of_mem _ he, q⟩
  | _, [], _, h => absurd h List.not_mem_nil
theorem T49.gd {s : Str} {p : List Str} (T : T49 s p) : ∀ y ∈ s :: p, GoodS y := fun y hy => place_good (T.pl y hy)
/-! one pair -/
end RM
namespace RM
open PySem PySem.Spec PyProof.Rows L2 CS RZ
/-! ### k49: what comes and what leaves, against the table -/
/-! nothing passes where the journey is not -/
/-! the table of a journey is a table -/
end RM
namespace RM
open PySem PySem.Spec PyProof.Rows L2 CS RZ
/-! ### k49: one row -/
/-! ### k49: the turns -/
end RM
namespace RM
open PySem PySem.Spec PyProof.Rows L2 CS RZ
/-! ### a tuple in a name as a key; reversed(range(n)); list(range(..)) -/
theorem Is.keyT {T : Tab} {H : Hp} {v : V} {ds : List D} (h : Is T H v (.tuple ds)) (n : ds ≠ []) (f : ds.all flatK = true) : KeyAt H v (.tuple ds) := by
  obtain ⟨a, xs, rfl, ha, r⟩ := h.tupH'
  obtain ⟨ks, rfl, rfl⟩ := isL_keys r f
  refine .t (ha.2 fun e => n ?_)
  cases ks with
  | nil => rfl
  | cons k ks => cases e
def cKeyS (t : CE) : CE := fun ρ n k ke => t ρ n (fun d ρ' n' => (∃ ds, d = .tuple ds ∧ ds ≠ [] ∧ ds.all flatK = true) ∧ k d ρ' n') ke
section
variable {X : Cx} {g : Glob} {xk : WX} {pos : Pos}
theorem pk_valT {e : Expr} {t : CE} (h : PD X g xk e t) : PDK X g xk e (cKeyS t) :=
  ⟨PE.imp h.pe fun σ H Q ⟨C, ρ, n, O, k, ke, hK, E, t, x, q⟩ => ⟨C, ρ, n, O, _, ke, hK, E, t, x, fun d ρ' n' v H' O' a b c i => by
    obtain ⟨⟨ds, rfl, n1, f⟩, a⟩ := a
    exact q _ _ _ _ _ _ a b c (i.keyT n1 f)⟩⟩
def dnD (n : Nat) : List D := (List.range n).map fun i => .int ((0 + ((n : Nat) : Int) - 1) + (i : Nat) * (-1))
theorem dnD_len (n : Nat) : (dnD n).length = n := by unfold dnD; rw [List.length_map, List.length_range]
theorem dnD_succ (n : Nat) : dnD (n + 1) = .int (n : Nat) :: dnD n := by
  unfold dnD
  rw [List.range_succ_eq_map, List.map_cons, List.map_map]
  congr 1
  · congr 1
    omega
  · refine List.map_congr_left fun i _ => ?_
    show PyData.int _ = PyData.int _
    congr 1
    push_cast
    omega
def cRevR1 (t : CE) : CA := fun ρ n k ke => t ρ n (fun d ρ' n' => ∃ j : Nat, d = .int (j : Nat) ∧ j ≤ lim ∧ k (dnD j) ρ' n') ke
theorem walkd_rev {T : Tab} {n : Nat} {Hb : Hp} : WalkD T (Itc (0 + ((n : Nat) : Int) - 1) (-1) n) (dnD n) Hb :=
  ⟨⟨_, _, by rw [dnD_len]; exact walk_rangeC, fun _ _ => trivial, fun i x H H2 d s y e => by
    obtain ⟨rfl, rfl⟩ := y
    unfold dnD at e
    rw [List.getElem?_map] at e
    cases h : (List.range n)[i]? with
    | none => rw [h] at e; cases e
    | some j =>
      rw [h] at e
      obtain ⟨h1, h2⟩ := List.getElem?_eq_some_iff.mp h
      rw [List.getElem_range] at h2
      cases e
      rw [h2]
      exact ⟨Same.refl _, fun _ _ _ => .int _⟩⟩⟩
theorem pdi_revR1 {tg a : Expr} {t : CE} {p p2 pos2 : Pos} (hg : Gl X "range") (hm : X.mg "range" = none) (hg2 : Gl X "reversed") (hm2 : X.mg "reversed" = none) (ha : PD X g xk a t) (hs : starEach [a] X.env = (false, eval a X.env) :: starEach [] X.env := by rfl)
    (hs2 : starEach [.Call (.Name "range" p2) [a] [] pos2] X.env = (false, eval (.Call (.Name "range" p2) [a] [] pos2) X.env) :: starEach [] X.env := by rfl) : PDI X g xk tg (.Call (.Name "reversed" p) [.Call (.Name "range" p2) [a] [] pos2] [] pos) (cRevR1 t) := by
  refine ⟨pi_imp (pi_revR hg2 hm2 (prg_1 hg hm ha.pe hs) hs2) fun σ H R r => ?_⟩
  obtain ⟨C, ρ, n, O, k, ke, hK, E, t, x, q⟩ := r
  refine ⟨C, ρ, n, O, _, ke, hK, E, t, x, fun d ρ1 n1 v H1 O1 k1 E1 S1 i1 => ?_⟩
  obtain ⟨j, rfl, hj, k1⟩ := k1
  rw [i1.int']
  have h5 : lim < 2 ^ 62 := by decide
  refine ⟨(j : Nat), rfl, by omega, by omega, by omega, by omega, ?_⟩
  have e1 : (((j : Nat) : Int) - 0).toNat = j := by omega
  rw [e1]
  exact q _ _ _ _ _ _ k1 E1 S1 walkd_rev
/-! list(range(a, b)) -/
end
end RM
namespace RM
/-! ### windows of a row -/
section
variable {α : Type}
/-- the stretches of so many places -/
def winL (k : Nat) (x : List α) : List (List α) := (List.range (x.length + 1 - k)).map fun i => (x.drop i).take k
/-- the stretch at a place -/
def nodeL (m i : Nat) (x : List α) : List α := (x.drop i).take m
theorem win_mem {k : Nat} {x w : List α} : w ∈ winL k x ↔ ∃ i, i + k ≤ x.length ∧ nodeL k i x = w := by
  unfold winL nodeL
  rw [List.mem_map]
  constructor
  · rintro ⟨i, hi, h⟩
    rw [List.mem_range] at hi
    refine ⟨i, ?_, h⟩
    by_cases c : i + k ≤ x.length
    · exact c
    · exact absurd hi (by omega)
  · rintro ⟨i, hi, h⟩
    exact ⟨i, List.mem_range.mpr (by omega), h⟩
theorem take_same {m : Nat} {y z : List α} (h : y.take m = z.take m) : ∀ x : List α, (x ++ y).take m = (x ++ z).take m := fun x => by
  rw [List.take_append, List.take_append]
  congr 1
  have e : ∀ w : List α, w.take (m - x.length) = (w.take m).take (m - x.length) := fun w => by rw [List.take_take, Nat.min_eq_left (by omega)]
  rw [e y, e z, h]
/-- windows of a row in two parts -/
theorem win_app {m : Nat} (x : List α) {y : List α} (h : m ≤ y.length) : winL (m + 1) (x ++ y) = winL (m + 1) (x ++ y.take m) ++ winL (m + 1) y := by
  have l1 : (x ++ y).length + 1 - (m + 1) = x.length + (y.length - m) := by rw [List.length_append]; omega
  have l2 : (x ++ y.take m).length + 1 - (m + 1) = x.length := by rw [List.length_append, List.length_take]; omega
  have l3 : y.length + 1 - (m + 1) = y.length - m := by omega
  unfold winL
  rw [l1, l2, l3, List.range_add, List.map_append, List.map_map]
  congr 1
  · refine List.map_congr_left fun i hi => ?_
    have hi := List.mem_range.mp hi
    rw [List.drop_append_of_le_length (by omega), List.drop_append_of_le_length (by omega)]
    rw [List.take_append, List.take_append, List.take_take]
    have : min (m + 1 - (x.drop i).length) m = m + 1 - (x.drop i).length := by
      rw [List.length_drop]
      omega
    rw [this]
  · refine List.map_congr_left fun i hi => ?_
    show ((x ++ y).drop (x.length + i)).take (m + 1) = _
    rw [List.drop_append, List.drop_eq_nil_of_le (by omega), List.nil_append, Nat.add_sub_cancel_left]
/-- the same windows, the same head -/
structure Kin (m : Nat) (x y : List α) : Prop where
  hd : x.take m = y.take m
  win : (winL (m + 1) x).Perm (winL (m + 1) y)
  len : x.length = y.length
theorem Kin.refl (m : Nat) (x : List α) : Kin m x x := ⟨rfl, List.Perm.refl _, rfl⟩
theorem Kin.symm {m : Nat} {x y : List α} (h : Kin m x y) : Kin m y x := ⟨h.hd.symm, h.win.symm, h.len.symm⟩
/-- a crossing -/
structure Crs (m : Nat) (x : List α) (a b c d : Nat) : Prop where
  ab : a < b
  bc : b ≤ c
  cd : c < d
  le : d + m ≤ x.length
  ac : nodeL m a x = nodeL m c x
  bd : nodeL m b x = nodeL m d x
  ne : x[a + m]? ≠ x[c + m]?
def twinL (x : List α) (a b c d : Nat) : List α := x.take a ++ ((x.drop c).take (d - c) ++ ((x.drop b).take (c - b) ++ ((x.drop a).take (b - a) ++ x.drop d)))
theorem cut5 (x : List α) {a b c d : Nat} (h1 : a ≤ b) (h2 : b ≤ c) (h3 : c ≤ d) : x.drop a = (x.drop a).take (b - a) ++ x.drop b ∧ x.drop b = (x.drop b).take (c - b) ++ x.drop c ∧ x.drop c = (x.drop c).take (d - c) ++ x.drop d := by
  have e : ∀ {i j : Nat}, i ≤ j → x.drop i = (x.drop i).take (j - i) ++ x.drop j := fun {i j} h => by
    have h2 : x.drop j = (x.drop i).drop (j - i) := by rw [List.drop_drop, show i + (j - i) = j by omega]
    rw [h2, List.take_append_drop]
  exact ⟨e h1, e h2, e h3⟩
theorem crs_twin {m : Nat} {x : List α} {a b c d : Nat} (h : Crs m x a b c d) : Kin m x (twinL x a b c d) ∧ twinL x a b c d ≠ x := by
  obtain ⟨e1, e2, e3⟩ := cut5 x (Nat.le_of_lt h.ab) h.bc (Nat.le_of_lt h.cd)
  have hle := h.le
  have hab := h.ab
  have hbc := h.bc
  have hcd := h.cd
  have hac : (x.drop a).take m = (x.drop c).take m := h.ac
  have hbd : (x.drop b).take m = (x.drop d).take m := h.bd
  have lE : (x.drop d).length = x.length - d := List.length_drop
  generalize hA : x.take a = A
  generalize hB : (x.drop a).take (b - a) = B at e1
  generalize hC : (x.drop b).take (c - b) = C at e2
  generalize hD : (x.drop c).take (d - c) = D at e3
  generalize hE : x.drop d = E at e3 hbd lE
  have ex : x = A ++ (B ++ (C ++ (D ++ E))) := by
    rw [← e3, ← e2, ← e1, ← hA, List.take_append_drop]
  have hc : x.drop c = D ++ E := e3
  have hb : x.drop b = C ++ (D ++ E) := by rw [e2, e3]
  have ha : x.drop a = B ++ (C ++ (D ++ E)) := by rw [e1, e2, e3]
  rw [hc] at hac
  rw [ha] at hac
  rw [hb] at hbd
  have t1 : (B ++ E).take m = (D ++ E).take m := by
    rw [← hac]
    exact take_same hbd.symm B
  have t2 : (C ++ (B ++ E)).take m = E.take m := by
    rw [← hbd]
    exact take_same t1 C
  have t3 : (D ++ (C ++ (B ++ E))).take m = (D ++ E).take m := take_same t2 D
  have et : twinL x a b c d = A ++ (D ++ (C ++ (B ++ E))) := by
    unfold twinL
    rw [hA, hB, hC, hD, hE]
  have lm : m ≤ E.length := by rw [lE]; omega
  have lw : ∀ X Y : List α, m ≤ Y.length → m ≤ (X ++ Y).length := fun X Y h => by rw [List.length_append]; omega
  have wx : winL (m + 1) x = winL (m + 1) (A ++ (D ++ E).take m) ++ (winL (m + 1) (B ++ E.take m) ++ (winL (m + 1) (C ++ (D ++ E).take m) ++ (winL (m + 1) (D ++ E.take m) ++ winL (m + 1) E))) := by
    conv => lhs; rw [ex]
    rw [win_app A (lw _ _ (lw _ _ (lw _ _ lm))), win_app B (lw _ _ (lw _ _ lm)), win_app C (lw _ _ lm), win_app D lm, hac, hbd]
  have wy : winL (m + 1) (twinL x a b c d) = winL (m + 1) (A ++ (D ++ E).take m) ++ (winL (m + 1) (D ++ E.take m) ++ (winL (m + 1) (C ++ (D ++ E).take m) ++ (winL (m + 1) (B ++ E.take m) ++ winL (m + 1) E))) := by
    rw [et, win_app A (lw _ _ (lw _ _ (lw _ _ lm))), win_app D (lw _ _ (lw _ _ lm)), win_app C (lw _ _ lm), win_app B lm, t1, t2, t3]
  refine ⟨⟨?_, ?_, ?_⟩, ?_⟩
  · rw [et]
    conv => lhs; rw [ex]
    exact take_same (hac.trans t3.symm) A
  · rw [wx, wy]
    refine List.Perm.append_left _ ?_
    generalize winL (m + 1) (B ++ E.take m) = p
    generalize winL (m + 1) (C ++ (D ++ E).take m) = q
    generalize winL (m + 1) (D ++ E.take m) = r
    generalize winL (m + 1) E = t
    have h1 : (p ++ (q ++ (r ++ t))).Perm ((q ++ (r ++ t)) ++ p) := List.perm_append_comm
    have h2 : ((q ++ (r ++ t)) ++ p).Perm (r ++ (q ++ (p ++ t))) := by
      have i1 : ((q ++ (r ++ t)) ++ p).Perm (((r ++ t) ++ q) ++ p) := List.perm_append_comm.append_right p
      have e1 : ((r ++ t) ++ q) ++ p = r ++ (t ++ (q ++ p)) := by simp
      have i2 : (t ++ (q ++ p)).Perm ((q ++ p) ++ t) := List.perm_append_comm
      have e2 : (q ++ p) ++ t = q ++ (p ++ t) := by simp
      rw [e1] at i1
      rw [e2] at i2
      exact i1.trans (i2.append_left r)
    exact h1.trans h2
  · rw [et]
    conv => lhs; rw [ex]
    simp only [List.length_append]
    omega
  · intro q
    apply h.ne
    rw [et] at q
    -- place a + m of the twin is place c + m of the row
    have hDl : D.length = d - c := by
      rw [← hD, List.length_take, List.length_drop]
      omega
    have hAl : A.length = a := by
      rw [← hA, List.length_take]
      omega
    -- compare the windows at a: the twin has D ++ .. there
    have k1 : (D ++ (C ++ (B ++ E)))[m]? = (D ++ E)[m]? := by
      -- D is not empty, so place m lies within the first m of what follows
      have hd : 0 < D.length := by omega
      have s : ∀ Z : List α, (D ++ Z)[m]? = if m < D.length then D[m]? else (Z.take m)[m - D.length]? := fun Z => by
        rw [List.getElem?_append]
        split
        · rfl
        · rw [List.getElem?_take, if_pos (by omega)]
      rw [s, s, t2]
    have k2 : x[a + m]? = (D ++ (C ++ (B ++ E)))[m]? := by
      rw [← q, List.getElem?_append, if_neg (by omega)]
      congr 1
      omega
    have k3 : x[c + m]? = (D ++ E)[m]? := by
      rw [← hc, List.getElem?_drop]
    rw [k2, k1, k3]
/-- what parts two rows with the same windows -/
theorem kin_cut {m : Nat} (x y : List α) (z : List α) (hx : m ≤ x.length) (hy : m ≤ y.length) (h : Kin m (z ++ x) (z ++ y)) (e : x.take m = y.take m) : Kin m x y := by
  refine ⟨e, ?_, ?_⟩
  · have w := h.win
    rw [win_app z hx, win_app z hy, e] at w
    exact (List.perm_append_left_iff _).mp w
  · have := h.len
    rw [List.length_append, List.length_append] at this
    omega
theorem node_win {m i : Nat} {x : List α} (h : i + m < x.length) : nodeL (m + 1) i x = nodeL m i x ++ [x[i + m]] ∧ (nodeL (m + 1) i x).drop 1 = nodeL m (i + 1) x ∧ (nodeL (m + 1) i x).take m = nodeL m i x := by
  unfold nodeL
  refine ⟨?_, ?_, ?_⟩
  · rw [List.take_add_one]
    congr 1
    rw [List.getElem?_drop, List.getElem?_eq_getElem h]
    rfl
  · rw [List.drop_take, List.drop_drop]
    rfl
  · rw [List.take_take, Nat.min_eq_left (Nat.le_succ m)]
theorem kin_first {m : Nat} {x y : List α} [DecidableEq α] (hm : m < x.length) (k : Kin m x y) (hne : x[m]? ≠ y[m]?) : ∃ b c d, Crs m x 0 b c d := by
  have hy : m < y.length := by rw [← k.len]; exact hm
  have w0 : nodeL (m + 1) 0 y ∈ winL (m + 1) x := k.win.mem_iff.mpr (win_mem.mpr ⟨0, by omega, rfl⟩)
  obtain ⟨j, hj, ej⟩ := win_mem.mp w0
  have hj' : j + m < x.length := by omega
  have ny : nodeL m 0 y = nodeL m 0 x := k.hd.symm
  have nj : nodeL m j x = nodeL m 0 x := by
    rw [← (node_win hj').2.2, ej, (node_win (i := 0) (by omega)).2.2, ny]
  have xj : x[j + m]? = y[m]? := by
    have h1 := (node_win hj').1
    have h2 := (node_win (i := 0) (x := y) (m := m) (by omega)).1
    rw [ej, h2, ny, nj] at h1
    have h3 := List.append_cancel_left h1
    have h4 := (List.cons.inj h3).1
    rw [List.getElem?_eq_getElem hj', List.getElem?_eq_getElem hy, ← h4]
    congr 2
    omega
  have j0 : 0 < j := by
    rcases Nat.eq_zero_or_pos j with rfl | h
    · exact absurd (by rw [← xj]; congr 1; omega) hne
    · exact h
  -- either what recurs, or all of the nodes up to j are left for ever
  by_cases H : ∃ b d, 1 ≤ b ∧ b ≤ j ∧ j < d ∧ d + m ≤ x.length ∧ nodeL m b x = nodeL m d x
  · obtain ⟨b, d, b1, b2, d1, d2, e⟩ := H
    refine ⟨b, j, d, ⟨by omega, b2, d1, d2, nj.symm, e, ?_⟩⟩
    rw [xj]
    rw [Nat.zero_add]
    exact hne
  · exfalso
    have S : ∀ i, i + m ≤ x.length → j < i → ∀ b, b ≤ j → nodeL m b x ≠ nodeL m i x := fun i hi hji b hb e => by
      rcases Nat.eq_zero_or_pos b with rfl | hb0
      · exact H ⟨j, i, j0, Nat.le_refl _, hji, hi, nj.trans e⟩
      · exact H ⟨b, i, hb0, hb, hji, hi, e⟩
    -- away: no node up to j
    have away : ∀ i, 1 ≤ i → i + m ≤ y.length → ∀ b, b ≤ j → nodeL m b x ≠ nodeL m i y := by
      intro i
      induction i with
      | zero => intro h; omega
      | succ i ih =>
        intro _ hi b hb e
        have hiy : i + m < y.length := by omega
        have wi : nodeL (m + 1) i y ∈ winL (m + 1) x := k.win.mem_iff.mpr (win_mem.mpr ⟨i, by omega, rfl⟩)
        obtain ⟨q, hq, eq⟩ := win_mem.mp wi
        have hq' : q + m < x.length := by omega
        have f1 : nodeL m q x = nodeL m i y := by rw [← (node_win hq').2.2, eq, (node_win hiy).2.2]
        have f2 : nodeL m (q + 1) x = nodeL m (i + 1) y := by rw [← (node_win hq').2.1, eq, (node_win hiy).2.1]
        rcases Nat.eq_zero_or_pos i with rfl | hi0
        · -- the first window of y
          have f3 : nodeL m (0 + 1) y = nodeL m (j + 1) x := by rw [← (node_win hiy).2.1, ← ej, (node_win hj').2.1]
          rw [f3] at e
          exact S (j + 1) (by omega) (by omega) b hb e
        · by_cases c : q ≤ j
          · exact ih (by omega) (by omega) q c f1
          · rw [← f2] at e
            exact S (q + 1) (by omega) (by omega) b hb e
    have w1 : nodeL (m + 1) 0 x ∈ winL (m + 1) y := k.win.mem_iff.mp (win_mem.mpr ⟨0, by omega, rfl⟩)
    obtain ⟨i, hi, ei⟩ := win_mem.mp w1
    have hi' : i + m < y.length := by omega
    have g1 : nodeL m i y = nodeL m 0 x := by rw [← (node_win hi').2.2, ei, (node_win (i := 0) (by omega)).2.2]
    rcases Nat.eq_zero_or_pos i with rfl | i0
    · apply hne
      have h1 := (node_win hi').1
      have h2 := (node_win (i := 0) (x := x) (m := m) (by omega)).1
      rw [ei, h2, g1] at h1
      have h4 := (List.cons.inj (List.append_cancel_left h1)).1
      rw [List.getElem?_eq_getElem hm, List.getElem?_eq_getElem hy]
      congr 1
      simpa using h4
    · exact away i i0 (by omega) 0 (by omega) g1.symm
theorem crs_drop {m i a b c d : Nat} {x : List α} (h : Crs m (x.drop i) a b c d) : Crs m x (i + a) (i + b) (i + c) (i + d) := by
  have hl := h.le
  rw [List.length_drop] at hl
  have n : ∀ j, nodeL m j (x.drop i) = nodeL m (i + j) x := fun j => by unfold nodeL; rw [List.drop_drop]
  have hab := h.ab
  have hbc := h.bc
  have hcd := h.cd
  refine ⟨by omega, by omega, by omega, by omega, by rw [← n, ← n]; exact h.ac, by rw [← n, ← n]; exact h.bd, fun e => h.ne ?_⟩
  rw [List.getElem?_drop, List.getElem?_drop, ← Nat.add_assoc, ← Nat.add_assoc]
  exact e
theorem split_firstW [DecidableEq α] : ∀ (x y : List α), x.length = y.length → x ≠ y → ∃ z u v s t, u ≠ v ∧ x = z ++ u :: s ∧ y = z ++ v :: t
  | [], [], _, h => absurd rfl h
  | [], _ :: _, h, _ => by cases h
  | _ :: _, [], h, _ => by cases h
  | a :: x, b :: y, hl, h => by
    by_cases c : a = b
    · subst c
      obtain ⟨z, u, v, s, t, h1, h2, h3⟩ := split_firstW x y (by simpa using hl) fun e => h (by rw [e])
      exact ⟨a :: z, u, v, s, t, h1, by rw [h2]; rfl, by rw [h3]; rfl⟩
    · exact ⟨[], a, b, x, y, c, rfl, rfl⟩
/-- another row with the same windows: there is a crossing -/
theorem kin_crs {m : Nat} {x y : List α} [DecidableEq α] (k : Kin m x y) (ne : x ≠ y) : ∃ a b c d, Crs m x a b c d := by
  obtain ⟨z, u, v, s, t, huv, ex, ey⟩ := split_firstW x y k.len ne
  have hz : m ≤ z.length := by
    by_cases c : m ≤ z.length
    · exact c
    · exfalso
      have h := k.hd
      have g1 : (x.take m)[z.length]? = some u := by
        rw [List.getElem?_take, if_pos (by omega), ex, List.getElem?_append, if_neg (by omega), Nat.sub_self]
        rfl
      have g2 : (y.take m)[z.length]? = some v := by
        rw [List.getElem?_take, if_pos (by omega), ey, List.getElem?_append, if_neg (by omega), Nat.sub_self]
        rfl
      rw [h, g2] at g1
      exact huv (Option.some.inj g1).symm
  -- the part behind z's last m places
  have ez : z = z.take (z.length - m) ++ z.drop (z.length - m) := (List.take_append_drop _ _).symm
  have lz : (z.drop (z.length - m)).length = m := by rw [List.length_drop]; omega
  generalize hp : z.take (z.length - m) = p at ez
  generalize hq : z.drop (z.length - m) = q at ez lz
  have lp : p.length = z.length - m := by rw [← hp, List.length_take]; omega
  have e1 : x = p ++ (q ++ u :: s) := by rw [ex, ez, List.append_assoc]
  have e2 : y = p ++ (q ++ v :: t) := by rw [ey, ez, List.append_assoc]
  have k' : Kin m (q ++ u :: s) (q ++ v :: t) := by
    refine kin_cut _ _ p (by rw [List.length_append]; omega) (by rw [List.length_append]; omega) (by rw [← e1, ← e2]; exact k) ?_
    rw [List.take_append_of_le_length (by omega), List.take_append_of_le_length (by omega)]
  have g : ∀ (w : α) (r : List α), (q ++ w :: r)[m]? = some w := fun w r => by
    rw [List.getElem?_append, if_neg (by omega), lz, Nat.sub_self]
    rfl
  obtain ⟨b, c, d, h⟩ := kin_first (by rw [List.length_append, List.length_cons]; omega) k' (by rw [g, g]; exact fun e => huv (Option.some.inj e))
  have ed : q ++ u :: s = x.drop p.length := by rw [e1, List.drop_left]
  rw [ed] at h
  exact ⟨_, _, _, _, crs_drop h⟩
/-- alone exactly if nothing crosses -/
theorem alone_iff {m : Nat} {x : List α} [DecidableEq α] : (∀ y, Kin m x y → y = x) ↔ ¬ ∃ a b c d, Crs m x a b c d := by
  constructor
  · rintro h ⟨a, b, c, d, k⟩
    obtain ⟨k1, k2⟩ := crs_twin k
    exact k2 (h _ k1)
  · intro h y k
    by_cases c : x = y
    · exact c.symm
    · exact absurd (kin_crs k c) h
/-- windows shorter by one are told by the longer ones -/
theorem win_narrow {m : Nat} {x : List α} (h : m ≤ x.length) (hm : 0 < m) : winL m x = x.take m :: (winL (m + 1) x).map fun w => w.drop 1 := by
  have l1 : x.length + 1 - m = (x.length + 1 - (m + 1)) + 1 := by omega
  unfold winL
  rw [l1, List.range_succ_eq_map, List.map_cons, List.map_map, List.map_map]
  congr 1
  refine List.map_congr_left fun i hi => ?_
  show (x.drop (i + 1)).take m = ((x.drop i).take (m + 1)).drop 1
  rw [List.drop_take, List.drop_drop]
  rfl
theorem Kin.narrow {m : Nat} {x y : List α} (h : Kin (m + 1) x y) (hx : m + 1 ≤ x.length) : Kin m x y := by
  refine ⟨?_, ?_, h.len⟩
  · have e : ∀ w : List α, w.take m = (w.take (m + 1)).take m := fun w => by rw [List.take_take, Nat.min_eq_left (Nat.le_succ m)]
    rw [e x, e y, h.hd]
  · rw [win_narrow hx (Nat.succ_pos m), win_narrow (by rw [← h.len]; exact hx) (Nat.succ_pos m), h.hd]
    exact (h.win.map _).cons _
theorem Kin.down {x y : List α} : ∀ {m k : Nat}, Kin m x y → k ≤ m → m ≤ x.length → Kin k x y := by
  intro m
  induction m with
  | zero =>
    intro k h hk _
    rw [Nat.le_zero.mp hk]
    exact h
  | succ m ih =>
    intro k h hk hx
    rcases Nat.lt_or_ge m k with c | c
    · rw [show k = m + 1 by omega]
      exact h
    · exact ih (h.narrow hx) c (by omega)
/-! ### common ends -/
def ceL [DecidableEq α] (x : List α) : Nat → Nat → Nat
  | k + 1, j + 1 => if x[k]? = x[j]? then ceL x k j + 1 else 0
  | _, _ => 0
theorem node_last {m i : Nat} {x : List α} (h : i < x.length) (hm : m ≤ i) : nodeL (m + 1) (i - m) x = nodeL m (i - m) x ++ (x[i]?).toList := by
  have h1 := (node_win (m := m) (i := i - m) (x := x) (by omega)).1
  have h2 : x[i]? = some (x[i - m + m]'(by omega)) := by
    rw [List.getElem?_eq_getElem h]
    congr 2
    omega
  rw [h1, h2]
  rfl
theorem ce_iff [DecidableEq α] (x : List α) : ∀ (m k j : Nat), k ≤ x.length → j ≤ x.length → (m ≤ ceL x k j ↔ m ≤ k ∧ m ≤ j ∧ nodeL m (k - m) x = nodeL m (j - m) x)
  | 0, k, j, _, _ => by
    have e : ∀ i, nodeL 0 i x = [] := fun i => by unfold nodeL; rw [List.take_zero]
    rw [e, e]
    simp
  | m + 1, 0, j, _, _ => by
    have : ceL x 0 j = 0 := by cases j <;> rfl
    rw [this]
    omega
  | m + 1, k + 1, 0, _, _ => by
    have : ceL x (k + 1) 0 = 0 := rfl
    rw [this]
    omega
  | m + 1, k + 1, j + 1, hk, hj => by
    have ih := ce_iff x m k j (by omega) (by omega)
    have e1 : ceL x (k + 1) (j + 1) = if x[k]? = x[j]? then ceL x k j + 1 else 0 := rfl
    have f : ∀ i, i + 1 - (m + 1) = i - m := fun i => by omega
    rw [e1, f, f]
    have tl : ∀ u v : α, ((some u).toList = (some v).toList) ↔ u = v := fun u v => by simp
    have lens : ∀ i, i ≤ x.length → m ≤ i → (nodeL m (i - m) x).length = m := fun i hi hm => by
      unfold nodeL
      rw [List.length_take, List.length_drop]
      omega
    constructor
    · intro h
      by_cases c : x[k]? = x[j]?
      · rw [if_pos c] at h
        obtain ⟨h1, h2, h3⟩ := ih.mp (by omega)
        refine ⟨by omega, by omega, ?_⟩
        rw [node_last (by omega) h1, node_last (by omega) h2, h3, c]
      · rw [if_neg c] at h
        omega
    · rintro ⟨h1, h2, h3⟩
      rw [node_last (by omega) (by omega), node_last (by omega) (by omega)] at h3
      obtain ⟨h4, h5⟩ := List.append_inj h3 (by rw [lens k (by omega) (by omega), lens j (by omega) (by omega)])
      have c : x[k]? = x[j]? := by
        rw [List.getElem?_eq_getElem (by omega), List.getElem?_eq_getElem (by omega)] at h5 ⊢
        rw [(tl _ _).mp h5]
      rw [if_pos c]
      have := ih.mpr ⟨by omega, by omega, h4⟩
      omega
/-- what the law looks for: unlike places behind common ends, and what recurs between -/
def MostAt [DecidableEq α] (x : List α) (m k j : Nat) : Prop := k < j ∧ j < x.length ∧ x[k]? ≠ x[j]? ∧ m ≤ ceL x k j ∧ ∃ l, j < l ∧ l ≤ x.length ∧ ∃ s, k < s ∧ s ≤ j ∧ m ≤ ceL x s l
theorem crs_iff [DecidableEq α] {x : List α} {m : Nat} : (∃ a b c d, Crs m x a b c d) ↔ ∃ k j, MostAt x m k j := by
  constructor
  · rintro ⟨a, b, c, d, h⟩
    have h1 := h.ab
    have h2 := h.bc
    have h3 := h.cd
    have h4 := h.le
    refine ⟨a + m, c + m, by omega, by omega, h.ne, ?_, d + m, by omega, h4, b + m, by omega, by omega, ?_⟩
    · refine (ce_iff x m _ _ (by omega) (by omega)).mpr ⟨by omega, by omega, ?_⟩
      rw [Nat.add_sub_cancel, Nat.add_sub_cancel]
      exact h.ac
    · refine (ce_iff x m _ _ (by omega) (by omega)).mpr ⟨by omega, by omega, ?_⟩
      rw [Nat.add_sub_cancel, Nat.add_sub_cancel]
      exact h.bd
  · rintro ⟨k, j, h1, h2, h3, h4, l, h5, h6, s, h7, h8, h9⟩
    obtain ⟨g1, g2, g3⟩ := (ce_iff x m _ _ (by omega) (by omega)).mp h4
    obtain ⟨g4, g5, g6⟩ := (ce_iff x m _ _ (by omega) (by omega)).mp h9
    refine ⟨k - m, s - m, j - m, l - m, by omega, by omega, by omega, by omega, g3, g6, ?_⟩
    rw [Nat.sub_add_cancel g1, Nat.sub_add_cancel g2]
    exact h3
theorem most_down [DecidableEq α] {x : List α} {m m' k j : Nat} (h : MostAt x m k j) (hm : m' ≤ m) : MostAt x m' k j := by
  obtain ⟨h1, h2, h3, h4, l, h5, h6, s, h7, h8, h9⟩ := h
  exact ⟨h1, h2, h3, by omega, l, h5, h6, s, h7, h8, by omega⟩
end
end RM
namespace RM
open PySem PySem.Spec PyProof.Rows L2 CS RZ
/-! ### dicts whose keys are tuples of one kind -/
def putG {κ : Type} [DecidableEq κ] (ns : List κ) (a : κ) : List κ := if a ∈ ns then ns else ns ++ [a]
def tabE {κ : Type} (enc : κ → D) (ns : List κ) (g : κ → D) : List (D × D) := ns.map fun z => (enc z, g z)
def dTab {κ : Type} (enc : κ → D) (ns : List κ) (g : κ → D) : D := .dict ((.none, .bool true) :: tabE enc ns g)
structure Enc {κ : Type} [DecidableEq κ] (enc : κ → D) (ok : κ → Prop) : Prop where
  eq : ∀ a b, PyData.eqv (enc a) (enc b) = decide (a = b)
  flat : ∀ a, ok a → ∃ xs, enc a = .tuple xs ∧ xs ≠ [] ∧ xs.all flatK = true
section
variable {κ : Type} [DecidableEq κ] {enc : κ → D} {ok : κ → Prop}
theorem keyE (E : Enc enc ok) (ns : List κ) (g : κ → D) (a : κ) : keyD (tabE enc ns g) (enc a) = if a ∈ ns then some (g a) else none := by
  unfold keyD tabE
  induction ns with
  | nil => rfl
  | cons p ns ih =>
    rw [List.map_cons, List.find?_cons, E.eq]
    by_cases c : p = a
    · subst c
      simp
    · rw [decide_eq_false c]
      simp only
      rw [ih]
      by_cases c2 : a ∈ ns
      · simp [c2]
      · simp [c2, Ne.symm c]
theorem lookE (E : Enc enc ok) {ns : List κ} {g : κ → D} {a : κ} (h : ok a) : lookD (dTab enc ns g) (enc a) = some (if a ∈ ns then some (g a) else none) := by
  obtain ⟨xs, e, _, f⟩ := E.flat a h
  have k := keyE E ns g a
  rw [e] at k ⊢
  show (if xs.all flatK = true then some (keyD (tabE enc ns g) (.tuple xs)) else none) = _
  rw [if_pos f, k]
theorem putE (E : Enc enc ok) {ns : List κ} {g : κ → D} {a : κ} {v : D} (h : ok a) (hl : ns.length < lim) : putD (dTab enc ns g) (enc a) v = some (dTab enc (putG ns a) fun p => if p = a then v else g p) := by
  obtain ⟨xs, e, _, f⟩ := E.flat a h
  have key : putKD (tabE enc ns g) (enc a) v = tabE enc (putG ns a) fun p => if p = a then v else g p := by
    have ha : ((tabE enc ns g).any fun kv => PyData.eqv kv.1 (enc a)) = decide (a ∈ ns) := by
      clear hl
      unfold tabE
      rw [List.any_map]
      induction ns with
      | nil => rfl
      | cons p ns ih =>
        rw [List.any_cons, ih]
        show (PyData.eqv (enc p) (enc a) || _) = _
        rw [E.eq]
        by_cases h : p = a
        · subst h
          simp
        · simp [h, Ne.symm h]
    unfold putKD putG
    rw [ha]
    by_cases c : a ∈ ns
    · rw [decide_eq_true c, if_pos rfl, if_pos c]
      unfold tabE
      rw [List.map_map]
      refine List.map_congr_left fun p hp => ?_
      show (if PyData.eqv (enc p) (enc a) = true then (enc p, _) else (enc p, _)) = _
      rw [E.eq]
      by_cases h : p = a
      · simp [h]
      · simp [h]
    · rw [decide_eq_false c, if_neg (by simp), if_neg c]
      unfold tabE
      rw [List.map_append]
      congr 1
      · refine List.map_congr_left fun p hp => ?_
        have hne : ¬ p = a := fun z => c (z ▸ hp)
        dsimp only
        rw [if_neg hne]
      · simp
  have h2 : (tabE enc ns g).length < lim := by
    unfold tabE
    rw [List.length_map]
    exact hl
  rw [e] at key ⊢
  show (if xs.all flatK = true ∧ (tabE enc ns g).length < lim then some (PyData.dict ((.none, .bool true) :: putKD (tabE enc ns g) (.tuple xs) v)) else none) = _
  rw [if_pos ⟨f, h2⟩, key]
  rfl
theorem putG_mem {ns : List κ} {a b : κ} : b ∈ putG ns a ↔ b ∈ ns ∨ b = a := by
  unfold putG
  split
  · rename_i c
    exact ⟨.inl, fun h => h.elim id fun e => e ▸ c⟩
  · rw [List.mem_append, List.mem_singleton]
theorem putG_len {ns : List κ} {a : κ} : (putG ns a).length ≤ ns.length + 1 := by
  unfold putG
  split
  · omega
  · rw [List.length_append, List.length_singleton]
    omega
end
theorem encR : Enc rowT (fun z => z ≠ []) where
  eq := rowT_eqv
  flat := fun a h => ⟨strD a, rfl, fun e => h (List.map_eq_nil_iff.mp e), List.all_eq_true.mpr fun d hd => by
    obtain ⟨y, _, rfl⟩ := List.mem_map.mp hd
    rfl⟩
/-! ### the greatest size of a crossing -/
theorem crs_len {m a b c d : Nat} {x : List Str} (h : Crs m x a b c d) : m + 2 ≤ x.length := by
  have := h.ab
  have := h.bc
  have := h.cd
  have := h.le
  omega
theorem crs_down {m m' : Nat} {x : List Str} (h : ∃ a b c d, Crs m x a b c d) (hm : m' ≤ m) : ∃ a b c d, Crs m' x a b c d := by
  obtain ⟨k, j, z⟩ := crs_iff.mp h
  exact crs_iff.mpr ⟨k, j, most_down z hm⟩
def MostIs (x : List Str) (M : Nat) : Prop := ∀ m, 0 < m → (m ≤ M ↔ ∃ a b c d, Crs m x a b c d)
theorem ex_most (x : List Str) : ∃ M, MostIs x M := by
  have key : ∀ N, ∃ M, M ≤ N ∧ ∀ m, 0 < m → m ≤ N → (m ≤ M ↔ ∃ a b c d, Crs m x a b c d) := by
    intro N
    induction N with
    | zero => exact ⟨0, Nat.le_refl _, fun m h1 h2 => absurd h1 (by omega)⟩
    | succ N ih =>
      obtain ⟨M, h1, h2⟩ := ih
      by_cases c : ∃ a b c d, Crs (N + 1) x a b c d
      · exact ⟨N + 1, Nat.le_refl _, fun m h3 h4 => ⟨fun _ => crs_down c h4, fun _ => h4⟩⟩
      · refine ⟨M, by omega, fun m h3 h4 => ?_⟩
        rcases Nat.lt_or_ge N m with h5 | h5
        · have : m = N + 1 := by omega
          subst this
          exact ⟨fun h => absurd h (by omega), fun h => absurd h c⟩
        · exact h2 m h3 h5
  obtain ⟨M, h1, h2⟩ := key x.length
  refine ⟨M, fun m h3 => ?_⟩
  rcases Nat.lt_or_ge x.length m with h4 | h4
  · refine ⟨fun h => absurd h (by omega), fun ⟨a, b, c, d, h⟩ => ?_⟩
    have := crs_len h
    omega
  · exact h2 m h3 h4
noncomputable def mostN (x : List Str) : Nat := Classical.choose (ex_most x)
theorem most_is (x : List Str) : MostIs x (mostN x) := Classical.choose_spec (ex_most x)
theorem most_eq {x : List Str} {M : Nat} (h : MostIs x M) : mostN x = M := by
  have h0 := most_is x
  have h1 : ∀ A B, MostIs x A → MostIs x B → A ≤ B := fun A B hA hB => by
    rcases Nat.eq_zero_or_pos A with rfl | c
    · exact Nat.zero_le _
    · exact (hB A c).mpr ((hA A c).mp (Nat.le_refl _))
  exact Nat.le_antisymm (h1 _ _ h0 h) (h1 _ _ h h0)
def toldB (x : List Str) (f : Nat) : Prop := ¬ ∃ a b c d, Crs (f - 1) x a b c d
open Classical in
noncomputable def toldQ (x : List Str) (f : Nat) : Bool := decide (toldB x f)
open Classical in
theorem toldQ_t {x : List Str} {f : Nat} (h : toldB x f) : toldQ x f = true := by
  unfold toldQ
  exact decide_eq_true h
open Classical in
theorem toldQ_f {x : List Str} {f : Nat} (h : ¬ toldB x f) : toldQ x f = false := by
  unfold toldQ
  exact decide_eq_false h
theorem told_iff {x : List Str} {f : Nat} (hf : 2 ≤ f) : toldB x f ↔ mostN x + 2 ≤ f := by
  unfold toldB
  rw [← most_is x (f - 1) (by omega)]
  omega
/-! ### the crossing that the program finds -/
structure CrsF (m : Nat) (x : List Str) (a b c d : Nat) : Prop where
  k : Crs m x a b c d
  cmin : ∀ a' b' c' d', Crs m x a' b' c' d' → c ≤ c'
  amax : ∀ a' b' d', Crs m x a' b' c d' → a' ≤ a
  bmin : ∀ b' d', a < b' → b' ≤ c → c < d' → d' + m ≤ x.length → nodeL m b' x = nodeL m d' x → b ≤ b'
  dmax : ∀ d', d' + m ≤ x.length → nodeL m b x = nodeL m d' x → d' ≤ d
theorem crsF_one {m : Nat} {x : List Str} {a b c d a' b' c' d' : Nat} (h : CrsF m x a b c d) (h' : CrsF m x a' b' c' d') : (a, b, c, d) = (a', b', c', d') := by
  have hc : c = c' := Nat.le_antisymm (h.cmin _ _ _ _ h'.k) (h'.cmin _ _ _ _ h.k)
  subst hc
  have ha : a = a' := Nat.le_antisymm (h'.amax _ _ _ h.k) (h.amax _ _ _ h'.k)
  subst ha
  have hb : b = b' := Nat.le_antisymm (h.bmin b' d' h'.k.ab h'.k.bc h'.k.cd h'.k.le h'.k.bd) (h'.bmin b d h.k.ab h.k.bc h.k.cd h.k.le h.k.bd)
  subst hb
  have hd : d = d' := Nat.le_antisymm (h'.dmax d h.k.le h.k.bd) (h.dmax d' h'.k.le h'.k.bd)
  subst hd
  rfl
theorem ex_least {P : Nat → Prop} : ∀ n, P n → ∃ k, P k ∧ ∀ m, P m → k ≤ m := by
  intro n
  induction n using Nat.strongRecOn with
  | _ n ih =>
    intro h
    by_cases c : ∃ m, m < n ∧ P m
    · obtain ⟨m, h1, h2⟩ := c
      exact ih m h1 h2
    · exact ⟨n, h, fun m hm => Nat.le_of_not_lt fun z => c ⟨m, z, hm⟩⟩
theorem ex_most_of {P : Nat → Prop} {B n : Nat} (hB : ∀ m, P m → m ≤ B) (h : P n) : ∃ k, P k ∧ ∀ m, P m → m ≤ k := by
  obtain ⟨k, h1, h2⟩ := ex_least (P := fun k => k ≤ B ∧ P (B - k)) (B - n) ⟨Nat.sub_le _ _, by rw [Nat.sub_sub_self (hB n h)]; exact h⟩
  refine ⟨B - k, h1.2, fun m hm => ?_⟩
  have := h2 (B - m) ⟨Nat.sub_le _ _, by rw [Nat.sub_sub_self (hB m hm)]; exact hm⟩
  have := hB m hm
  omega
theorem crsF_ex {m : Nat} {x : List Str} (h : ∃ a b c d, Crs m x a b c d) : ∃ a b c d, CrsF m x a b c d := by
  obtain ⟨a0, b0, c0, d0, h0⟩ := h
  obtain ⟨c, ⟨a1, b1, d1, h1⟩, hc⟩ := ex_least (P := fun c => ∃ a b d, Crs m x a b c d) c0 ⟨a0, b0, d0, h0⟩
  obtain ⟨a, ⟨b2, d2, h2⟩, ha⟩ := ex_most_of (P := fun a => ∃ b d, Crs m x a b c d) (B := c) (fun a ⟨b, d, k⟩ => by have := k.ab; have := k.bc; omega) ⟨b1, d1, h1⟩
  obtain ⟨b, ⟨g1, g2, d3, g3, g4, g5⟩, hb⟩ := ex_least (P := fun b => a < b ∧ b ≤ c ∧ ∃ d, c < d ∧ d + m ≤ x.length ∧ nodeL m b x = nodeL m d x) b2 ⟨h2.ab, h2.bc, d2, h2.cd, h2.le, h2.bd⟩
  obtain ⟨d, ⟨k1, k2⟩, hd⟩ := ex_most_of (P := fun d => d + m ≤ x.length ∧ nodeL m b x = nodeL m d x) (B := x.length) (fun d k => by have := k.1; omega) ⟨g4, g5⟩
  have : d3 ≤ d := hd d3 ⟨g4, g5⟩
  exact ⟨a, b, c, d, ⟨⟨g1, g2, by omega, k1, h2.ac, k2, h2.ne⟩, fun a' b' c' d' k => hc c' ⟨a', b', d', k⟩, fun a' b' d' k => ha a' ⟨b', d', k⟩, fun b' d' z1 z2 z3 z4 z5 => hb b' ⟨z1, z2, d', z3, z4, z5⟩, fun d' z1 z2 => hd d' ⟨z1, z2⟩⟩⟩
open Classical in
noncomputable def crsOf (m : Nat) (x : List Str) : Option (Nat × Nat × Nat × Nat) := if h : ∃ q : Nat × Nat × Nat × Nat, CrsF m x q.1 q.2.1 q.2.2.1 q.2.2.2 then some (Classical.choose h) else none
theorem crsOf_some {m : Nat} {x : List Str} {a b c d : Nat} (h : CrsF m x a b c d) : crsOf m x = some (a, b, c, d) := by
  have hx : ∃ q : Nat × Nat × Nat × Nat, CrsF m x q.1 q.2.1 q.2.2.1 q.2.2.2 := ⟨(a, b, c, d), h⟩
  unfold crsOf
  rw [dif_pos hx]
  have := Classical.choose_spec hx
  exact congrArg some (crsF_one this h)
theorem crsOf_none {m : Nat} {x : List Str} (h : ¬ ∃ a b c d, Crs m x a b c d) : crsOf m x = none := by
  unfold crsOf
  rw [dif_neg]
  rintro ⟨q, k⟩
  exact h ⟨_, _, _, _, k.k⟩
def crsD : Option (Nat × Nat × Nat × Nat) → D
  | none => .none
  | some (a, b, c, d) => .tuple [.int (a : Nat), .int (b : Nat), .int (c : Nat), .int (d : Nat)]
/-! ### the program -/
def sdCheckSizeX : SpD := fun ds n k ke => ∃ (x : D) (row : List Str) (f : Nat), ds = [x, .int f] ∧ seqD x = some (strD row) ∧ row.length ≤ 60 ∧ if 2 ≤ f ∧ f ≤ row.length + 1 then k .none n else ke (cNoSize, errF ["number"] [.int f]) n
def sdCutW : SpD := fun ds n k _ => ∃ (x : D) (row : List Str) (f : Nat), ds = [x, .int f] ∧ seqD x = some (strD row) ∧ row.length ≤ 60 ∧ f ≤ row.length + 1 ∧ k (.list ((cutS row f).map rowT)) n
def CrsR (row : List Str) (m : Nat) (r : D) : Prop := (r = .none ∧ ¬ ∃ a b c d, Crs m row a b c d) ∨ ∃ a b c d : Nat, r = .tuple [.int (a : Nat), .int (b : Nat), .int (c : Nat), .int (d : Nat)] ∧ CrsF m row a b c d
theorem crsR_eq {row : List Str} {m : Nat} {r : D} (h : CrsR row m r) : r = crsD (crsOf m row) := by
  rcases h with ⟨rfl, no⟩ | ⟨a, b, c, d, rfl, k⟩
  · rw [crsOf_none no]
    rfl
  · rw [crsOf_some k]
    rfl
noncomputable def sdCrossBy : SpD := fun ds n k ke => ∃ (x : D) (row : List Str) (f : Nat), ds = [x, .int f] ∧ seqD x = some (strD row) ∧ (∀ y ∈ row, GoodS y) ∧ row.length ≤ 60 ∧ if 2 ≤ f ∧ f ≤ row.length + 1 then k (crsD (crsOf (f - 1) row)) n else ke (cNoSize, errF ["number"] [.int f]) n
noncomputable def sdToldBy : SpD := fun ds n k ke => ∃ (x : D) (row : List Str) (f : Nat), ds = [x, .int f] ∧ seqD x = some (strD row) ∧ (∀ y ∈ row, GoodS y) ∧ row.length ≤ 60 ∧ if 2 ≤ f ∧ f ≤ row.length + 1 then k (.bool (toldQ row f)) n else ke (cNoSize, errF ["number"] [.int f]) n
section
variable {e : EndsD}
theorem himp_check_sizeX (ds : List D) (n : Nat) (k : D → Nat → Prop) (ke : Xv → Nat → Prop) (h : sdCheckSizeX ds n k ke) (he : ∀ ρ n', k .none n' → e.nx ρ n') (hx : ∀ x ρ n, ke x n → e.xc x ρ n) : cs_check_size (startE n_check_size ds) n e := by
  obtain ⟨x, row, f, rfl, hs, hl, q⟩ := h
  have hll := len_strD row
  have e1 : ltD (.int ((f : Nat) : Int)) (.int 2) = some (.bool (decide (f < 2))) := by
    show some (PyData.bool (decide (((f : Nat) : Int) < 2))) = _
    congr 2
    exact decide_eq_decide.mpr (by omega)
  have e2 : gtD (.int ((f : Nat) : Int)) (.int ((((strD row).length : Nat) : Int) + 1)) = some (.bool (decide (row.length + 1 < f))) := by
    show some (PyData.bool (decide (((((strD row).length : Nat) : Int) + 1) < ((f : Nat) : Int)))) = _
    congr 2
    exact decide_eq_decide.mpr (by rw [hll]; omega)
  refine ⟨_, e1, _, rfl, ?_⟩
  by_cases c1 : f < 2
  · rw [decide_eq_true c1]
    rw [if_neg (by omega)] at q
    exact ⟨rfl, hx _ _ _ q⟩
  · rw [decide_eq_false c1]
    refine ⟨_, ⟨_, _, rfl, lenD_seq hs, rfl⟩, _, rfl, _, e2, _, rfl, ?_⟩
    by_cases c2 : row.length + 1 < f
    · rw [decide_eq_true c2]
      rw [if_neg (by omega)] at q
      exact ⟨rfl, hx _ _ _ q⟩
    · rw [decide_eq_false c2]
      rw [if_pos (by omega)] at q
      exact he _ _ q
theorem himp_cutW (ds : List D) (n : Nat) (k : D → Nat → Prop) (ke : Xv → Nat → Prop) (h : sdCutW ds n k ke) (he : e.rt = k) : cs_cut (startE n_cut ds) n e := by
  obtain ⟨x, row, f, rfl, hs, hl, hf, q⟩ := h
  subst he
  have hll := len_strD row
  have h5 : (1000 : Nat) ≤ lim := by decide
  refine ⟨_, ⟨_, _, rfl, lenD_seq hs, rfl⟩, _, rfl, _, rfl, _, rfl, ⟨by rw [hll]; omega, by rw [hll]; omega⟩, ?_⟩
  have en : (((((strD row).length : Nat) : Int) + 1) - ((f : Nat) : Int)).toNat = row.length + 1 - f := by rw [hll]; omega
  rw [en]
  show cLcL _ _ _ _ ((List.range (row.length + 1 - f)).map fun i : Nat => PyData.int (0 + ((i : Nat) : Int))) [some (.v x), some (.v (.int ((f : Nat) : Int))), none] n [] _
  refine map_run (fun i : Nat => PyData.int (0 + ((i : Nat) : Int))) (fun _ => true) (fun i => rowT (stS row f i)) (List.range (row.length + 1 - f)) [] (fun i hi => ⟨[some (.v x), some (.v (.int ((f : Nat) : Int))), some (.v (.int (0 + ((i : Nat) : Int))))], rfl, rfl, fun K1 hK => hK, fun K2 hK => ?_⟩) (by rw [List.length_nil, List.length_range]; omega) ?_
  · have hi := List.mem_range.mp hi
    obtain ⟨z, hz1, hz2⟩ := slice_seq hs (some ((i : Nat) : Int)) (some ((i + f : Nat) : Int))
    rw [mid_strD row i f (by omega)] at hz2
    refine ⟨_, rfl, _, rfl, _, rfl, z, ?_, _, ⟨z, _, rfl, hz2, rfl⟩, hK⟩
    rw [show (0 : Int) + ((i : Nat) : Int) = ((i : Nat) : Int) by omega, show ((i : Nat) : Int) + ((f : Nat) : Int) = ((i + f : Nat) : Int) by omega]
    exact hz1
  · rw [filter_true, List.nil_append]
    have e1 : ((List.range (row.length + 1 - f)).map fun i => rowT (stS row f i)) = (cutS row f).map rowT := by
      unfold cutS
      rw [List.map_map]
      rfl
    rw [e1]
    exact q
end
/-! where each row comes last -/
structure LastI (xs : List (List Str)) (t : Nat) (ns : List (List Str)) (h : List Str → Nat) : Prop where
  all : ∀ i z, i < t → xs[i]? = some z → z ∈ ns ∧ i ≤ h z
  at_ : ∀ z ∈ ns, h z < t ∧ xs[h z]? = some z
  len : ns.length ≤ t
theorem LastI.step {xs : List (List Str)} {t : Nat} {ns : List (List Str)} {h : List Str → Nat} {z : List Str} (I : LastI xs t ns h) (hz : xs[t]? = some z) : LastI xs (t + 1) (putG ns z) (fun p => if p = z then t else h p) where
  all := fun i y hi hy => by
    rcases Nat.lt_or_ge i t with c | c
    · obtain ⟨h1, h2⟩ := I.all i y c hy
      refine ⟨putG_mem.mpr (.inl h1), ?_⟩
      split
      · omega
      · exact h2
    · have e : i = t := by omega
      subst e
      rw [hz] at hy
      cases hy
      refine ⟨putG_mem.mpr (.inr rfl), ?_⟩
      rw [if_pos rfl]
      exact Nat.le_refl _
  at_ := fun y hy => by
    by_cases c : y = z
    · rw [if_pos c, c]
      exact ⟨Nat.lt_succ_self _, hz⟩
    · rw [if_neg c]
      rcases putG_mem.mp hy with h1 | h1
      · exact ⟨Nat.lt_succ_of_lt (I.at_ y h1).1, (I.at_ y h1).2⟩
      · exact absurd h1 c
  len := Nat.le_trans putG_len (Nat.succ_le_succ I.len)
abbrev n_crossing_by : List Str := ["journey", "size", "last", "late", "other", "rows", "wide", "inner", "one", "row", "at"]
def cb_1 : CS := cDrop (cCall sdCheckSizeX (cCons (cVar 0) (cCons (cVar 1) (cNil))))
def cb_2 : CS := cPar 5 6 (cCons (cCall sdCutW (cCons (cVar 0) (cCons (cOp subD (cVar 1) (cC (.int 1))) (cNil)))) (cCons (cCall sdCutW (cCons (cVar 0) (cCons (cVar 1) (cNil)))) (cNil)))
def cb_3 : CS := cSet 2 (cDc true (cEnumW (cCons (cVar 5) (cNil))) (stT (stCons (stN 10) (stCons (stN 9) (stNil)))) (cYes) (cKeyS (cVar 9)) (cVar 10) [10, 9])
def cb_4 : CS := cOwn 3 (cLc (cSeq (cVar 5)) (stN 9) (cYes) (cDGetS (.nm 2) (cVar 9)) [9])
abbrev cb_a : CS := cIfS (cB (cOp gtD (cOp atD (cVar 3) (cOp addD (cVar 8) (cC (.int 1)))) (cVar 4))) (cSet 7 (cOp addD (cVar 8) (cC (.int 1)))) (cNext)
abbrev cb_b : CS := cIfS (cAndT (cB (cOp isNN (cVar 7) (cC .none))) (cAndT (cB (cOp eqD (cOp atD (cVar 5) (cVar 8)) (cOp atD (cVar 5) (cVar 4)))) (cB (cOp neD (cOp atD (cVar 6) (cVar 8)) (cOp atD (cVar 6) (cVar 4)))))) (cRet (cTup (cCons (cVar 8) (cCons (cVar 7) (cCons (cVar 4) (cCons (cOp atD (cVar 3) (cVar 7)) (cNil))))))) (cNext)
abbrev cb_in : CS := cSq cb_a cb_b
abbrev cb_out : CS := cSq (cSet 7 (cC .none)) (cFor (cRevR1 (cVar 4)) (stN 8) cb_in)
def cb_5 : CS := cFor (cRange1 (cCons (cCB gLen (cCons (cVar 6) (cNil))) (cNil))) (stN 4) cb_out
def cs_crossing_by : CS := cSq cb_1 (cSq cb_2 (cSq cb_3 (cSq cb_4 (cSq cb_5 (cRet (cC .none))))))
abbrev vCb (x : D) (f : Nat) (row : List Str) (ns : List (List Str)) (h : List Str → Nat) (x3 t4 t7 t8 : Option Sl) : En :=
  [some (.v x), some (.v (.int ((f : Nat) : Int))), some (.v (dTab rowT ns fun z => .int ((h z : Nat) : Int))), x3, t4, some (.v (.list ((cutS row (f - 1)).map rowT))), some (.v (.list ((cutS row f).map rowT))), t7, t8, none, none]
def lateL (row : List Str) (m : Nat) (h : List Str → Nat) : List D := (cutS row m).map fun z => .int ((h z : Nat) : Int)
def innD (inn : Option Nat) : D := match inn with
  | none => .none
  | some b => .int ((b : Nat) : Int)
section
variable {e : EndsD} {n f : Nat} {x : D} {row : List Str} {ns : List (List Str)} {h : List Str → Nat}
theorem cb_dict {t3 t4 t6 t7 t8 : Option Sl} {x0 x1 x5 : D} {k : D → En → Nat → Prop} {xs : List (List Str)} (hx : xs.length ≤ 100) (hne : ∀ z ∈ xs, z ≠ []) : ∀ (rest : List (List Str)) (t : Nat) (ns : List (List Str)) (h : List Str → Nat), xs.drop t = rest → t ≤ xs.length → LastI xs t ns h →
    (∀ ns h, LastI xs xs.length ns h → k (dTab rowT ns fun z => .int ((h z : Nat) : Int)) [some (.v x0), some (.v x1), none, t3, t4, some (.v x5), t6, t7, t8, none, none] n) →
    cDcL (stT (stCons (stN 10) (stCons (stN 9) (stNil)))) cYes (cKeyS (cVar 9)) (cVar 10) [10, 9] (((List.range' t rest.length).zip rest).map fun p => PyData.tuple [.int ((p.1 : Nat) : Int), rowT p.2]) [some (.v x0), some (.v x1), none, t3, t4, some (.v x5), t6, t7, t8, none, none] n (dTab rowT ns fun z => .int ((h z : Nat) : Int)) k
  | [], t, ns, h, hd, ht, I, q => by
    have : xs.length ≤ t := by
      have := congrArg List.length hd
      rw [List.length_drop, List.length_nil] at this
      omega
    have : t = xs.length := by omega
    subst this
    exact q ns h I
  | z :: rest, t, ns, h, hd, ht, I, q => by
    have hl : t < xs.length := by
      have := congrArg List.length hd
      rw [List.length_drop, List.length_cons] at this
      omega
    have hz : xs[t]? = some z := by
      have := List.getElem?_drop (xs := xs) (i := t) (j := 0)
      rw [hd] at this
      exact this.symm
    have zin : z ∈ xs := List.mem_of_getElem? hz
    have hd2 : xs.drop (t + 1) = rest := by rw [← List.drop_drop, hd]; rfl
    have e1 : ((List.range' t (z :: rest).length).zip (z :: rest)).map (fun p => PyData.tuple [.int ((p.1 : Nat) : Int), rowT p.2]) = .tuple [.int ((t : Nat) : Int), rowT z] :: ((List.range' (t + 1) rest.length).zip rest).map fun p => PyData.tuple [.int ((p.1 : Nat) : Int), rowT p.2] := by
      rw [List.length_cons, List.range'_succ]
      rfl
    rw [e1]
    obtain ⟨ys, f1, f2, f3⟩ := encR.flat z (hne z zin)
    have nl := I.len
    refine ⟨[some (.v x0), some (.v x1), none, t3, t4, some (.v x5), t6, t7, t8, some (.v (rowT z)), some (.v (.int ((t : Nat) : Int)))], rfl, ⟨ys, f1, f2, f3⟩, _, putE encR (hne z zin) (by unfold lim; omega), ?_⟩
    have e2 : (fun p => if p = z then PyData.int ((t : Nat) : Int) else .int ((h p : Nat) : Int)) = fun p => .int (((if p = z then t else h p : Nat) : Nat) : Int) := by
      funext p
      split <;> rfl
    rw [e2]
    exact cb_dict hx hne rest (t + 1) _ _ hd2 (by omega) (I.step hz) q
theorem enum_rows (xs : List (List Str)) : enumD (xs.map rowT) = ((List.range' 0 xs.length).zip xs).map fun p => PyData.tuple [.int ((p.1 : Nat) : Int), rowT p.2] := by
  unfold enumD
  rw [List.length_map, List.range_eq_range', List.zipWith_map_right, List.zip, List.map_zipWith]
theorem cb_inner {c : Nat} (hc : c + f ≤ row.length) (hf : 2 ≤ f) (hg : ∀ y ∈ row, GoodS y) (hrl : row.length ≤ 60) (I : LastI (cutS row (f - 1)) (row.length + 2 - f) ns h) (fin : ∀ r, CrsR row (f - 1) r → e.rt r n) (ncc : ∀ a b c' d, c' < c → ¬ Crs (f - 1) row a b c' d) : ∀ (j : Nat) (inn : Option Nat) (x3 t8 : Option Sl), j ≤ c →
    (match inn with | none => ∀ b, j < b → b ≤ c → h (stS row (f - 1) b) ≤ c | some b => j < b ∧ b ≤ c ∧ c < h (stS row (f - 1) b) ∧ ∀ b', j < b' → b' < b → h (stS row (f - 1) b') ≤ c) → (∀ a b d, j ≤ a → ¬ Crs (f - 1) row a b c d) →
    (x3 = some (.own (.list (lateL row (f - 1) h))) ∨ x3 = some (.v (.list (lateL row (f - 1) h)))) →
    (∀ x3 t7 t8 : Option Sl, (x3 = some (.own (.list (lateL row (f - 1) h))) ∨ x3 = some (.v (.list (lateL row (f - 1) h)))) → (∀ a b d, ¬ Crs (f - 1) row a b c d) → e.nx (vCb x f row ns h x3 (some (.v (.int ((c : Nat) : Int)))) t7 t8) n) →
    cForL (stN 8) cb_in (dnD j) (vCb x f row ns h x3 (some (.v (.int ((c : Nat) : Int)))) (some (.v (innD inn))) t8) n e
  | 0, inn, x3, t8, _, _, no, h3, q => q x3 _ _ h3 fun a b d => no a b d (Nat.zero_le _)
  | j + 1, inn, x3, t8, hj, hi, no, h3, q => by
    have nf : f = f - 1 + 1 := by omega
    have rows : ∀ i : Nat, i ≤ c + 1 → atD (.list ((cutS row (f - 1)).map rowT)) (.int ((i : Nat) : Int)) = some (rowT (stS row (f - 1) i)) := fun i hi => by
      have := cut_at (row := row) (f := f - 1) (i := ((i : Nat) : Int)) (by omega) (by omega)
      rwa [Int.toNat_natCast] at this
    have wide : ∀ i : Nat, i ≤ c → atD (.list ((cutS row f).map rowT)) (.int ((i : Nat) : Int)) = some (rowT (stS row f i)) := fun i hi => by
      have := cut_at (row := row) (f := f) (i := ((i : Nat) : Int)) (by omega) (by omega)
      rwa [Int.toNat_natCast] at this
    have late : ∀ i : Nat, i ≤ c → atD (.list (lateL row (f - 1) h)) (.int ((i : Nat) : Int)) = some (.int ((h (stS row (f - 1) i) : Nat) : Int)) := fun i hi => by
      show atI _ ((i : Nat) : Int) = _
      refine atI_nat ?_
      unfold lateL cutS
      have hh : i < row.length + 1 - (f - 1) := by omega
      simp only [List.map_map, List.getElem?_map, List.getElem?_range hh, Option.map_some, Function.comp]
    have cutAt : ∀ i : Nat, i + (f - 1) ≤ row.length → (cutS row (f - 1))[i]? = some (stS row (f - 1) i) := fun i hi => by
      unfold cutS
      rw [List.getElem?_map, List.getElem?_range (by omega)]
      rfl
    have cutOf : ∀ i z, (cutS row (f - 1))[i]? = some z → i + (f - 1) ≤ row.length ∧ z = stS row (f - 1) i := fun i z hz => by
      unfold cutS at hz
      rw [List.getElem?_map] at hz
      have hi : i < row.length + 1 - (f - 1) := by
        by_cases c : i < row.length + 1 - (f - 1)
        · exact c
        · rw [List.getElem?_eq_none (by rw [List.length_range]; omega)] at hz
          cases hz
      rw [List.getElem?_range hi] at hz
      cases hz
      exact ⟨by omega, rfl⟩
    -- what is known of the last place
    have last : ∀ b d, b ≤ c → d + (f - 1) ≤ row.length → stS row (f - 1) b = stS row (f - 1) d → d ≤ h (stS row (f - 1) b) := fun b d hb hd ebd => by
      have := I.all d _ (by omega) (cutAt d hd)
      rw [ebd]
      exact this.2
    have lastIs : ∀ b, b ≤ c → h (stS row (f - 1) b) + (f - 1) ≤ row.length ∧ stS row (f - 1) b = stS row (f - 1) (h (stS row (f - 1) b)) := fun b hb => by
      have h1 := (I.all b _ (by omega) (cutAt b (by omega))).1
      have h2 := I.at_ _ h1
      exact cutOf _ _ h2.2
    have nexts : ∀ i, i ≤ c → stS row f i = stS row (f - 1) i ++ (row[i + (f - 1)]?).toList := fun i hi => by
      have hlt : i + (f - 1) < row.length := by omega
      have := (node_win (m := f - 1) (i := i) (x := row) hlt).1
      rw [List.getElem?_eq_getElem hlt]
      rw [← nf] at this
      exact this
    have sw : ∀ a, a ≤ c → stS row (f - 1) a = stS row (f - 1) c → (stS row f a ≠ stS row f c ↔ row[a + (f - 1)]? ≠ row[c + (f - 1)]?) := fun a ha hac => by
      rw [nexts a ha, nexts c (Nat.le_refl _), hac]
      constructor
      · intro h1 h2
        exact h1 (by rw [h2])
      · intro h1 h2
        apply h1
        have h3 := List.append_cancel_left h2
        rw [List.getElem?_eq_getElem (by omega), List.getElem?_eq_getElem (by omega)] at h3 ⊢
        rw [(List.cons.inj h3).1]
    have go : ∀ (inn : Option Nat) (h3' : True), (match inn with | none => ∀ b, j < b → b ≤ c → h (stS row (f - 1) b) ≤ c | some b => j < b ∧ b ≤ c ∧ c < h (stS row (f - 1) b) ∧ ∀ b', j < b' → b' < b → h (stS row (f - 1) b') ≤ c) →
        cb_b (vCb x f row ns h (some (.v (.list (lateL row (f - 1) h)))) (some (.v (.int ((c : Nat) : Int)))) (some (.v (innD inn))) (some (.v (.int ((j : Nat) : Int))))) n { e with nx := fun ρ' n' => cForL (stN 8) cb_in (dnD j) ρ' n' e, ct := fun ρ' n' => cForL (stN 8) cb_in (dnD j) ρ' n' e, bk := e.nx } := fun inn _ hi => by
      have next : (∀ b d, ¬ Crs (f - 1) row j b c d) → cForL (stN 8) cb_in (dnD j) (vCb x f row ns h (some (.v (.list (lateL row (f - 1) h)))) (some (.v (.int ((c : Nat) : Int)))) (some (.v (innD inn))) (some (.v (.int ((j : Nat) : Int))))) n e := fun nj =>
        cb_inner hc hf hg hrl I fin ncc j inn _ _ (by omega) hi (fun a b d ha => by
          rcases Nat.eq_or_lt_of_le ha with rfl | ha
          · exact nj b d
          · exact no a b d ha) (.inr rfl) q
      cases inn with
      | none =>
        refine ⟨.bool false, rfl, _, rfl, next fun b d k => ?_⟩
        have h1 := k.ab
        have h2 := k.bc
        have h4 := hi b h1 h2
        have h5 := last b d h2 k.le k.bd
        have h6 := k.cd
        omega
      | some b0 =>
        obtain ⟨i1, i2, i3, i4⟩ := hi
        have gg := fun i => good_st hg (f - 1) i
        have gw := fun i => good_st hg f i
        refine ⟨.bool true, rfl, _, rfl, ?_⟩
        refine ⟨_, rows j (by omega), _, rows c (by omega), _, eqD_rowT (gg j) (gg c), _, rfl, ?_⟩
        by_cases c1 : stS row (f - 1) j = stS row (f - 1) c
        · rw [decide_eq_true c1]
          refine ⟨_, wide j (by omega), _, wide c (Nat.le_refl _), _, neD_rows (gw j) (gw c), _, rfl, ?_⟩
          by_cases c2 : stS row f j = stS row f c
          · rw [decide_eq_true c2]
            refine next fun b d k => ?_
            exact (sw j (by omega) c1).mpr k.ne c2
          · rw [decide_eq_false c2]
            obtain ⟨l1, l2⟩ := lastIs b0 i2
            refine ⟨_, late b0 i2, by show 4 ≤ lim; decide, fin _ (.inr ⟨j, b0, c, h (stS row (f - 1) b0), rfl, ⟨i1, i2, i3, l1, c1, l2, (sw j (by omega) c1).mp c2⟩, fun a' b' c' d' k => Nat.le_of_not_lt fun z => ncc a' b' c' d' z k, fun a' b' d' k => Nat.le_of_not_lt fun z => no a' b' d' z k, fun b' d' z1 z2 z3 z4 z5 => Nat.le_of_not_lt fun z => by
              have y1 := i4 b' z1 z
              have y2 := last b' d' z2 z4 z5
              omega, fun d' z1 z2 => last b0 d' i2 z1 z2⟩)⟩
        · rw [decide_eq_false c1]
          exact next fun b d k => c1 k.ac
    rw [dnD_succ]
    refine ⟨_, rfl, ?_⟩
    have step : cb_in (vCb x f row ns h (some (.v (.list (lateL row (f - 1) h)))) (some (.v (.int ((c : Nat) : Int)))) (some (.v (innD inn))) (some (.v (.int ((j : Nat) : Int))))) n { e with nx := fun ρ' n' => cForL (stN 8) cb_in (dnD j) ρ' n' e, ct := fun ρ' n' => cForL (stN 8) cb_in (dnD j) ρ' n' e, bk := e.nx } := by
      have e1 : ((j : Nat) : Int) + 1 = ((j + 1 : Nat) : Int) := by omega
      refine ⟨.int (((j : Nat) : Int) + 1), rfl, .int ((h (stS row (f - 1) (j + 1)) : Nat) : Int), by rw [e1]; exact late (j + 1) hj, .bool (decide (c < h (stS row (f - 1) (j + 1)))), ?_, _, rfl, ?_⟩
      · show some (PyData.bool (decide (((c : Nat) : Int) < ((h (stS row (f - 1) (j + 1)) : Nat) : Int)))) = _
        congr 2
        exact decide_eq_decide.mpr (by omega)
      by_cases c0 : c < h (stS row (f - 1) (j + 1))
      · rw [decide_eq_true c0]
        refine ⟨_, rfl, ?_⟩
        have g := go (some (j + 1)) trivial ⟨Nat.lt_succ_self _, hj, c0, fun b' z1 z2 => absurd z2 (by omega)⟩
        have e2 : innD (some (j + 1)) = .int (((j : Nat) : Int) + 1) := by
          unfold innD
          rw [e1]
        rw [e2] at g
        exact g
      · rw [decide_eq_false c0]
        refine go inn trivial ?_
        cases inn with
        | none =>
          intro b b1 b2
          rcases Nat.eq_or_lt_of_le b1 with b3 | b3
          · rw [← b3]
            exact Nat.le_of_not_lt c0
          · exact hi b b3 b2
        | some b0 =>
          refine ⟨by have := hi.1; omega, hi.2.1, hi.2.2.1, fun b' z1 z2 => ?_⟩
          rcases Nat.eq_or_lt_of_le z1 with z3 | z3
          · rw [← z3]
            exact Nat.le_of_not_lt c0
          · exact hi.2.2.2 b' z3 z2
    rcases h3 with rfl | rfl
    · exact step
    · exact step
theorem cb_outer (hf : 2 ≤ f) (hg : ∀ y ∈ row, GoodS y) (hrl : row.length ≤ 60) (I : LastI (cutS row (f - 1)) (row.length + 2 - f) ns h) (fin : ∀ r, CrsR row (f - 1) r → e.rt r n) : ∀ (r c : Nat) (x3 t4 t7 t8 : Option Sl), c + r = row.length + 1 - f → (∀ a b c' d, c' < c → ¬ Crs (f - 1) row a b c' d) →
    (x3 = some (.own (.list (lateL row (f - 1) h))) ∨ x3 = some (.v (.list (lateL row (f - 1) h)))) →
    (∀ x3 t4 t7 t8 : Option Sl, (¬ ∃ a b c d, Crs (f - 1) row a b c d) → e.nx (vCb x f row ns h x3 t4 t7 t8) n) →
    cForL (stN 4) cb_out ((List.range' c r).map fun i : Nat => PyData.int (0 + ((i : Nat) : Int))) (vCb x f row ns h x3 t4 t7 t8) n e
  | 0, c, x3, t4, t7, t8, hr, no, h3, q => by
    refine q _ _ _ _ ?_
    rintro ⟨a, b, c', d, k⟩
    have h1 := k.le
    have h2 := k.cd
    exact no a b c' d (by omega) k
  | r + 1, c, x3, t4, t7, t8, hr, no, h3, q => by
    rw [List.range'_succ, List.map_cons]
    refine ⟨vCb x f row ns h x3 (some (.v (.int ((c : Nat) : Int)))) t7 t8, by rw [Int.zero_add]; rfl, ?_⟩
    refine ⟨c, rfl, by unfold lim; omega, ?_⟩
    refine cb_inner (e := { e with nx := fun ρ' n' => cForL (stN 4) cb_out ((List.range' (c + 1) r).map fun i : Nat => PyData.int (0 + ((i : Nat) : Int))) ρ' n' e, ct := fun ρ' n' => cForL (stN 4) cb_out ((List.range' (c + 1) r).map fun i : Nat => PyData.int (0 + ((i : Nat) : Int))) ρ' n' e, bk := e.nx }) (by omega) hf hg hrl I fin no c none x3 t8 (Nat.le_refl _) (fun b h1 h2 => by omega) (fun a b d ha k => by have := k.ab; have := k.bc; omega) h3 fun x3 t7 t8 h3 nc => ?_
    exact cb_outer hf hg hrl I fin r (c + 1) x3 _ _ _ (by omega) (fun a b c' d hc => by
      rcases Nat.lt_or_ge c' c with h1 | h1
      · exact no a b c' d h1
      · rw [show c' = c by omega]
        exact nc a b d) h3 q
theorem himp_crossing_by (ds : List D) (n : Nat) (k : D → Nat → Prop) (ke : Xv → Nat → Prop) (hh : sdCrossBy ds n k ke) (he : e.rt = k) (hx : ∀ x ρ n, ke x n → e.xc x ρ n) : cs_crossing_by (startE n_crossing_by ds) n e := by
  obtain ⟨x, row, f, rfl, hs, hg, hl, q⟩ := hh
  subst he
  refine ⟨x, row, f, rfl, hs, hl, ?_⟩
  by_cases c : 2 ≤ f ∧ f ≤ row.length + 1
  · rw [if_pos c] at q ⊢
    have hll : ((cutS row f).map rowT).length = row.length + 1 - f := cut_len row f
    have e1 : ((f : Nat) : Int) - 1 = ((f - 1 : Nat) : Int) := by omega
    refine ⟨.int ((f - 1 : Nat) : Int), by rw [← e1]; rfl, x, row, f - 1, rfl, hs, hl, by omega, ?_⟩
    refine ⟨x, row, f, rfl, hs, hl, c.2, _, _, rfl, ?_⟩
    refine ⟨(cutS row (f - 1)).map rowT, rfl, ?_⟩
    rw [enum_rows]
    have xl : (cutS row (f - 1)).length = row.length + 2 - f := by
      unfold cutS
      rw [List.length_map, List.length_range]
      omega
    have ne : ∀ z ∈ cutS row (f - 1), z ≠ [] := fun z hz => by
      unfold cutS at hz
      obtain ⟨i, hi, rfl⟩ := List.mem_map.mp hz
      have hi := List.mem_range.mp hi
      intro e2
      have := congrArg List.length e2
      unfold stS at this
      rw [List.length_take, List.length_drop, List.length_nil] at this
      omega
    refine cb_dict (xs := cutS row (f - 1)) (by omega) ne (cutS row (f - 1)) 0 [] (fun _ => 0) rfl (Nat.zero_le _) ⟨fun i z hi => absurd hi (Nat.not_lt_zero _), fun z hz => absurd hz List.not_mem_nil, Nat.le_refl _⟩ fun ns h I => ?_
    rw [xl] at I
    refine ⟨(cutS row (f - 1)).map rowT, rfl, ?_⟩
    show cLcL _ _ _ _ ((cutS row (f - 1)).map rowT) (vCb x f row ns h none none none none) n [] _
    refine map_run rowT (fun _ => true) (fun z => .int ((h z : Nat) : Int)) (cutS row (f - 1)) [] (fun z hz => ?_) (by rw [List.length_nil, xl]; unfold lim; omega) ?_
    · obtain ⟨i, hi⟩ := List.getElem?_of_mem hz
      have hin := (I.all i z (by have := (List.getElem?_eq_some_iff.mp hi).1; omega) hi).1
      have lk := lookE encR (ns := ns) (g := fun z => .int ((h z : Nat) : Int)) (ne z hz)
      rw [if_pos hin] at lk
      exact ⟨[some (.v x), some (.v (.int ((f : Nat) : Int))), some (.v (dTab rowT ns fun z => .int ((h z : Nat) : Int))), none, none, some (.v (.list ((cutS row (f - 1)).map rowT))), some (.v (.list ((cutS row f).map rowT))), none, none, some (.v (rowT z)), none], rfl, rfl, fun K1 hK => hK, fun K2 hK => ⟨rfl, _, _, _, rfl, rfl, rfl, lk, hK⟩⟩
    · rw [filter_true, List.nil_append]
      refine ⟨by show 3 < 11; decide, ?_⟩
      refine ⟨_, ⟨_, _, rfl, rfl, rfl⟩, _, rfl, ⟨by rw [hll]; omega, by rw [hll]; omega⟩, ?_⟩
      have en : ((((cutS row f).map rowT).length : Nat) : Int).toNat = row.length + 1 - f := by rw [hll]; omega
      unfold rangeD
      rw [en, List.range_eq_range']
      refine cb_outer (e := { e with nx := fun ρ' n' => cRet (cC .none) ρ' n' e }) c.1 hg hl I (fun r hr => by rw [crsR_eq hr]; exact q) (row.length + 1 - f) 0 _ none none none (by omega) (fun a b c' d hc => absurd hc (Nat.not_lt_zero _)) (.inl rfl) fun x3 t4 t7 t8 no => ?_
      rw [crsOf_none no] at q
      exact q
  · rw [if_neg c] at q ⊢
    exact hx _ _ _ q
abbrev n_is_told_by : List Str := ["journey", "size"]
noncomputable def cs_is_told_by : CS := cRet (cOp isN (cCall sdCrossBy (cCons (cVar 0) (cCons (cVar 1) (cNil)))) (cC .none))
theorem himp_is_told_by (ds : List D) (n : Nat) (k : D → Nat → Prop) (ke : Xv → Nat → Prop) (hh : sdToldBy ds n k ke) (he : e.rt = k) (hx : ∀ x ρ n, ke x n → e.xc x ρ n) : cs_is_told_by (startE n_is_told_by ds) n e := by
  obtain ⟨x, row, f, rfl, hs, hg, hl, q⟩ := hh
  subst he
  refine ⟨x, row, f, rfl, hs, hg, hl, ?_⟩
  by_cases c : 2 ≤ f ∧ f ≤ row.length + 1
  · rw [if_pos c] at q ⊢
    by_cases no : ∃ a b c d, Crs (f - 1) row a b c d
    · rw [toldQ_f (show ¬ toldB row f from fun t => t no)] at q
      obtain ⟨a, b, c', d, k⟩ := crsF_ex no
      rw [crsOf_some k]
      exact ⟨.bool false, rfl, q⟩
    · rw [toldQ_t (show toldB row f from no)] at q
      rw [crsOf_none no]
      exact ⟨.bool true, rfl, q⟩
  · rw [if_neg c] at q ⊢
    exact hx _ _ _ q
end
end RM
namespace RM
open PySem PySem.Spec PyProof.Rows L2 CS RZ
/-! ### alone among all journeys with the same steps -/
def twoW (e : Ed) : List Str := [e.1, e.2]
theorem win_pairs : ∀ x : List Str, winL 2 x = (pairsOf x).map twoW
  | [] => rfl
  | [_] => rfl
  | a :: b :: r => by
    have ih := win_pairs (b :: r)
    have e : winL 2 (a :: b :: r) = [a, b] :: winL 2 (b :: r) := by
      unfold winL
      have l : (a :: b :: r).length + 1 - 2 = ((b :: r).length + 1 - 2) + 1 := by simp only [List.length_cons]; omega
      rw [l, List.range_succ_eq_map, List.map_cons, List.map_map]
      rfl
    rw [e, ih]
    rfl
def unTwoW : List Str → Ed
  | [a, b] => (a, b)
  | _ => ("", "")
theorem win_perm {x y : List Str} (h : (winL 2 x).Perm (winL 2 y)) : (pairsOf x).Perm (pairsOf y) := by
  have k : ∀ l : List Ed, (l.map twoW).map unTwoW = l := fun l => by
    rw [List.map_map]
    exact List.map_id' l
  rw [win_pairs, win_pairs] at h
  have := h.map unTwoW
  rwa [k, k] at this
/-- what the law compares -/
def kinB (f : Nat) (x y : List Str) : Bool := decide (x.take (f - 1) = y.take (f - 1)) && decide ((cutS x f).mergeSort leR = (cutS y f).mergeSort leR)
theorem kin_of {f : Nat} {x y : List Str} (hf : 2 ≤ f) (hl : x.length = y.length) : kinB f x y = true ↔ Kin (f - 1) x y := by
  have e : f - 1 + 1 = f := by omega
  unfold kinB
  rw [Bool.and_eq_true, decide_eq_true_iff, decide_eq_true_iff]
  have c : ∀ z : List Str, cutS z f = winL (f - 1 + 1) z := fun z => by
    rw [e]
    rfl
  rw [c, c]
  constructor
  · rintro ⟨h1, h2⟩
    refine ⟨h1, ?_, hl⟩
    exact ((List.mergeSort_perm _ leR).symm.trans (h2 ▸ List.Perm.refl _)).trans (List.mergeSort_perm _ leR)
  · intro k
    exact ⟨k.hd, sortR_perm k.win⟩
section
variable {s : Str} {p : List Str}
theorem lv_row (T : T76 s p) : s :: p ∈ lv ([], s, Lr s p) := (lv_mem T.r.pc.cn _).mpr ⟨p, rfl, row_way T.j T.hl⟩
theorem lv_long (T : T76 s p) {y : List Str} (h : y ∈ lv ([], s, Lr s p)) : y.length = (s :: p).length := by
  obtain ⟨q, rfl, w⟩ := (lv_mem T.r.pc.cn _).mp h
  have := way_len w
  rw [T.len] at this
  rw [List.length_cons, List.length_cons, this]
theorem lv_kin (T : T76 s p) {m : Nat} (hm : 0 < m) (hl : m ≤ (s :: p).length) {y : List Str} (k : Kin m (s :: p) y) : y ∈ lv ([], s, Lr s p) := by
  have k1 := k.down (k := 1) (by omega) hl
  cases y with
  | nil => cases k1.len
  | cons a q =>
    have : s = a := by
      have := k1.hd
      exact (List.cons.inj this).1
    subst this
    refine (lv_mem T.r.pc.cn _).mpr ⟨q, rfl, ?_⟩
    exact (win_perm k1.win).symm.trans (row_way T.j T.hl)
theorem alone_told (T : T76 s p) {f : Nat} (hf : 2 ≤ f) (hl : f ≤ (s :: p).length + 1) : decide ((lv ([], s, Lr s p)).filter (fun y => kinB f y (s :: p)) = [s :: p]) = toldQ (s :: p) f := by
  have kk : kinB f (s :: p) (s :: p) = true := (kin_of hf rfl).mpr (Kin.refl _ _)
  by_cases c : toldB (s :: p) f
  · rw [toldQ_t c]
    refine decide_eq_true ?_
    refine nodup_one ((lv_nodup T.r.pc.cn).filter _) fun y => ?_
    rw [List.mem_filter]
    constructor
    · rintro ⟨h1, h2⟩
      exact (alone_iff.mpr c) y ((kin_of hf (lv_long T h1)).mp h2).symm
    · rintro rfl
      exact ⟨lv_row T, kk⟩
  · rw [toldQ_f c]
    refine decide_eq_false fun h => c ?_
    refine alone_iff.mp fun y k => ?_
    have hy := lv_kin T (by omega) (by omega) k
    have : y ∈ (lv ([], s, Lr s p)).filter fun y => kinB f y (s :: p) := List.mem_filter.mpr ⟨hy, (kin_of hf (lv_long T hy)).mpr k.symm⟩
    rw [h] at this
    exact List.mem_singleton.mp this
end
/-! ### the law's cut -/
def cutD (row : List Str) (f : Nat) : D := .tuple [rowT (row.take (f - 1)), .list (((cutS row f).mergeSort leR).map rowT)]
def sdLawCut : SpD := fun ds n k _ => ∃ (row : List Str) (f : Nat), ds = [rowT row, .int f] ∧ row.length ≤ 60 ∧ 2 ≤ f ∧ f ≤ row.length + 1 ∧ k (cutD row f) n
abbrev n_law_cut : List Str := ["_law_row_so", "_law_far", "_law_k"]
def cs_law_cut : CS := cRet (cTup (cCons (cSl (cVar 0) (cNo) (cPart (cOp subD (cVar 1) (cC (.int 1))))) (cCons (cCF gSorted (cCons (cLc (cRange1 (cCons (cOp addD (cOp subD (cCB gLen (cCons (cVar 0) (cNil))) (cVar 1)) (cC (.int 1))) (cNil))) (stN 2) (cYes) (cSl (cVar 0) (cPart (cVar 2)) (cPart (cOp addD (cVar 2) (cVar 1)))) [2]) (cNil))) (cNil))))
theorem himp_law_cut {e : EndsD} (ds : List D) (n : Nat) (k : D → Nat → Prop) (ke : Xv → Nat → Prop) (h : sdLawCut ds n k ke) (he : e.rt = k) : cs_law_cut (startE n_law_cut ds) n e := by
  obtain ⟨row, f, rfl, hl, hf, hf2, q⟩ := h
  subst he
  have hll := len_strD row
  have e1 : ((f : Nat) : Int) - 1 = ((f - 1 : Nat) : Int) := by omega
  refine ⟨.int (((f : Nat) : Int) - 1), rfl, _, rfl, rowT (row.take (f - 1)), by rw [e1]; exact slice_take (by omega), ?_⟩
  refine ⟨.int (((strD row).length : Nat) : Int), ⟨_, _, rfl, rfl, rfl⟩, _, rfl, _, rfl, _, rfl, ⟨by rw [hll]; omega, by rw [hll]; omega⟩, ?_⟩
  have en : (((((strD row).length : Nat) : Int) - ((f : Nat) : Int)) + 1).toNat = row.length + 1 - f := by rw [hll]; omega
  rw [en]
  show cLcL _ _ _ _ ((List.range (row.length + 1 - f)).map fun i : Nat => PyData.int (0 + ((i : Nat) : Int))) [some (.v (rowT row)), some (.v (.int ((f : Nat) : Int))), none] n [] _
  refine map_run (fun i : Nat => PyData.int (0 + ((i : Nat) : Int))) (fun _ => true) (fun i => rowT (stS row f i)) (List.range (row.length + 1 - f)) [] (fun i hi => ⟨[some (.v (rowT row)), some (.v (.int ((f : Nat) : Int))), some (.v (.int (0 + ((i : Nat) : Int))))], rfl, rfl, fun K1 hK => hK, fun K2 hK => ?_⟩) (by rw [List.length_nil, List.length_range]; unfold lim; omega) ?_
  · have hi := List.mem_range.mp hi
    have hz := mid_strD row i f (by omega)
    refine ⟨_, rfl, _, rfl, _, rfl, rowT (stS row f i), ?_, hK⟩
    rw [show (0 : Int) + ((i : Nat) : Int) = ((i : Nat) : Int) by omega, show ((i : Nat) : Int) + ((f : Nat) : Int) = ((i + f : Nat) : Int) by omega]
    show some (PyData.tuple (cutL (strD row) _ _)) = _
    rw [hz]
    rfl
  · rw [filter_true, List.nil_append]
    have e2 : ((List.range (row.length + 1 - f)).map fun i => rowT (stS row f i)) = (cutS row f).map rowT := by
      unfold cutS
      rw [List.map_map]
      rfl
    rw [e2]
    refine ⟨_, sorted_rows rfl fun z hz e3 => ?_, by show 2 ≤ lim; decide, q⟩
    unfold cutS at hz
    obtain ⟨i, hi, rfl⟩ := List.mem_map.mp hz
    have hi := List.mem_range.mp hi
    have := congrArg List.length e3
    unfold stS at this
    rw [List.length_take, List.length_drop, List.length_nil] at this
    omega
theorem eqvAll_rows : ∀ a b : List (List Str), PyData.eqvAll (a.map rowT) (b.map rowT) = decide (a = b)
  | [], [] => by simp [PyData.eqvAll]
  | [], _ :: _ => by simp [PyData.eqvAll]
  | _ :: _, [] => by simp [PyData.eqvAll]
  | x :: a, y :: b => by
    have ih := eqvAll_rows a b
    show (PyData.eqv (rowT x) (rowT y) && PyData.eqvAll (a.map rowT) (b.map rowT)) = _
    rw [rowT_eqv, ih]
    by_cases h1 : x = y
    · by_cases h2 : a = b
      · simp [h1, h2]
      · simp [h1, h2]
    · simp [h1]
theorem ok_cutD {row : List Str} {f : Nat} (hg : ∀ y ∈ row, GoodS y) : okE (cutD row f) = true := by
  refine OkN.ok (k := 3) (OkN.tuple fun d hd => ?_) (by decide)
  rcases List.mem_cons.mp hd with rfl | hd
  · exact (OkN.tuple (k := 1) fun d hd => by
      obtain ⟨y, hy, rfl⟩ := List.mem_map.mp hd
      exact OkN.str 1 (hg y (List.mem_of_mem_take hy)))
  · rw [List.mem_singleton.mp hd]
    refine OkN.list fun d hd => ?_
    obtain ⟨z, hz, rfl⟩ := List.mem_map.mp hd
    refine OkN.strs fun y hy => ?_
    have hz := (List.mergeSort_perm _ leR).mem_iff.mp hz
    unfold cutS at hz
    obtain ⟨i, _, rfl⟩ := List.mem_map.mp hz
    exact good_st hg f i y hy
theorem eqD_cut {x y : List Str} {f : Nat} (hx : ∀ z ∈ x, GoodS z) (hy : ∀ z ∈ y, GoodS z) : eqD (cutD x f) (cutD y f) = some (.bool (kinB f x y)) := by
  unfold eqD
  rw [ok_cutD hx, ok_cutD hy, if_pos (show (true && true) = true from rfl)]
  show some (PyData.bool (PyData.eqv (rowT (x.take (f - 1))) (rowT (y.take (f - 1))) && (PyData.eqvAll (((cutS x f).mergeSort leR).map rowT) (((cutS y f).mergeSort leR).map rowT) && true))) = _
  rw [rowT_eqv, eqvAll_rows, Bool.and_true]
  rfl
theorem eqD_rowsL {a b : List (List Str)} (ha : ∀ z ∈ a, ∀ y ∈ z, GoodS y) (hb : ∀ z ∈ b, ∀ y ∈ z, GoodS y) : eqD (.list (a.map rowT)) (.list (b.map rowT)) = some (.bool (decide (a = b))) := by
  have ok : ∀ {l : List (List Str)}, (∀ z ∈ l, ∀ y ∈ z, GoodS y) → okE (.list (l.map rowT)) = true := fun {l} h => OkN.ok (k := 2) (OkN.list fun d hd => by
    obtain ⟨z, hz, rfl⟩ := List.mem_map.mp hd
    exact OkN.strs (h z hz)) (by decide)
  unfold eqD
  rw [ok ha, ok hb, if_pos (show (true && true) = true from rfl)]
  show some (PyData.bool (PyData.eqvAll (a.map rowT) (b.map rowT))) = _
  rw [eqvAll_rows]
/-! ### the law's least window -/
/-- what is there when j0 rows are whole and k0 of the next one -/
structure EndsI (x : List Str) (j0 k0 : Nat) (ns : List (Nat × Nat)) (h : Nat × Nat → Nat) : Prop where
  has : ∀ j k, k ≤ j → (j < j0 ∨ (j = j0 ∧ k < k0)) → (k, j) ∈ ns ∧ h (k, j) = ceL x k j
  len : ns.length ≤ j0 * 61 + k0
theorem EndsI.step {x : List Str} {j k : Nat} {ns : List (Nat × Nat)} {h : Nat × Nat → Nat} (I : EndsI x j k ns h) {v : Nat} (hv : v = ceL x k j) : EndsI x j (k + 1) (putG ns (k, j)) (fun q => if q = (k, j) then v else h q) where
  has := fun j' k' hk hd => by
    by_cases c : ((k', j') : Nat × Nat) = (k, j)
    · refine ⟨putG_mem.mpr (.inr c), ?_⟩
      rw [if_pos c, hv]
      cases c
      rfl
    · have hd' : j' < j ∨ (j' = j ∧ k' < k) := by
        rcases hd with h1 | ⟨h1, h2⟩
        · exact .inl h1
        · refine .inr ⟨h1, ?_⟩
          rcases Nat.lt_or_ge k' k with h3 | h3
          · exact h3
          · exact absurd (by rw [h1, show k' = k by omega]) c
      obtain ⟨h1, h2⟩ := I.has j' k' hk hd'
      refine ⟨putG_mem.mpr (.inl h1), ?_⟩
      rw [if_neg c]
      exact h2
  len := Nat.le_trans putG_len (by have := I.len; omega)
section
variable {e : EndsD} {n : Nat} {row : List Str}
theorem row_atW {row : List Str} {i : Nat} (h : i < row.length) : atD (rowT row) (.int ((i : Nat) : Int)) = some (.str (row[i])) := by
  show atI (strD row) _ = _
  refine atI_nat ?_
  unfold strD
  rw [List.getElem?_map, List.getElem?_eq_getElem h]
  rfl
end
end RM
namespace RM
open PySem PySem.Spec PyProof.Rows L2 CS RZ
/-! ### the law's least window, by common ends -/
end RM
namespace RM
open PySem PySem.Spec PyProof.Rows L2 CS RZ
/-! ### the greatest crossing, computed -/
def exB (x : List Str) (m : Nat) : Bool := (List.range x.length).any fun j => (List.range j).any fun k => decide (x[k]? ≠ x[j]?) && (decide (m ≤ ceL x k j) && (List.range' (j + 1) (x.length - j)).any fun l => (List.range' (k + 1) (j - k)).any fun s => decide (m ≤ ceL x s l))
theorem exB_iff {x : List Str} {m : Nat} : exB x m = true ↔ ∃ k j, MostAt x m k j := by
  unfold exB
  simp only [List.any_eq_true, List.mem_range, Bool.and_eq_true, decide_eq_true_eq, List.mem_range'_1]
  constructor
  · rintro ⟨j, hj, k, hk, h1, h2, l, ⟨h3, h4⟩, s, ⟨h5, h6⟩, h7⟩
    exact ⟨k, j, hk, hj, h1, h2, l, by omega, by omega, s, by omega, by omega, h7⟩
  · rintro ⟨k, j, hk, hj, h1, h2, l, h3, h4, s, h5, h6, h7⟩
    exact ⟨j, hj, k, hk, h1, h2, l, ⟨by omega, by omega⟩, s, ⟨by omega, by omega⟩, h7⟩
theorem most_calc {x : List Str} {M : Nat} (h1 : (M == 0 || exB x M) = true) (h2 : exB x (M + 1) = false) : mostN x = M := by
  have no : ∀ m, M < m → ¬ ∃ k j, MostAt x m k j := fun m hm ⟨k, j, h⟩ => by
    have := exB_iff.mpr ⟨k, j, most_down h hm⟩
    rw [h2] at this
    cases this
  refine most_eq fun m hm => ?_
  rw [crs_iff]
  constructor
  · intro h
    rw [Bool.or_eq_true, beq_iff_eq] at h1
    rcases h1 with h1 | h1
    · omega
    · obtain ⟨k, j, h3⟩ := exB_iff.mp h1
      exact ⟨k, j, most_down h3 h⟩
  · intro h
    rcases Nat.lt_or_ge M m with c | c
    · exact absurd h (no m c)
    · exact c
/-! ### k69 by hand -/
def rep2 (l : List Str) : Nat → List Str
  | 0 => []
  | k + 1 => l ++ rep2 l k
section
variable {e : EndsD} {n : Nat} {t0 t1 t2 t3 : Option Sl}
theorem catTL {a b : List D} (h : a.length + b.length ≤ lim) : addD (.tuple a) (.tuple b) = some (.tuple (a ++ b)) := if_pos h
end
end RM
namespace RM
open PySem PySem.Spec PyProof.Rows L2 CS RZ
/-! ### k69: woven -/
section
variable {e : EndsD} {n : Nat} {ss : List Str} {t2 t3 t4 t5 : Option Sl}
theorem catS {a b : List Str} (h : a.length + b.length ≤ 100000) : addD (rowT a) (rowT b) = some (rowT (a ++ b)) := by
  have := catTL (a := strD a) (b := strD b) (by rw [strD_len, strD_len]; unfold lim; omega)
  unfold rowT strD at this ⊢
  rw [List.map_append]
  exact this
end
/-! ### k69: the turn -/
theorem toldQ_eq {x : List Str} {f : Nat} (hf : 2 ≤ f) : toldQ x f = decide (mostN x + 2 ≤ f) := by
  by_cases c : toldB x f
  · rw [toldQ_t c, decide_eq_true ((told_iff hf).mp c)]
  · rw [toldQ_f c, decide_eq_false fun z => c ((told_iff hf).mpr z)]
theorem lv_ins {s : Str} {p : List Str} (T : T76 s p) {y : List Str} (h : y ∈ lv ([], s, Lr s p)) : ∀ z ∈ y, z ∈ s :: p := by
  obtain ⟨q, rfl, w⟩ := (lv_mem T.r.pc.cn _).mp h
  intro z hz
  rcases List.mem_cons.mp hz with rfl | hz
  · exact List.mem_cons_self ..
  · obtain ⟨e, he, rfl⟩ := pair_snd s q z hz
    exact (pairs_in s p e (T.r.mem.mp (w.mem_iff.mp he))).2
theorem eqD_boolsL (bs : List Bool) : eqD (.list (bs.map PyData.bool)) (.list (bs.map PyData.bool)) = some (.bool true) := by
  have ok : okE (.list (bs.map PyData.bool)) = true := (OkN.list (k := 0) fun d hd => by
    obtain ⟨b, _, rfl⟩ := List.mem_map.mp hd
    exact OkN.bl 0 b).ok (by decide)
  unfold eqD
  rw [ok, if_pos (show (true && true) = true from rfl)]
  have : ∀ l : List Bool, PyData.eqvAll (l.map PyData.bool) (l.map PyData.bool) = true := by
    intro l
    induction l with
    | nil => rfl
    | cons b l ih =>
      show (PyData.eqv (.bool b) (.bool b) && PyData.eqvAll (l.map PyData.bool) (l.map PyData.bool)) = true
      rw [ih]
      cases b <;> rfl
  show some (PyData.bool (PyData.eqvAll (bs.map PyData.bool) (bs.map PyData.bool))) = _
  rw [this]
end RM
namespace RM
open PySem PySem.Spec PyProof.Rows L2 CS RZ
/-! ### k67: twin_by, a size that is refused, what the law hears -/
noncomputable def twD (row : List Str) (m : Nat) : D := match crsOf m row with
  | none => .none
  | some (a, b, c, d) => rowT (twinL row a b c d)
noncomputable def sdTwinBy : SpD := fun ds n k ke => ∃ (x : D) (row : List Str) (f : Nat), ds = [x, .int f] ∧ seqD x = some (strD row) ∧ (∀ y ∈ row, GoodS y) ∧ row.length ≤ 60 ∧ if 2 ≤ f ∧ f ≤ row.length + 1 then k (twD row (f - 1)) n else ke (cNoSize, errF ["number"] [.int f]) n
abbrev n_twin_by : List Str := ["journey", "size", "crossing", "row", "one", "inner", "other", "late"]
abbrev tw_e : CE := cOp addD (cOp addD (cOp addD (cOp addD (cSl (cVar 3) (cNo) (cPart (cVar 4))) (cSl (cVar 3) (cPart (cVar 6)) (cPart (cVar 7)))) (cSl (cVar 3) (cPart (cVar 5)) (cPart (cVar 6)))) (cSl (cVar 3) (cPart (cVar 4)) (cPart (cVar 5)))) (cSl (cVar 3) (cPart (cVar 7)) (cNo))
noncomputable def cs_twin_by : CS := cSq (cSet 2 (cCall sdCrossBy (cCons (cVar 0) (cCons (cVar 1) (cNil))))) (cSq (cIfS (cB (cOp isN (cVar 2) (cC .none))) (cRet (cC .none)) (cNext)) (cSq (cAsg (stT (stCons (stN 4) (stCons (stN 5) (stCons (stN 6) (stCons (stN 7) (stNil)))))) (cVar 2)) (cSq (cSet 3 (cCB gTuple (cCons (cVar 0) (cNil)))) (cRet tw_e))))
theorem midT {row : List Str} {i j : Nat} (hi : i ≤ j) (hj : j ≤ row.length) : sliceD (rowT row) (some ((i : Nat) : Int)) (some ((j : Nat) : Int)) = some (rowT ((row.drop i).take (j - i))) := by
  have := mid_strD row i (j - i) (by omega)
  rw [show i + (j - i) = j by omega] at this
  show some (PyData.tuple (cutL (strD row) _ _)) = _
  rw [this]
  rfl
theorem dropT {row : List Str} {i : Nat} (hi : i ≤ row.length) : sliceD (rowT row) (some ((i : Nat) : Int)) none = some (rowT (row.drop i)) := by
  show some (PyData.tuple (cutL (strD row) _ _)) = _
  rw [cut_drop (by rw [strD_len]; exact hi)]
  unfold rowT strD
  rw [List.map_drop]
theorem tk_len {α : Type} (l : List α) (i j : Nat) : ((l.drop i).take j).length ≤ l.length := by
  rw [List.length_take, List.length_drop]
  omega
theorem himp_twin_by {e : EndsD} (ds : List D) (n : Nat) (k : D → Nat → Prop) (ke : Xv → Nat → Prop) (hh : sdTwinBy ds n k ke) (he : e.rt = k) (hx : ∀ x ρ n, ke x n → e.xc x ρ n) : cs_twin_by (startE n_twin_by ds) n e := by
  obtain ⟨x, row, f, rfl, hs, hg, hl, q⟩ := hh
  subst he
  refine ⟨x, row, f, rfl, hs, hg, hl, ?_⟩
  by_cases c : 2 ≤ f ∧ f ≤ row.length + 1
  · rw [if_pos c] at q ⊢
    unfold twD at q
    by_cases no : ∃ a b c d, Crs (f - 1) row a b c d
    · obtain ⟨a, b, c', d, k⟩ := crsF_ex no
      rw [crsOf_some k] at q ⊢
      have h1 := k.k.ab
      have h2 := k.k.bc
      have h3 := k.k.cd
      have h4 := k.k.le
      have t1 := tk_len row c' (d - c')
      have t2 := tk_len row b (c' - b)
      have t3 := tk_len row a (b - a)
      have t4 : (row.drop d).length ≤ row.length := by rw [List.length_drop]; omega
      have t5 : (row.take a).length ≤ row.length := by rw [List.length_take]; omega
      refine ⟨.bool false, rfl, _, rfl, ?_⟩
      refine ⟨_, rfl, ?_⟩
      refine ⟨rowT row, ⟨_, _, rfl, hs, rfl⟩, ?_⟩
      refine ⟨((a : Nat) : Int), rfl, _, slice_take (by omega), ?_⟩
      refine ⟨((c' : Nat) : Int), rfl, ((d : Nat) : Int), rfl, _, midT (by omega) (by omega), _, catS (by omega), ?_⟩
      refine ⟨((b : Nat) : Int), rfl, ((c' : Nat) : Int), rfl, _, midT (by omega) (by omega), _, catS (by rw [List.length_append]; omega), ?_⟩
      refine ⟨((a : Nat) : Int), rfl, ((b : Nat) : Int), rfl, _, midT (by omega) (by omega), _, catS (by rw [List.length_append, List.length_append]; omega), ?_⟩
      refine ⟨((d : Nat) : Int), rfl, _, dropT (by omega), _, catS (by rw [List.length_append, List.length_append, List.length_append]; omega), ?_⟩
      have e1 : ((((row.take a ++ (row.drop c').take (d - c')) ++ (row.drop b).take (c' - b)) ++ (row.drop a).take (b - a)) ++ row.drop d) = twinL row a b c' d := by
        unfold twinL
        simp only [List.append_assoc]
      rw [e1]
      exact q
    · rw [crsOf_none no] at q ⊢
      exact ⟨.bool true, rfl, _, rfl, q⟩
  · rw [if_neg c] at q ⊢
    exact hx _ _ _ q
/-! is_crossing_by, with a size that is refused -/
def sdIsCrossX : SpD := fun ds n k ke => ∃ (x : D) (row : List Str) (f : Nat) (d : D), ds = [x, .int f, d] ∧ seqD x = some (strD row) ∧ row.length ≤ 60 ∧ ¬ (2 ≤ f ∧ f ≤ row.length + 1) ∧ ke (cNoSize, errF ["number"] [.int f]) n
def cs_is_crossX : CS := cSq (cDrop (cCall sdCheckSizeX (cCons (cVar 0) (cCons (cVar 1) (cNil))))) (cSq (cIfS (cOrT (cNotT (cB (cIsK1 (.nm 2) "tuple"))) (cOrT (cB (cOp neD (cCB gLen (cCons (cVar 2) (cNil))) (cC (.int 4)))) (cNotT (cB (cCB gAll (cCons (cLc (cSeq (cVar 2)) (stN 8) (cYes) (cCall sdIsNum (cCons (cVar 8) (cNil))) [8]) (cNil))))))) (cRet (cC (.bool false))) (cNext)) (cSq (cAsg (stT (stCons (stN 4) (stCons (stN 5) (stCons (stN 6) (stCons (stN 7) (stNil)))))) (cVar 2)) (cSq (cSet 3 (cCall sdCutW (cCons (cVar 0) (cCons (cOp subD (cVar 1) (cC (.int 1))) (cNil))))) (cSq (cIfS (cNotT (cChainN (cC (.int 0)) [(leD, cVar 4), (ltD, cVar 5), (leD, cVar 6), (ltD, cVar 7), (ltD, cCB gLen (cCons (cVar 3) (cNil)))])) (cRet (cC (.bool false))) (cNext)) (cRet (cAndV (cOp eqD (cOp atD (cVar 3) (cVar 4)) (cOp atD (cVar 3) (cVar 6))) (cAndV (cOp eqD (cOp atD (cVar 3) (cVar 5)) (cOp atD (cVar 3) (cVar 7))) (cOp neD (cOp atD (cVar 3) (cOp addD (cVar 4) (cC (.int 1)))) (cOp atD (cVar 3) (cOp addD (cVar 6) (cC (.int 1))))))))))))
theorem himp_is_crossX {e : EndsD} (ds : List D) (n : Nat) (k : D → Nat → Prop) (ke : Xv → Nat → Prop) (hh : sdIsCrossX ds n k ke) (he : e.rt = k) (hx : ∀ x ρ n, ke x n → e.xc x ρ n) : cs_is_crossX (startE n_is_crossing ds) n e := by
  obtain ⟨x, row, f, d, rfl, hs, hl, hf, q⟩ := hh
  refine ⟨x, row, f, rfl, hs, hl, ?_⟩
  rw [if_neg hf]
  exact hx _ _ _ q
/-! the law's ear -/
noncomputable def heardW (row : List Str) (f door : Nat) : D := if 2 ≤ f ∧ f ≤ row.length + 1 then (if door = 0 then .bool (toldQ row f) else if door = 1 then crsD (crsOf (f - 1) row) else twD row (f - 1)) else .list [.str "size", .int ((f : Nat) : Int)]
noncomputable def sdHeard67 : SpD := fun ds n k _ => ∃ (x : D) (row : List Str) (f door : Nat), ds = [.int ((door : Nat) : Int), x, .int ((f : Nat) : Int)] ∧ seqD x = some (strD row) ∧ (∀ y ∈ row, GoodS y) ∧ row.length ≤ 60 ∧ (2 ≤ f ∧ f ≤ row.length + 1 → door ≤ 2) ∧ k (heardW row f door) n
abbrev n_heard67 : List Str := ["_law_door", "_law_row_so", "_law_far", "error_so", "_law_got", "_law_caught"]
noncomputable def h67_b : CS := cIfS (cB (cOp eqD (cVar 0) (cC (.int 0)))) (cSet 4 (cCall sdToldBy (cCons (cVar 1) (cCons (cVar 2) (cNil))))) (cIfS (cB (cOp eqD (cVar 0) (cC (.int 1)))) (cSet 4 (cCallP 2 [1, 0] sdCrossBy (cCons (cVar 2) (cCons (cVar 1) (cNil))))) (cIfS (cB (cOp eqD (cVar 0) (cC (.int 2)))) (cSet 4 (cCall sdTwinBy (cCons (cVar 1) (cCons (cVar 2) (cNil))))) (cSet 4 (cCall sdIsCrossX (cCons (cVar 1) (cCons (cVar 2) (cCons (cIf (cB (cOp eqD (cVar 0) (cC (.int 3)))) (cTup (cCons (cC (.int 0)) (cCons (cC (.int 1)) (cCons (cC (.int 2)) (cCons (cC (.int 3)) (cNil)))))) (cC .none)) (cNil))))))))
def h67_r : CS := cRet (cIf (cB (cOp isN (cVar 5) (cC .none))) (cVar 4) (cLst (cCons (cC (.str "size")) (cCons (cXFld (.nm 5) [cNoSize] "number") (cNil)))))
noncomputable def cs_heard67 : CS := cSq (cAsg (stT (stCons (stN 4) (stCons (stN 5) (stNil)))) (cTup (cCons (cC .none) (cCons (cC .none) (cNil))))) (cSq (cTryT [cNoSize] [cNoSize] 3 h67_b (cSet 5 (cVar 3))) h67_r)
theorem himp_heard67 {e : EndsD} (ds : List D) (n : Nat) (k : D → Nat → Prop) (ke : Xv → Nat → Prop) (hh : sdHeard67 ds n k ke) (he : e.rt = k) : cs_heard67 (startE n_heard67 ds) n e := by
  obtain ⟨x, row, f, door, rfl, hs, hg, hl, hd, q⟩ := hh
  subst he
  have good : ∀ v : D, e.rt v n → h67_r [some (.v (.int ((door : Nat) : Int))), some (.v x), some (.v (.int ((f : Nat) : Int))), none, some (.v v), some (.v .none)] n e := fun v q => ⟨_, rfl, _, rfl, q⟩
  have bad : ¬ (2 ≤ f ∧ f ≤ row.length + 1) → cNoSize ∈ [cNoSize] ∧ (if cNoSize ∈ [cNoSize] then (cSet 5 (cVar 3)) ([some (.v (.int ((door : Nat) : Int))), some (.v x), some (.v (.int ((f : Nat) : Int))), some (.v (exc cNoSize (errF ["number"] [.int ((f : Nat) : Int)]))), some (.v .none), some (.v .none)]) n { nx := fun ρ2 n2 => (h67_r (ρ2.set 3 none) n2 e), rt := e.rt, bk := fun ρ2 n2 => e.bk (ρ2.set 3 none) n2, ct := fun ρ2 n2 => e.ct (ρ2.set 3 none) n2, xc := kF } else False) := fun c => by
    unfold heardW at q
    rw [if_neg c] at q
    refine ⟨by decide, ?_⟩
    rw [if_pos (by decide)]
    show h67_r [some (.v (.int ((door : Nat) : Int))), some (.v x), some (.v (.int ((f : Nat) : Int))), none, some (.v .none), some (.v (exc cNoSize (errF ["number"] [.int ((f : Nat) : Int)])))] n e
    refine ⟨_, rfl, _, rfl, ?_⟩
    refine ⟨rfl, cNoSize, _, _, rfl, by decide, rfl, by show 2 ≤ lim; decide, q⟩
  refine ⟨by show 2 ≤ lim; decide, [some (.v (.int ((door : Nat) : Int))), some (.v x), some (.v (.int ((f : Nat) : Int))), none, some (.v .none), some (.v .none)], rfl, ?_⟩
  have ed : ∀ j : Int, eqD (.int ((door : Nat) : Int)) (.int j) = some (.bool (((door : Nat) : Int) == j)) := fun j => eqD_int _ _
  refine ⟨_, ed 0, _, rfl, ?_⟩
  by_cases d0 : door = 0
  · subst d0
    refine ⟨x, row, f, rfl, hs, hg, hl, ?_⟩
    by_cases c : 2 ≤ f ∧ f ≤ row.length + 1
    · rw [if_pos c]
      unfold heardW at q
      rw [if_pos c, if_pos rfl] at q
      exact good _ q
    · rw [if_neg c]
      exact bad c
  · rw [beq_false_of_ne (show ((door : Nat) : Int) ≠ 0 by omega)]
    refine ⟨_, ed 1, _, rfl, ?_⟩
    by_cases d1 : door = 1
    · subst d1
      refine ⟨rfl, x, row, f, rfl, hs, hg, hl, ?_⟩
      by_cases c : 2 ≤ f ∧ f ≤ row.length + 1
      · rw [if_pos c]
        unfold heardW at q
        rw [if_pos c, if_neg (by decide), if_pos rfl] at q
        exact good _ q
      · rw [if_neg c]
        exact bad c
    · rw [beq_false_of_ne (show ((door : Nat) : Int) ≠ 1 by omega)]
      refine ⟨_, ed 2, _, rfl, ?_⟩
      by_cases d2 : door = 2
      · subst d2
        refine ⟨x, row, f, rfl, hs, hg, hl, ?_⟩
        by_cases c : 2 ≤ f ∧ f ≤ row.length + 1
        · rw [if_pos c]
          unfold heardW at q
          rw [if_pos c, if_neg (by decide), if_neg (by decide)] at q
          exact good _ q
        · rw [if_neg c]
          exact bad c
      · rw [beq_false_of_ne (show ((door : Nat) : Int) ≠ 2 by omega)]
        have c : ¬ (2 ≤ f ∧ f ≤ row.length + 1) := fun c => by
          have := hd c
          omega
        refine ⟨_, ed 3, _, rfl, ?_⟩
        by_cases d3 : door = 3
        · subst d3
          refine ⟨by show 4 ≤ lim; decide, ?_⟩
          exact ⟨x, row, f, _, rfl, hs, hl, c, bad c⟩
        · rw [beq_false_of_ne (show ((door : Nat) : Int) ≠ 3 by omega)]
          exact ⟨x, row, f, _, rfl, hs, hl, c, bad c⟩
/-! the law's crossing -/
def sdCrosses67 : SpD := fun ds n k _ => ∃ (row : List Str) (f a b c d : Nat), ds = [rowT row, .int f, .tuple [.int (a : Nat), .int (b : Nat), .int (c : Nat), .int (d : Nat)]] ∧ (∀ y ∈ row, GoodS y) ∧ row.length ≤ 60 ∧ 2 ≤ f ∧ Crs (f - 1) row a b c d ∧ k (.bool true) n
abbrev n_crosses67 : List Str := ["_law_row_so", "_law_far", "_law_four", "_law_rows_so", "_law_one", "_law_two", "_law_three", "_law_last_so", "_law_k"]
def cs_crosses67 : CS := cSq (cAsg (stT (stCons (stN 4) (stCons (stN 5) (stCons (stN 6) (stCons (stN 7) (stNil)))))) (cVar 2)) (cSq (cOwn 3 (cLc (cRange1 (cCons (cOp addD (cOp subD (cCB gLen (cCons (cVar 0) (cNil))) (cVar 1)) (cC (.int 2))) (cNil))) (stN 8) (cYes) (cSl (cVar 0) (cPart (cVar 8)) (cPart (cOp subD (cOp addD (cVar 8) (cVar 1)) (cC (.int 1))))) [8])) (cSq (cIfS (cNotT (cChainN (cC (.int 0)) [(leD, cVar 4), (ltD, cVar 5), (leD, cVar 6), (ltD, cVar 7), (ltD, cCB gLen (cCons (cVar 3) (cNil)))])) (cRet (cC (.bool false))) (cNext)) (cSq (cIfS (cOrT (cB (cOp neD (cOp atD (cVar 3) (cVar 4)) (cOp atD (cVar 3) (cVar 6)))) (cB (cOp neD (cOp atD (cVar 3) (cVar 5)) (cOp atD (cVar 3) (cVar 7))))) (cRet (cC (.bool false))) (cNext)) (cRet (cOp neD (cOp atD (cVar 0) (cOp subD (cOp addD (cVar 4) (cVar 1)) (cC (.int 1)))) (cOp atD (cVar 0) (cOp subD (cOp addD (cVar 6) (cVar 1)) (cC (.int 1)))))))))
theorem himp_crosses67 {e : EndsD} (ds : List D) (n : Nat) (k : D → Nat → Prop) (ke : Xv → Nat → Prop) (hh : sdCrosses67 ds n k ke) (he : e.rt = k) : cs_crosses67 (startE n_crosses67 ds) n e := by
  obtain ⟨row, f, a, b, c, d, rfl, hg, hl, hf, C, q⟩ := hh
  subst he
  have h5 : (1000 : Nat) ≤ lim := by decide
  have hll := len_strD row
  have h1 := C.ab
  have h2 := C.bc
  have h3 := C.cd
  have h4 := C.le
  refine ⟨_, rfl, ?_⟩
  refine ⟨_, ⟨_, _, rfl, rfl, rfl⟩, _, rfl, _, rfl, _, rfl, ⟨by rw [hll]; omega, by rw [hll]; omega⟩, ?_⟩
  have en : (((((strD row).length : Nat) : Int) - ((f : Nat) : Int)) + 2).toNat = row.length + 1 - (f - 1) := by rw [hll]; omega
  unfold rangeD
  rw [en]
  show cLcL _ _ _ _ _ [some (.v (rowT row)), some (.v (.int ((f : Nat) : Int))), some (.v (.tuple [.int (a : Nat), .int (b : Nat), .int (c : Nat), .int (d : Nat)])), none, some (.v (.int ((a : Nat) : Int))), some (.v (.int ((b : Nat) : Int))), some (.v (.int ((c : Nat) : Int))), some (.v (.int ((d : Nat) : Int))), none] n [] _
  refine map_run (fun i : Nat => PyData.int (0 + ((i : Nat) : Int))) (fun _ => true) (fun i => rowT (stS row (f - 1) i)) (List.range (row.length + 1 - (f - 1))) [] (fun i hi => ⟨[some (.v (rowT row)), some (.v (.int ((f : Nat) : Int))), some (.v (.tuple [.int (a : Nat), .int (b : Nat), .int (c : Nat), .int (d : Nat)])), none, some (.v (.int ((a : Nat) : Int))), some (.v (.int ((b : Nat) : Int))), some (.v (.int ((c : Nat) : Int))), some (.v (.int ((d : Nat) : Int))), some (.v (.int (0 + ((i : Nat) : Int))))], rfl, rfl, fun K1 hK => hK, fun K2 hK => ?_⟩) (by rw [List.length_nil, List.length_range]; omega) ?_
  · have hi := List.mem_range.mp hi
    refine ⟨_, rfl, _, rfl, _, rfl, _, rfl, _, ?_, hK⟩
    have := midT (row := row) (i := i) (j := i + (f - 1)) (by omega) (by omega)
    rw [show i + (f - 1) - i = f - 1 by omega] at this
    rw [show (0 : Int) + ((i : Nat) : Int) = ((i : Nat) : Int) by omega, show ((i : Nat) : Int) + ((f : Nat) : Int) - 1 = ((i + (f - 1) : Nat) : Int) by omega]
    exact this
  · rw [filter_true, List.nil_append]
    have e2 : ((List.range (row.length + 1 - (f - 1))).map fun i => rowT (stS row (f - 1) i)) = (cutS row (f - 1)).map rowT := by
      unfold cutS
      rw [List.map_map]
      rfl
    rw [e2]
    have cl := cut_len row (f - 1)
    refine ⟨by show 3 < 9; decide, ?_⟩
    have le0 : leD (.int 0) (.int ((a : Nat) : Int)) = some (.bool true) := by
      show some (PyData.bool (decide ((0 : Int) ≤ ((a : Nat) : Int)))) = _
      rw [decide_eq_true (by omega)]
    have lt1 : ltD (.int ((a : Nat) : Int)) (.int ((b : Nat) : Int)) = some (.bool true) := by
      show some (PyData.bool (decide (((a : Nat) : Int) < ((b : Nat) : Int)))) = _
      rw [decide_eq_true (by omega)]
    have le2 : leD (.int ((b : Nat) : Int)) (.int ((c : Nat) : Int)) = some (.bool true) := by
      show some (PyData.bool (decide (((b : Nat) : Int) ≤ ((c : Nat) : Int)))) = _
      rw [decide_eq_true (by omega)]
    have lt3 : ltD (.int ((c : Nat) : Int)) (.int ((d : Nat) : Int)) = some (.bool true) := by
      show some (PyData.bool (decide (((c : Nat) : Int) < ((d : Nat) : Int)))) = _
      rw [decide_eq_true (by omega)]
    have lt4 : ltD (.int ((d : Nat) : Int)) (.int ((((cutS row (f - 1)).map rowT).length : Nat) : Int)) = some (.bool true) := by
      show some (PyData.bool (decide (((d : Nat) : Int) < ((((cutS row (f - 1)).map rowT).length : Nat) : Int)))) = _
      rw [decide_eq_true (by rw [cl]; omega)]
    refine ⟨true, le0, ?_⟩
    rw [if_pos rfl]
    refine ⟨true, lt1, ?_⟩
    rw [if_pos rfl]
    refine ⟨true, le2, ?_⟩
    rw [if_pos rfl]
    refine ⟨true, lt3, ?_⟩
    rw [if_pos rfl]
    refine ⟨_, ⟨_, _, rfl, rfl, rfl⟩, true, lt4, ?_⟩
    have A : ∀ i : Nat, i ≤ d → atD (.list ((cutS row (f - 1)).map rowT)) (.int ((i : Nat) : Int)) = some (rowT (stS row (f - 1) i)) := fun i hi => by
      have := cut_at (row := row) (f := f - 1) (i := ((i : Nat) : Int)) (by omega) (by omega)
      rwa [Int.toNat_natCast] at this
    have gs := fun i => good_st hg (f - 1) i
    have e3 : stS row (f - 1) a = stS row (f - 1) c := C.ac
    have e4 : stS row (f - 1) b = stS row (f - 1) d := C.bd
    refine ⟨_, A a (by omega), _, A c (by omega), .bool false, by rw [neD_rows (gs a) (gs c), decide_eq_true e3]; rfl, _, rfl, ?_⟩
    refine ⟨_, A b (by omega), _, A d (Nat.le_refl _), .bool false, by rw [neD_rows (gs b) (gs d), decide_eq_true e4]; rfl, _, rfl, ?_⟩
    have la : a + (f - 1) < row.length := by omega
    have lc : c + (f - 1) < row.length := by omega
    have ia : ((a : Nat) : Int) + ((f : Nat) : Int) - 1 = ((a + (f - 1) : Nat) : Int) := by omega
    have ic : ((c : Nat) : Int) + ((f : Nat) : Int) - 1 = ((c + (f - 1) : Nat) : Int) := by omega
    have ga : GoodS (row[a + (f - 1)]) := hg _ (List.getElem_mem _)
    have gc : GoodS (row[c + (f - 1)]) := hg _ (List.getElem_mem _)
    refine ⟨_, rfl, _, rfl, .str (row[a + (f - 1)]), by rw [ia]; exact row_atW la, _, rfl, _, rfl, .str (row[c + (f - 1)]), by rw [ic]; exact row_atW lc, .bool true, ?_, q⟩
    rw [neD_strS ga gc]
    have : row[a + (f - 1)] ≠ row[c + (f - 1)] := fun z => C.ne (by rw [List.getElem?_eq_getElem la, List.getElem?_eq_getElem lc, z])
    have : decide (row[a + (f - 1)] ≠ row[c + (f - 1)]) = true := decide_eq_true this
    rw [this]
end RM
namespace RM
open PySem PySem.Spec PyProof.Rows L2 CS RZ
/-! ### k67: one size -/
def sdSize67 : SpD := fun ds n k _ => ∃ (s : Str) (p : List Str) (f : Nat), ds = [rowT (s :: p), .int f, .list ((lv ([], s, Lr s p)).map rowT)] ∧ T76 s p ∧ (s :: p).length ≤ 9 ∧ (lv ([], s, Lr s p)).length ≤ 200 ∧ 2 ≤ f ∧ f ≤ (s :: p).length + 1 ∧ k (.bool true) n
abbrev n_size67 : List Str := ["_law_row_so", "_law_far", "_law_all_so", "_law_alone", "_law_got", "_law_soft", "_law_near", "_law_four", "_law_kin", "_law_one", "_law_two", "_law_three", "_law_last_so", "_law_door", "_law_own"]
def s67_1 : CS := cSet 3 (cOp eqD (cLc (cSeq (cVar 2)) (stN 14) (cB (cOp eqD (cCall sdLawCut (cCons (cVar 14) (cCons (cVar 1) (cNil)))) (cCall sdLawCut (cCons (cVar 0) (cCons (cVar 1) (cNil)))))) (cVar 14) [14]) (cLst (cCons (cVar 0) (cNil))))
noncomputable def s67_2 : CS := cOwn 4 (cLc (cSeq (cTup (cCons (cC (.int 0)) (cCons (cC (.int 1)) (cCons (cC (.int 2)) (cNil)))))) (stN 13) (cYes) (cCall sdHeard67 (cCons (cVar 13) (cCons (cVar 0) (cCons (cVar 1) (cNil))))) [13])
def s67_3 : CS := cIfS (cOrT (cNotT (cB (cCall sdSame (cCons (cOp atD (cVar 4) (cC (.int 0))) (cCons (cVar 3) (cNil)))))) (cB (cOp neD (cLc (cSeq (cSl (cVar 4) (cPart (cC (.int 1))) (cNo))) (stN 14) (cYes) (cOp isN (cVar 14) (cC .none)) [14]) (cLst (cCons (cVar 3) (cCons (cVar 3) (cNil))))))) (cRet (cC (.bool false))) (cNext)
def s67_4 : CS := cSet 5 (cCall (sdLists 3) (cCons (cVar 0) (cNil)))
noncomputable def s67_5 : CS := cIfS (cNotT (cB (cCall sdSame (cCons (cLst (cCons (cCall sdHeard67 (cCons (cC (.int 1)) (cCons (cVar 5) (cCons (cVar 1) (cNil))))) (cCons (cCall sdHeard67 (cCons (cC (.int 2)) (cCons (cVar 5) (cCons (cVar 1) (cNil))))) (cNil)))) (cCons (cSl (cVar 4) (cPart (cC (.int 1))) (cNo)) (cNil)))))) (cRet (cC (.bool false))) (cNext)
def s67_6 : CS := cIfS (cB (cVar 3)) (cRet (cC (.bool true))) (cNext)
def s67_7 : CS := cPar 7 8 (cCons (cOp atD (cVar 4) (cC (.int 1))) (cCons (cOp atD (cVar 4) (cC (.int 2))) (cNil)))
def s67_8 : CS := cIfS (cOrT (cNotT (cB (cIsK1 (.nm 7) "tuple"))) (cB (cOp neD (cLc (cSeq (cVar 7)) (stN 14) (cYes) (cIsInt (.nm 14)) [14]) (cOp repD (cLst (cCons (cC (.bool true)) (cNil))) (cC (.int 4)))))) (cRet (cC (.bool false))) (cNext)
def s67_9 : CS := cIfS (cOrT (cNotT (cB (cIsK1 (.nm 8) "tuple"))) (cOrT (cB (cOp eqD (cVar 8) (cVar 0))) (cB (cOp neD (cCall sdLawCut (cCons (cVar 8) (cCons (cVar 1) (cNil)))) (cCall sdLawCut (cCons (cVar 0) (cCons (cVar 1) (cNil)))))))) (cRet (cC (.bool false))) (cNext)
def s67_10 : CS := cAsg (stT (stCons (stN 9) (stCons (stN 10) (stCons (stN 11) (stCons (stN 12) (stNil)))))) (cVar 7)
def s67_11 : CS := cSet 6 (cOp addD (cOp addD (cSl (cVar 0) (cNo) (cPart (cVar 9))) (cSl (cVar 0) (cPart (cVar 11)) (cPart (cVar 12)))) (cSl (cVar 0) (cPart (cVar 10)) (cPart (cVar 11))))
def s67_12 : CS := cSet 6 (cOp addD (cOp addD (cVar 6) (cSl (cVar 0) (cPart (cVar 9)) (cPart (cVar 10)))) (cSl (cVar 0) (cPart (cVar 12)) (cNo)))
def s67_13 : CS := cRet (cAndV (cCall sdCrosses67 (cCons (cVar 0) (cCons (cVar 1) (cCons (cVar 7) (cNil))))) (cAndV (cOp inD (cVar 6) (cVar 2)) (cOp neD (cVar 6) (cVar 0))))
noncomputable def cs_size67 : CS := cSq s67_1 (cSq s67_2 (cSq s67_3 (cSq s67_4 (cSq s67_5 (cSq s67_6 (cSq s67_7 (cSq s67_8 (cSq s67_9 (cSq s67_10 (cSq s67_11 (cSq s67_12 s67_13)))))))))))
abbrev vS67 (s : Str) (p : List Str) (f : Nat) (t3 t4 t5 t6 t7 t8 t9 t10 t11 t12 : Option Sl) : En := [some (.v (rowT (s :: p))), some (.v (.int ((f : Nat) : Int))), some (.v (.list ((lv ([], s, Lr s p)).map rowT))), t3, t4, t5, t6, t7, t8, t9, t10, t11, t12, none, none]
theorem okS_crs (m : Nat) (x : List Str) : okS 3 (crsD (crsOf m x)) := by
  cases crsOf m x with
  | none => exact trivial
  | some q =>
    obtain ⟨a, b, c, d⟩ := q
    refine ⟨by show 4 ≤ 1000; decide, fun z hz => ?_⟩
    simp only [List.mem_cons, List.not_mem_nil, or_false] at hz
    rcases hz with rfl | rfl | rfl | rfl <;> exact trivial
theorem twin_len {x : List Str} {a b c d : Nat} {m : Nat} (k : Crs m x a b c d) : (twinL x a b c d).length = x.length := (crs_twin k).1.len.symm
theorem okS_tw (m : Nat) {x : List Str} (hl : x.length ≤ 1000) : okS 3 (twD x m) := by
  unfold twD
  by_cases no : ∃ a b c d, Crs m x a b c d
  · obtain ⟨a, b, c, d, k⟩ := crsF_ex no
    rw [crsOf_some k]
    exact okS_row 1 _ (by rw [twin_len k.k]; exact hl)
  · rw [crsOf_none no]
    exact trivial
theorem inD_rows67 {z : List Str} {l : List (List Str)} (hz : ∀ y ∈ z, GoodS y) (hl : ∀ w ∈ l, ∀ y ∈ w, GoodS y) : inD (rowT z) (.list (l.map rowT)) = some (.bool (decide (z ∈ l))) := by
  have ok : okE (.list (l.map rowT)) = true := OkN.ok (k := 2) (OkN.list fun d hd => by
    obtain ⟨z, hz, rfl⟩ := List.mem_map.mp hd
    exact OkN.strs (hl z hz)) (by decide)
  have ok2 : okE (rowT z) = true := (OkN.strs hz).ok (by decide)
  have an : ∀ l : List (List Str), anyD (l.map rowT) (rowT z) = decide (z ∈ l) := by
    intro l
    unfold anyD
    rw [List.any_map]
    induction l with
    | nil => rfl
    | cons y l ih =>
      rw [List.any_cons, ih]
      show (PyData.eqv (rowT y) (rowT z) || _) = _
      rw [rowT_eqv]
      by_cases c : y = z
      · simp [c]
      · simp [c, Ne.symm c]
  show (memD (rowT z) (.list (l.map rowT))).map _ = _
  show (if (okE (rowT z) && okE (.list (l.map rowT))) = true then some (anyD (l.map rowT) (rowT z)) else none).map _ = _
  rw [ok, ok2, if_pos (show (true && true) = true from rfl), an]
  rfl
theorem neD_boolsL (bs : List Bool) : neD (.list (bs.map PyData.bool)) (.list (bs.map PyData.bool)) = some (.bool false) := by
  have h := eqD_boolsL bs
  unfold eqD at h
  unfold neD
  split at h
  · rename_i c
    rw [if_pos c]
    have h2 : PyData.eqv (.list (bs.map PyData.bool)) (.list (bs.map PyData.bool)) = true := by
      have := Option.some.inj h
      injection this
    rw [h2]
    rfl
  · cases h
theorem neD_cut {x y : List Str} {f : Nat} (hx : ∀ z ∈ x, GoodS z) (hy : ∀ z ∈ y, GoodS z) : neD (cutD x f) (cutD y f) = some (.bool (!kinB f x y)) := by
  have h := eqD_cut (f := f) hx hy
  unfold eqD at h
  unfold neD
  split at h
  · rename_i c
    rw [if_pos c]
    have h2 : PyData.eqv (cutD x f) (cutD y f) = kinB f x y := by
      have := Option.some.inj h
      injection this
    rw [h2]
  · cases h
section
variable {e : EndsD} {n f : Nat} {s : Str} {p : List Str} {t3 t4 t5 t6 t7 t8 t9 t10 t11 t12 : Option Sl}
theorem s67_1_ok (T : T76 s p) (h9 : (s :: p).length ≤ 9) (h200 : (lv ([], s, Lr s p)).length ≤ 200) (hf : 2 ≤ f) (hf2 : f ≤ (s :: p).length + 1) (q : e.nx (vS67 s p f (some (.v (.bool (toldQ (s :: p) f)))) t4 t5 t6 t7 t8 t9 t10 t11 t12) n) : s67_1 (vS67 s p f t3 t4 t5 t6 t7 t8 t9 t10 t11 t12) n e := by
  have h5 : (100000 : Nat) ≤ lim := by decide
  refine ⟨(lv ([], s, Lr s p)).map rowT, rfl, ?_⟩
  show cLcL _ _ _ _ ((lv ([], s, Lr s p)).map rowT) (vS67 s p f t3 t4 t5 t6 t7 t8 t9 t10 t11 t12) n [] _
  have gy : ∀ y ∈ lv ([], s, Lr s p), ∀ z ∈ y, GoodS z := fun y hy z hz => T.j.good z (lv_ins T hy z hz)
  refine map_run rowT (fun y => kinB f y (s :: p)) rowT (lv ([], s, Lr s p)) [] (fun y hy => ⟨[some (.v (rowT (s :: p))), some (.v (.int ((f : Nat) : Int))), some (.v (.list ((lv ([], s, Lr s p)).map rowT))), t3, t4, t5, t6, t7, t8, t9, t10, t11, t12, none, some (.v (rowT y))], rfl, rfl, fun K1 hK => ?_, fun K2 hK => hK⟩) (by rw [List.length_nil]; omega) ?_
  · have hy2 := lv_long T hy
    exact ⟨y, f, rfl, by omega, hf, by omega, s :: p, f, rfl, by omega, hf, hf2, _, eqD_cut (gy y hy) T.j.good, _, rfl, hK⟩
  · rw [List.nil_append]
    refine ⟨by show 1 ≤ lim; decide, .bool (toldQ (s :: p) f), ?_, q⟩
    have := eqD_rowsL (a := (lv ([], s, Lr s p)).filter fun y => kinB f y (s :: p)) (b := [s :: p]) (fun y hy => gy y (List.mem_filter.mp hy).1) (fun y hy => by rw [List.mem_singleton.mp hy]; exact T.j.good)
    rw [alone_told T hf hf2] at this
    exact this
noncomputable def gotW (s : Str) (p : List Str) (f : Nat) : List D := [.bool (toldQ (s :: p) f), crsD (crsOf (f - 1) (s :: p)), twD (s :: p) (f - 1)]
theorem hw0 (hf : 2 ≤ f) (hf2 : f ≤ (s :: p).length + 1) : heardW (s :: p) f 0 = .bool (toldQ (s :: p) f) ∧ heardW (s :: p) f 1 = crsD (crsOf (f - 1) (s :: p)) ∧ heardW (s :: p) f 2 = twD (s :: p) (f - 1) := by
  unfold heardW
  simp only [if_pos (show 2 ≤ f ∧ f ≤ (s :: p).length + 1 from ⟨hf, hf2⟩)]
  exact ⟨rfl, rfl, rfl⟩
theorem s67_2_ok (T : T76 s p) (h9 : (s :: p).length ≤ 9) (hf : 2 ≤ f) (hf2 : f ≤ (s :: p).length + 1) (q : e.nx (vS67 s p f t3 (some (.own (.list (gotW s p f)))) t5 t6 t7 t8 t9 t10 t11 t12) n) : s67_2 (vS67 s p f t3 t4 t5 t6 t7 t8 t9 t10 t11 t12) n e := by
  obtain ⟨w0, w1, w2⟩ := hw0 (s := s) (p := p) hf hf2
  refine ⟨by show 3 ≤ lim; decide, [.int 0, .int 1, .int 2], rfl, ?_⟩
  show cLcL _ _ _ _ ([0, 1, 2].map fun i : Nat => PyData.int ((i : Nat) : Int)) (vS67 s p f t3 t4 t5 t6 t7 t8 t9 t10 t11 t12) n [] _
  refine map_run (fun i : Nat => PyData.int ((i : Nat) : Int)) (fun _ => true) (fun i => heardW (s :: p) f i) [0, 1, 2] [] (fun i hi => ⟨[some (.v (rowT (s :: p))), some (.v (.int ((f : Nat) : Int))), some (.v (.list ((lv ([], s, Lr s p)).map rowT))), t3, t4, t5, t6, t7, t8, t9, t10, t11, t12, some (.v (.int ((i : Nat) : Int))), none], rfl, rfl, fun K1 hK => hK, fun K2 hK => ?_⟩) (by decide) ?_
  · refine ⟨rowT (s :: p), s :: p, f, i, rfl, rfl, T.j.good, by omega, fun _ => ?_, hK⟩
    simp only [List.mem_cons, List.not_mem_nil, or_false] at hi
    omega
  · have eg : ([] ++ ([0, 1, 2].filter fun _ => true).map fun i => heardW (s :: p) f i) = gotW s p f := by
      show [heardW (s :: p) f 0, heardW (s :: p) f 1, heardW (s :: p) f 2] = _
      rw [w0, w1, w2]
      rfl
    rw [eg]
    exact ⟨by show 4 < 15; decide, q⟩
theorem isN_crs (hf : 2 ≤ f) : isN (crsD (crsOf (f - 1) (s :: p))) .none = some (.bool (toldQ (s :: p) f)) ∧ isN (twD (s :: p) (f - 1)) .none = some (.bool (toldQ (s :: p) f)) := by
  by_cases no : ∃ a b c d, Crs (f - 1) (s :: p) a b c d
  · have : toldQ (s :: p) f = false := toldQ_f fun t => t no
    rw [this]
    obtain ⟨a, b, c, d, k⟩ := crsF_ex no
    unfold twD
    rw [crsOf_some k]
    exact ⟨rfl, rfl⟩
  · have : toldQ (s :: p) f = true := toldQ_t no
    rw [this]
    unfold twD
    rw [crsOf_none no]
    exact ⟨rfl, rfl⟩
theorem s67_3_ok (hf : 2 ≤ f) (q : e.nx (vS67 s p f (some (.v (.bool (toldQ (s :: p) f)))) (some (.v (.list (gotW s p f)))) t5 t6 t7 t8 t9 t10 t11 t12) n) : s67_3 (vS67 s p f (some (.v (.bool (toldQ (s :: p) f)))) (some (.own (.list (gotW s p f)))) t5 t6 t7 t8 t9 t10 t11 t12) n e := by
  obtain ⟨i1, i2⟩ := isN_crs (s := s) (p := p) hf
  refine ⟨.bool (toldQ (s :: p) f), atI_zero _ _, .bool (toldQ (s :: p) f), rfl, trivial, true, rfl, ?_⟩
  refine ⟨1, rfl, .list [crsD (crsOf (f - 1) (s :: p)), twD (s :: p) (f - 1)], ?_, [crsD (crsOf (f - 1) (s :: p)), twD (s :: p) (f - 1)], rfl, ?_⟩
  · show some (PyData.list (cutL (gotW s p f) (some 1) none)) = _
    rw [cutL_tail]
    rfl
  refine ⟨[some (.v (rowT (s :: p))), some (.v (.int ((f : Nat) : Int))), some (.v (.list ((lv ([], s, Lr s p)).map rowT))), some (.v (.bool (toldQ (s :: p) f))), some (.v (.list (gotW s p f))), t5, t6, t7, t8, t9, t10, t11, t12, none, some (.v (crsD (crsOf (f - 1) (s :: p))))], rfl, .bool (toldQ (s :: p) f), i1, (by decide : (0 : Nat) < lim), ?_⟩
  refine ⟨[some (.v (rowT (s :: p))), some (.v (.int ((f : Nat) : Int))), some (.v (.list ((lv ([], s, Lr s p)).map rowT))), some (.v (.bool (toldQ (s :: p) f))), some (.v (.list (gotW s p f))), t5, t6, t7, t8, t9, t10, t11, t12, none, some (.v (twD (s :: p) (f - 1)))], rfl, .bool (toldQ (s :: p) f), i2, (by decide : (1 : Nat) < lim), ?_⟩
  refine ⟨by show 2 ≤ lim; decide, .bool false, neD_boolsL [toldQ (s :: p) f, toldQ (s :: p) f], _, rfl, q⟩
theorem s67_4_ok (h9 : (s :: p).length ≤ 9) (q : e.nx (vS67 s p f t3 t4 (some (.v (.list (strD (s :: p))))) t6 t7 t8 t9 t10 t11 t12) n) : s67_4 (vS67 s p f t3 t4 t5 t6 t7 t8 t9 t10 t11 t12) n e := by
  refine ⟨rowT (s :: p), rfl, okS_row 1 _ (by omega), ?_⟩
  rw [lists_row]
  exact q
theorem s67_5_ok (T : T76 s p) (h9 : (s :: p).length ≤ 9) (hf : 2 ≤ f) (hf2 : f ≤ (s :: p).length + 1) (q : e.nx (vS67 s p f t3 (some (.v (.list (gotW s p f)))) (some (.v (.list (strD (s :: p))))) t6 t7 t8 t9 t10 t11 t12) n) : s67_5 (vS67 s p f t3 (some (.v (.list (gotW s p f)))) (some (.v (.list (strD (s :: p))))) t6 t7 t8 t9 t10 t11 t12) n e := by
  obtain ⟨w0, w1, w2⟩ := hw0 (s := s) (p := p) hf hf2
  refine ⟨.list (strD (s :: p)), s :: p, f, 1, rfl, rfl, T.j.good, by omega, fun _ => by omega, ?_⟩
  refine ⟨.list (strD (s :: p)), s :: p, f, 2, rfl, rfl, T.j.good, by omega, fun _ => by omega, ?_⟩
  rw [w1, w2]
  refine ⟨by show 2 ≤ lim; decide, 1, rfl, .list [crsD (crsOf (f - 1) (s :: p)), twD (s :: p) (f - 1)], ?_, .list [crsD (crsOf (f - 1) (s :: p)), twD (s :: p) (f - 1)], rfl, ⟨by show 2 ≤ 1000; decide, fun d hd => ?_⟩, true, rfl, q⟩
  · show some (PyData.list (cutL (gotW s p f) (some 1) none)) = _
    rw [cutL_tail]
    rfl
  · rcases List.mem_cons.mp hd with rfl | hd
    · exact okS_crs _ _
    · rw [List.mem_singleton.mp hd]
      exact okS_tw _ (by omega)
theorem s67_rest (T : T76 s p) (h9 : (s :: p).length ≤ 9) (hf : 2 ≤ f) (hf2 : f ≤ (s :: p).length + 1) (q : e.rt (.bool true) n) : (cSq s67_6 (cSq s67_7 (cSq s67_8 (cSq s67_9 (cSq s67_10 (cSq s67_11 (cSq s67_12 s67_13))))))) (vS67 s p f (some (.v (.bool (toldQ (s :: p) f)))) (some (.v (.list (gotW s p f)))) t5 t6 t7 t8 t9 t10 t11 t12) n e := by
  have h5 : (100000 : Nat) ≤ lim := by decide
  refine ⟨toldQ (s :: p) f, rfl, ?_⟩
  by_cases no : ∃ a b c d, Crs (f - 1) (s :: p) a b c d
  rotate_left
  · rw [toldQ_t no]
    exact q
  obtain ⟨a, b, c, d, k⟩ := crsF_ex no
  rw [toldQ_f (fun t => t no)]
  have eg : gotW s p f = [.bool (toldQ (s :: p) f), .tuple [.int (a : Nat), .int (b : Nat), .int (c : Nat), .int (d : Nat)], rowT (twinL (s :: p) a b c d)] := by
    unfold gotW twD
    rw [crsOf_some k]
    rfl
  rw [eg]
  have C := k.k
  have h1 := C.ab
  have h2 := C.bc
  have h3 := C.cd
  have h4 := C.le
  obtain ⟨kin, tne⟩ := crs_twin C
  have tin : twinL (s :: p) a b c d ∈ lv ([], s, Lr s p) := lv_kin T (by omega) (by omega) kin
  have gt : ∀ y ∈ twinL (s :: p) a b c d, GoodS y := fun y hy => T.j.good y (lv_ins T tin y hy)
  have tl := twin_len C
  generalize htw : twinL (s :: p) a b c d = tw at *
  refine ⟨_, rfl, _, rfl, _, _, rfl, ?_⟩
  refine ⟨rfl, .tuple [.int (a : Nat), .int (b : Nat), .int (c : Nat), .int (d : Nat)], "tuple", rfl, rfl, true, rfl, ?_⟩
  refine ⟨[.int (a : Nat), .int (b : Nat), .int (c : Nat), .int (d : Nat)], rfl, ?_⟩
  show cLcL _ _ _ _ ([a, b, c, d].map fun i : Nat => PyData.int ((i : Nat) : Int)) _ n [] _
  refine map_run (fun i : Nat => PyData.int ((i : Nat) : Int)) (fun _ => true) (fun _ => .bool true) [a, b, c, d] [] (fun i hi => ⟨_, rfl, rfl, fun K1 hK => hK, fun K2 hK => ⟨rfl, _, _, rfl, rfl, hK⟩⟩) (by show 4 ≤ lim; decide) ?_
  refine ⟨by show 1 ≤ lim; decide, .list [.bool true, .bool true, .bool true, .bool true], rfl, .bool false, neD_boolsL [true, true, true, true], _, rfl, ?_⟩
  refine ⟨rfl, rowT tw, "tuple", rfl, rfl, true, rfl, ?_⟩
  refine ⟨_, eqD_rowT gt T.j.good, _, rfl, ?_⟩
  rw [decide_eq_false (show ¬ tw = s :: p from tne)]
  have kb : kinB f tw (s :: p) = true := (kin_of hf tl).mpr kin.symm
  refine ⟨tw, f, rfl, by omega, hf, by omega, s :: p, f, rfl, by omega, hf, hf2, .bool false, by rw [neD_cut gt T.j.good, kb]; rfl, _, rfl, ?_⟩
  refine ⟨_, rfl, ?_⟩
  have t1 := tk_len (s :: p) c (d - c)
  have t2 := tk_len (s :: p) b (c - b)
  have t3' := tk_len (s :: p) a (b - a)
  have t4' : ((s :: p).drop d).length ≤ (s :: p).length := by rw [List.length_drop]; omega
  have t5' : ((s :: p).take a).length ≤ (s :: p).length := by rw [List.length_take]; omega
  refine ⟨((a : Nat) : Int), rfl, _, slice_take (by omega), ?_⟩
  refine ⟨((c : Nat) : Int), rfl, ((d : Nat) : Int), rfl, _, midT (by omega) (by omega), _, catS (by omega), ?_⟩
  refine ⟨((b : Nat) : Int), rfl, ((c : Nat) : Int), rfl, _, midT (by omega) (by omega), _, catS (by rw [List.length_append]; omega), ?_⟩
  refine ⟨((a : Nat) : Int), rfl, ((b : Nat) : Int), rfl, _, midT (by omega) (by omega), _, catS (by rw [List.length_append, List.length_append]; omega), ?_⟩
  refine ⟨((d : Nat) : Int), rfl, _, dropT (by omega), _, catS (by rw [List.length_append, List.length_append, List.length_append]; omega), ?_⟩
  have e1 : (((((s :: p).take a ++ ((s :: p).drop c).take (d - c)) ++ ((s :: p).drop b).take (c - b)) ++ ((s :: p).drop a).take (b - a)) ++ (s :: p).drop d) = tw := by
    rw [← htw]
    unfold twinL
    simp only [List.append_assoc]
  rw [e1]
  refine ⟨s :: p, f, a, b, c, d, rfl, T.j.good, by omega, hf, C, ?_⟩
  refine ⟨true, rfl, ?_⟩
  rw [if_pos rfl]
  have gl : ∀ w ∈ lv ([], s, Lr s p), ∀ y ∈ w, GoodS y := fun w hw y hy => T.j.good y (lv_ins T hw y hy)
  refine ⟨.bool true, by rw [inD_rows67 gt gl, decide_eq_true tin], true, rfl, ?_⟩
  rw [if_pos rfl]
  refine ⟨.bool true, by rw [neD_rows gt T.j.good, decide_eq_false (show ¬ tw = s :: p from tne)]; rfl, q⟩
end
theorem himp_size67 {e : EndsD} (ds : List D) (n : Nat) (k : D → Nat → Prop) (ke : Xv → Nat → Prop) (hh : sdSize67 ds n k ke) (he : e.rt = k) : cs_size67 (startE n_size67 ds) n e := by
  obtain ⟨s, p, f, rfl, T, h9, h200, hf, hf2, q⟩ := hh
  subst he
  refine s67_1_ok (t3 := none) (t4 := none) (t5 := none) (t6 := none) (t7 := none) (t8 := none) (t9 := none) (t10 := none) (t11 := none) (t12 := none) T h9 h200 hf hf2 ?_
  refine s67_2_ok T h9 hf hf2 ?_
  refine s67_3_ok hf ?_
  refine s67_4_ok h9 ?_
  refine s67_5_ok T h9 hf hf2 ?_
  exact s67_rest T h9 hf hf2 q
/-! ### k67: the turn -/
abbrev n_right67 : List Str := ["_law_box_here", "_law_row_so", "_law_all_so", "_law_last_so", "_law_far"]
def r67_1 : CS := cSet 1 (cCall sdWalkB (cCons (cVar 0) (cCons (cCall sdTags (cCons (cVar 0) (cCons (cOp addD (cC (.int 2)) (cCall sdTake (cCons (cVar 0) (cCons (cC (.int 3)) (cNil))))) (cNil)))) (cCons (cC (.int 8)) (cNil)))))
def r67_2 : CS := cSet 2 (cCall sdAllB (cCons (cOp atD (cVar 1) (cC (.int 0))) (cCons (cCall sdTally (cCons (cVar 1) (cNil))) (cNil))))
def r67_3 : CS := cIfS (cB (cOp gtD (cCB gLen (cCons (cVar 2) (cNil))) (cC (.int 200)))) (cRet (cC (.bool true))) (cNext)
def r67_4 : CS := cSet 3 (cCB (fun ds z => gMin2 ds z ∨ gMin1 ds z) (cCons (cC (.int 5)) (cCons (cOp addD (cCB gLen (cCons (cVar 1) (cNil))) (cC (.int 1))) (cNil))))
def r67_5 : CS := cRet (cCB gAll (cCons (cLc (cRange2 (cCons (cC (.int 2)) (cCons (cOp addD (cVar 3) (cC (.int 1))) (cNil)))) (stN 4) (cYes) (cCall sdSize67 (cCons (cVar 1) (cCons (cVar 4) (cCons (cVar 2) (cNil))))) [4]) (cNil)))
def cs_right67 : CS := cSq r67_1 (cSq r67_2 (cSq r67_3 (cSq r67_4 r67_5)))
theorem all_trueN (l : List Nat) : gAll [.list (l.map fun _ => PyData.bool true)] (.bool true) := by
  refine ⟨l.map fun _ => true, ?_, ?_⟩
  · unfold boolsD
    rw [List.map_map]
    rfl
  · rw [List.all_map]
    congr 1
    exact (List.all_eq_true.mpr fun x _ => rfl).symm
theorem himp_right67 {e : EndsD} (ds : List D) (n : Nat) (k : D → Nat → Prop) (ke : Xv → Nat → Prop) (h : sdRightN 500000 3000 ds n k ke) (he : e.rt = k) : cs_right67 (startE n_right67 ds) n e := by
  obtain ⟨rfl, hn, q⟩ := h
  subst he
  have h5 : (100000 : Nat) ≤ lim := by decide
  refine ⟨3, rfl, by omega, by decide, by decide, fun r r0 r1 => ⟨.int (2 + r), rfl, 2 + r, rfl, by omega, by omega, by omega, fun ss n1 h1 h2 h3 h4 => ⟨ss, 8, rfl, h2, by omega, by omega, fun s hs => tag_good s (h3 s hs), by omega, by decide, by decide, fun a z row n2 w hl hn2 => ?_⟩⟩⟩
  have e9 : (8 : Int).toNat = 8 := rfl
  obtain ⟨p, rfl, T⟩ := t76_of w h3 (by omega)
  have h9 : (a :: p).length ≤ 9 := by omega
  have l1 := T.len
  have hnn := nn_five (ss := ss) (T.r.pc.gs) T.r.pc.cn (by omega) (fun t ht => by
    have := pairs_in a p _ (T.r.sub _ (List.mem_map_of_mem ht))
    exact ⟨w.ins _ this.1, w.ins _ this.2⟩) (by rw [List.length_cons] at h9; omega)
  refine ⟨.str a, atI_zero _ _, a :: p, rfl, T.j.good, by omega, a, Lr a p, rfl, T.r.pc.gs, T.r.pc.cn, by rw [List.length_cons] at h9; omega, hnn, ?_⟩
  refine ⟨_, ⟨_, _, rfl, rfl, rfl⟩, .bool (decide (200 < (lv ([], a, Lr a p)).length)), ?_, _, rfl, ?_⟩
  · show some (PyData.bool (decide ((200 : Int) < ((((lv ([], a, Lr a p)).map rowT).length : Nat) : Int)))) = _
    congr 2
    rw [List.length_map]
    exact decide_eq_decide.mpr (by omega)
  by_cases c : 200 < (lv ([], a, Lr a p)).length
  · rw [decide_eq_true c]
    exact q n2 (by omega)
  rw [decide_eq_false c]
  have hll := len_strD (a :: p)
  have sz : ∃ M : Nat, (if (((strD (a :: p)).length : Nat) : Int) + 1 < 5 then (((strD (a :: p)).length : Nat) : Int) + 1 else 5) = ((M : Nat) : Int) ∧ M ≤ (a :: p).length + 1 ∧ 2 ≤ M := by
    have : 1 ≤ (a :: p).length := by rw [List.length_cons]; omega
    split
    · exact ⟨(a :: p).length + 1, by rw [hll]; omega, Nat.le_refl _, by omega⟩
    · rename_i hz
      rw [hll] at hz
      exact ⟨5, rfl, by omega, by omega⟩
  obtain ⟨M, em, M1, M2⟩ := sz
  refine ⟨_, ⟨_, _, rfl, rfl, rfl⟩, _, rfl, .int ((M : Nat) : Int), .inl ⟨_, _, rfl, by rw [← em]⟩, ?_⟩
  refine ⟨_, rfl, _, _, rfl, ⟨by omega, by omega, by omega, by omega⟩, ?_⟩
  have en : ((((M : Nat) : Int) + 1) - 2).toNat = M - 1 := by omega
  unfold rangeD
  rw [en]
  show cLcL _ _ _ _ _ [some (.v boxD), some (.v (rowT (a :: p))), some (.v (.list ((lv ([], a, Lr a p)).map rowT))), some (.v (.int ((M : Nat) : Int))), none] n2 [] _
  refine map_run (fun i : Nat => PyData.int (2 + ((i : Nat) : Int))) (fun _ => true) (fun _ => .bool true) (List.range (M - 1)) [] (fun i hi => ⟨[some (.v boxD), some (.v (rowT (a :: p))), some (.v (.list ((lv ([], a, Lr a p)).map rowT))), some (.v (.int ((M : Nat) : Int))), some (.v (.int (2 + ((i : Nat) : Int))))], rfl, rfl, fun K1 hK => hK, fun K2 hK => ?_⟩) (by rw [List.length_nil, List.length_range]; omega) ?_
  · have hi := List.mem_range.mp hi
    exact ⟨a, p, i + 2, by rw [show (2 : Int) + ((i : Nat) : Int) = ((i + 2 : Nat) : Int) by omega], T, h9, by omega, by omega, by omega, hK⟩
  · rw [filter_true, List.nil_append]
    exact ⟨_, all_trueN _, q n2 (by omega)⟩
end RM
namespace RM
open PySem PySem.Spec PyProof.Rows L2 CS RZ
/-! ### k67 by hand -/
def crsB (m : Nat) (x : List Str) (a b c d : Nat) : Bool := decide (a < b) && (decide (b ≤ c) && (decide (c < d) && (decide (d + m ≤ x.length) && (decide (nodeL m a x = nodeL m c x) && (decide (nodeL m b x = nodeL m d x) && decide (x[a + m]? ≠ x[c + m]?))))))
theorem crsB_iff {m : Nat} {x : List Str} {a b c d : Nat} : crsB m x a b c d = true ↔ Crs m x a b c d := by
  unfold crsB
  simp only [Bool.and_eq_true, decide_eq_true_eq]
  exact ⟨fun ⟨h1, h2, h3, h4, h5, h6, h7⟩ => ⟨h1, h2, h3, h4, h5, h6, h7⟩, fun h => ⟨h.ab, h.bc, h.cd, h.le, h.ac, h.bd, h.ne⟩⟩
def crsK (m : Nat) (x : List Str) (a b c d : Nat) : Bool :=
  crsB m x a b c d && (((List.range c).all fun c' => (List.range x.length).all fun a' => (List.range x.length).all fun b' => (List.range (x.length + 1)).all fun d' => !crsB m x a' b' c' d') &&
  (((List.range x.length).all fun a' => decide (a' ≤ a) || (List.range x.length).all fun b' => (List.range (x.length + 1)).all fun d' => !crsB m x a' b' c d') &&
  (((List.range b).all fun b' => decide (b' ≤ a) || (List.range (x.length + 1)).all fun d' => decide (d' ≤ c) || (decide (x.length < d' + m) || decide (nodeL m b' x ≠ nodeL m d' x))) &&
  ((List.range (x.length + 1)).all fun d' => decide (d' ≤ d) || (decide (x.length < d' + m) || decide (nodeL m b x ≠ nodeL m d' x))))))
theorem crsK_ok {m : Nat} {x : List Str} {a b c d : Nat} (h : crsK m x a b c d = true) : CrsF m x a b c d := by
  unfold crsK at h
  simp only [Bool.and_eq_true, List.all_eq_true, List.mem_range, Bool.or_eq_true, decide_eq_true_eq, Bool.not_eq_true'] at h
  obtain ⟨h1, h2, h3, h4, h5⟩ := h
  have k := crsB_iff.mp h1
  refine ⟨k, fun a' b' c' d' z => Nat.le_of_not_lt fun y => ?_, fun a' b' d' z => Nat.le_of_not_lt fun y => ?_, fun b' d' z1 z2 z3 z4 z5 => Nat.le_of_not_lt fun y => ?_, fun d' z1 z2 => Nat.le_of_not_lt fun y => ?_⟩
  · have g1 := z.ab
    have g2 := z.bc
    have g3 := z.cd
    have g4 := z.le
    have := h2 c' y a' (by omega) b' (by omega) d' (by omega)
    rw [crsB_iff.mpr z] at this
    cases this
  · have g1 := z.ab
    have g2 := z.bc
    have g3 := z.cd
    have g4 := z.le
    rcases h3 a' (by omega) with g | g
    · omega
    · have := g b' (by omega) d' (by omega)
      rw [crsB_iff.mpr z] at this
      cases this
  · rcases h4 b' y with g | g
    · omega
    · rcases g d' (by omega) with g | g | g
      · omega
      · omega
      · exact g z5
  · rcases h5 d' (by omega) with g | g | g
    · omega
    · omega
    · exact g z2
theorem told_calc {x : List Str} {M f : Nat} (h1 : (M == 0 || exB x M) = true) (h2 : exB x (M + 1) = false) (hf : 2 ≤ f) : toldQ x f = decide (M + 2 ≤ f) := by
  rw [toldQ_eq hf, most_calc h1 h2]
theorem crs_calc {x : List Str} (h2 : exB x 1 = false) : crsOf 1 x = none := by
  refine crsOf_none fun h => ?_
  have := (most_is x 1 (by omega)).mpr h
  rw [most_calc (M := 0) rfl h2] at this
  omega
abbrev trip67 : List Str := ["a", "b", "a", "c", "a"]
abbrev ring67 : List Str := ["a", "b", "a", "b", "a", "b", "a"]
abbrev n_by_hand67 : List Str := ["_law_got", "_law_due", "_law_door", "_law_trip", "_law_ring_so"]
noncomputable def h67_1 : CS := cAsg (stT (stCons (stN 3) (stCons (stN 4) (stNil)))) (cTup (cCons (cTup (cCons (cC (.str "a")) (cCons (cC (.str "b")) (cCons (cC (.str "a")) (cCons (cC (.str "c")) (cCons (cC (.str "a")) (cNil))))))) (cCons (cTup (cCons (cC (.str "a")) (cCons (cC (.str "b")) (cCons (cC (.str "a")) (cCons (cC (.str "b")) (cCons (cC (.str "a")) (cCons (cC (.str "b")) (cCons (cC (.str "a")) (cNil))))))))) (cNil))))
noncomputable def h67_2 : CS := cOwn 0 (cLst (cCons (cCall sdCrossBy (cCons (cVar 3) (cCons (cC (.int 2)) (cNil)))) (cCons (cCall sdTwinBy (cCons (cVar 3) (cCons (cC (.int 2)) (cNil)))) (cCons (cCall sdToldBy (cCons (cVar 3) (cCons (cC (.int 2)) (cNil)))) (cNil)))))
noncomputable def h67_3 : CS := cOwn 0 (cAddF (cVar 0) (cLst (cCons (cCallP 2 [1, 0] sdToldBy (cCons (cC (.int 3)) (cCons (cVar 3) (cNil)))) (cNil))))
noncomputable def h67_4 : CS := cSet 1 (cLst (cCons (cTup (cCons (cC (.int 0)) (cCons (cC (.int 2)) (cCons (cC (.int 2)) (cCons (cC (.int 4)) (cNil)))))) (cCons (cTup (cCons (cC (.str "a")) (cCons (cC (.str "c")) (cCons (cC (.str "a")) (cCons (cC (.str "b")) (cCons (cC (.str "a")) (cNil))))))) (cCons (cC (.bool false)) (cCons (cC (.bool true)) (cNil))))))
noncomputable def h67_5 : CS := cOwn 0 (cAddF (cVar 0) (cLst (cCons (cCall sdToldBy (cCons (cVar 4) (cCons (cC (.int 2)) (cNil)))) (cCons (cCall sdCrossBy (cCons (cOp repTD (cTup (cCons (cC (.str "a")) (cCons (cC (.str "b")) (cCons (cC (.str "c")) (cNil))))) (cC (.int 3))) (cCons (cC (.int 2)) (cNil)))) (cNil)))))
noncomputable def h67_6 : CS := cOwn 0 (cAddF (cVar 0) (cLst (cCons (cCall sdTwinBy (cCons (cTup (cCons (cC (.str "a")) (cCons (cC (.str "b")) (cCons (cC (.str "c")) (cCons (cC (.str "b")) (cCons (cC (.str "a")) (cNil))))))) (cCons (cC (.int 2)) (cNil)))) (cNil))))
noncomputable def h67_7 : CS := cSet 1 (cOp addD (cVar 1) (cLst (cCons (cC (.bool true)) (cCons (cC .none) (cCons (cC .none) (cNil))))))
noncomputable def h67_8 : CS := cOwn 0 (cAddF (cVar 0) (cLst (cCons (cCall sdCrossBy (cCons (cTup (cCons (cC (.str "a")) (cCons (cC (.str "b")) (cCons (cC (.str "c")) (cCons (cC (.str "a")) (cCons (cC (.str "c")) (cNil))))))) (cCons (cC (.int 2)) (cNil)))) (cCons (cCall sdTwinBy (cCons (cTup (cCons (cC (.str "a")) (cCons (cC (.str "b")) (cCons (cC (.str "c")) (cCons (cC (.str "a")) (cCons (cC (.str "c")) (cNil))))))) (cCons (cC (.int 2)) (cNil)))) (cNil)))))
noncomputable def h67_9 : CS := cSet 1 (cOp addD (cVar 1) (cLst (cCons (cTup (cCons (cC (.int 0)) (cCons (cC (.int 2)) (cCons (cC (.int 3)) (cCons (cC (.int 4)) (cNil)))))) (cCons (cTup (cCons (cC (.str "a")) (cCons (cC (.str "c")) (cCons (cC (.str "a")) (cCons (cC (.str "b")) (cCons (cC (.str "c")) (cNil))))))) (cNil)))))
noncomputable def h67_10 : CS := cOwn 0 (cAddF (cVar 0) (cLst (cCons (cCall sdToldBy (cCons (cTup (cCons (cC (.str "s")) (cCons (cC (.str "w")) (cCons (cC (.str "z")) (cCons (cC (.str "v")) (cCons (cC (.str "z")) (cCons (cC (.str "s")) (cCons (cC (.str "e")) (cNil))))))))) (cCons (cC (.int 2)) (cNil)))) (cCons (cCall sdToldBy (cCons (cTup (cCons (cC (.str "q")) (cNil))) (cCons (cC (.int 2)) (cNil)))) (cNil)))))
noncomputable def h67_11 : CS := cOwn 0 (cAddF (cVar 0) (cLst (cCons (cCall sdToldBy (cCons (cVar 3) (cCons (cC (.int 6)) (cNil)))) (cNil))))
noncomputable def h67_12 : CS := cSet 1 (cOp addD (cVar 1) (cLst (cCons (cC (.bool true)) (cCons (cC (.bool true)) (cCons (cC (.bool true)) (cNil))))))
noncomputable def h67_13 : CS := cFor (cRange1 (cCons (cC (.int 5)) (cNil))) (stN 2) (cOwn 0 (cAddF (cVar 0) (cLst (cCons (cCall sdHeard67 (cCons (cVar 2) (cCons (cVar 3) (cCons (cC (.int 7)) (cNil))))) (cCons (cCall sdHeard67 (cCons (cVar 2) (cCons (cVar 3) (cCons (cC (.int 1)) (cNil))))) (cNil))))))
noncomputable def h67_14 : CS := cDrop (cApp 0 (cCall sdHeard67 (cCons (cC (.int 3)) (cCons (cTup (cCons (cC (.str "q")) (cNil))) (cCons (cC (.int 3)) (cNil))))))
noncomputable def h67_15 : CS := cRet (cCall sdSame (cCons (cVar 0) (cCons (cOp addD (cOp addD (cVar 1) (cOp repD (cLst (cCons (cLst (cCons (cC (.str "size")) (cCons (cC (.int 7)) (cNil)))) (cCons (cLst (cCons (cC (.str "size")) (cCons (cC (.int 1)) (cNil)))) (cNil)))) (cC (.int 5)))) (cLst (cCons (cLst (cCons (cC (.str "size")) (cCons (cC (.int 3)) (cNil)))) (cNil)))) (cNil))))
noncomputable def cs_by_hand67 : CS := cSq h67_1 (cSq h67_2 (cSq h67_3 (cSq h67_4 (cSq h67_5 (cSq h67_6 (cSq h67_7 (cSq h67_8 (cSq h67_9 (cSq h67_10 (cSq h67_11 (cSq h67_12 (cSq h67_13 (cSq h67_14 h67_15)))))))))))))
abbrev sz67 (f : Nat) : D := .list [.str "size", .int ((f : Nat) : Int)]
abbrev g67_1 : List D := [.tuple [.int 0, .int 2, .int 2, .int 4], rowT ["a", "c", "a", "b", "a"], .bool false]
abbrev g67_2 : List D := g67_1 ++ [.bool true]
abbrev g67_3 : List D := g67_2 ++ [.bool true, .none]
abbrev g67_4 : List D := g67_3 ++ [.none]
abbrev g67_5 : List D := g67_4 ++ [.tuple [.int 0, .int 2, .int 3, .int 4], rowT ["a", "c", "a", "b", "c"]]
abbrev g67_6 : List D := g67_5 ++ [.bool true, .bool true]
abbrev g67_7 : List D := g67_6 ++ [.bool true]
abbrev z67 : List D := [sz67 7, sz67 1]
abbrev g67_8 : List D := ((((g67_7 ++ z67) ++ z67) ++ z67) ++ z67) ++ z67
abbrev g67_9 : List D := g67_8 ++ [sz67 3]
theorem good67 {x : List Str} (h : (x.all fun y => (PyData.str y).canLay0) = true) : ∀ y ∈ x, GoodS y := fun y hy => List.all_eq_true.mp h y hy
theorem twD_some {x : List Str} {a b c d : Nat} (h : crsK 1 x a b c d = true) : twD x 1 = rowT (twinL x a b c d) := by
  unfold twD
  rw [crsOf_some (crsK_ok h)]
theorem twD_none {x : List Str} (h : exB x 1 = false) : twD x 1 = .none := by
  unfold twD
  rw [crs_calc h]
theorem hw67 {x : List Str} {f door : Nat} (h : ¬ (2 ≤ f ∧ f ≤ x.length + 1)) : heardW x f door = sz67 f := by
  unfold heardW
  rw [if_neg h]
section
variable {e : EndsD} {n : Nat} {t0 t1 t2 : Option Sl}
abbrev tr67 : Option Sl := some (.v (rowT trip67))
abbrev rg67 : Option Sl := some (.v (rowT ring67))
theorem h67_2_ok (q : e.nx [some (.own (.list g67_1)), t1, t2, tr67, rg67] n) : h67_2 [t0, t1, t2, tr67, rg67] n e := by
  refine ⟨rowT (trip67 : List Str), (trip67 : List Str), 2, rfl, rfl, good67 (x := trip67) (by decide +kernel), (by decide : (trip67 : List Str).length ≤ 60), ?_⟩
  rw [if_pos (show 2 ≤ (2 : Nat) ∧ (2 : Nat) ≤ (trip67 : List Str).length + 1 from by decide)]
  rw [show crsOf (2 - 1) (trip67 : List Str) = _ from crsOf_some (m := 1) (x := trip67) (a := 0) (b := 2) (c := 2) (d := 4) (crsK_ok (by decide +kernel))]
  refine ⟨rowT (trip67 : List Str), (trip67 : List Str), 2, rfl, rfl, good67 (x := trip67) (by decide +kernel), (by decide : (trip67 : List Str).length ≤ 60), ?_⟩
  rw [if_pos (show 2 ≤ (2 : Nat) ∧ (2 : Nat) ≤ (trip67 : List Str).length + 1 from by decide)]
  rw [show twD (trip67 : List Str) (2 - 1) = _ from twD_some (x := trip67) (a := 0) (b := 2) (c := 2) (d := 4) (by decide +kernel)]
  refine ⟨rowT (trip67 : List Str), (trip67 : List Str), 2, rfl, rfl, good67 (x := trip67) (by decide +kernel), (by decide : (trip67 : List Str).length ≤ 60), ?_⟩
  rw [if_pos (show 2 ≤ (2 : Nat) ∧ (2 : Nat) ≤ (trip67 : List Str).length + 1 from by decide)]
  rw [told_calc (x := trip67) (M := 1) (f := 2) (by decide +kernel) (by decide +kernel) (by decide)]
  refine ⟨(by decide : 3 ≤ lim), ?_⟩
  exact ⟨(by decide : (0 : Nat) < 5), q⟩
theorem h67_3_ok (q : e.nx [some (.own (.list g67_2)), t1, t2, tr67, rg67] n) : h67_3 [some (.own (.list g67_1)), t1, t2, tr67, rg67] n e := by
  refine ⟨rfl, ?_⟩
  refine ⟨rowT (trip67 : List Str), (trip67 : List Str), 3, rfl, rfl, good67 (x := trip67) (by decide +kernel), (by decide : (trip67 : List Str).length ≤ 60), ?_⟩
  rw [if_pos (show 2 ≤ (3 : Nat) ∧ (3 : Nat) ≤ (trip67 : List Str).length + 1 from by decide)]
  rw [told_calc (x := trip67) (M := 1) (f := 3) (by decide +kernel) (by decide +kernel) (by decide)]
  refine ⟨(by decide : 1 ≤ lim), ?_⟩
  exact ⟨_, _, rfl, rfl, (by decide : 3 + 1 ≤ lim), (by decide : (0 : Nat) < 5), q⟩
theorem h67_5_ok (q : e.nx [some (.own (.list g67_3)), t1, t2, tr67, rg67] n) : h67_5 [some (.own (.list g67_2)), t1, t2, tr67, rg67] n e := by
  refine ⟨rowT (ring67 : List Str), (ring67 : List Str), 2, rfl, rfl, good67 (x := ring67) (by decide +kernel), (by decide : (ring67 : List Str).length ≤ 60), ?_⟩
  rw [if_pos (show 2 ≤ (2 : Nat) ∧ (2 : Nat) ≤ (ring67 : List Str).length + 1 from by decide)]
  rw [told_calc (x := ring67) (M := 0) (f := 2) (by decide +kernel) (by decide +kernel) (by decide)]
  refine ⟨(by decide : _ ≤ lim), ?_⟩
  refine ⟨rowT (rep2 ["a", "b", "c"] 3), rfl, ?_⟩
  refine ⟨rowT (rep2 ["a", "b", "c"] 3 : List Str), (rep2 ["a", "b", "c"] 3 : List Str), 2, rfl, rfl, good67 (x := rep2 ["a", "b", "c"] 3) (by decide +kernel), (by decide : (rep2 ["a", "b", "c"] 3 : List Str).length ≤ 60), ?_⟩
  rw [if_pos (show 2 ≤ (2 : Nat) ∧ (2 : Nat) ≤ (rep2 ["a", "b", "c"] 3 : List Str).length + 1 from by decide)]
  rw [show crsOf (2 - 1) (rep2 ["a", "b", "c"] 3 : List Str) = _ from crs_calc (x := rep2 ["a", "b", "c"] 3) (by decide +kernel)]
  refine ⟨(by decide : 2 ≤ lim), ?_⟩
  exact ⟨_, _, rfl, rfl, (by decide : 4 + 2 ≤ lim), (by decide : (0 : Nat) < 5), q⟩
theorem h67_6_ok (q : e.nx [some (.own (.list g67_4)), t1, t2, tr67, rg67] n) : h67_6 [some (.own (.list g67_3)), t1, t2, tr67, rg67] n e := by
  refine ⟨(by decide : _ ≤ lim), ?_⟩
  refine ⟨rowT (["a", "b", "c", "b", "a"] : List Str), (["a", "b", "c", "b", "a"] : List Str), 2, rfl, rfl, good67 (x := ["a", "b", "c", "b", "a"]) (by decide +kernel), (by decide : (["a", "b", "c", "b", "a"] : List Str).length ≤ 60), ?_⟩
  rw [if_pos (show 2 ≤ (2 : Nat) ∧ (2 : Nat) ≤ (["a", "b", "c", "b", "a"] : List Str).length + 1 from by decide)]
  rw [show twD (["a", "b", "c", "b", "a"] : List Str) (2 - 1) = _ from twD_none (x := ["a", "b", "c", "b", "a"]) (by decide +kernel)]
  refine ⟨(by decide : 1 ≤ lim), ?_⟩
  exact ⟨_, _, rfl, rfl, (by decide : 6 + 1 ≤ lim), (by decide : (0 : Nat) < 5), q⟩
theorem h67_8_ok (q : e.nx [some (.own (.list g67_5)), t1, t2, tr67, rg67] n) : h67_8 [some (.own (.list g67_4)), t1, t2, tr67, rg67] n e := by
  refine ⟨(by decide : _ ≤ lim), ?_⟩
  refine ⟨rowT (["a", "b", "c", "a", "c"] : List Str), (["a", "b", "c", "a", "c"] : List Str), 2, rfl, rfl, good67 (x := ["a", "b", "c", "a", "c"]) (by decide +kernel), (by decide : (["a", "b", "c", "a", "c"] : List Str).length ≤ 60), ?_⟩
  rw [if_pos (show 2 ≤ (2 : Nat) ∧ (2 : Nat) ≤ (["a", "b", "c", "a", "c"] : List Str).length + 1 from by decide)]
  rw [show crsOf (2 - 1) (["a", "b", "c", "a", "c"] : List Str) = _ from crsOf_some (m := 1) (x := ["a", "b", "c", "a", "c"]) (a := 0) (b := 2) (c := 3) (d := 4) (crsK_ok (by decide +kernel))]
  refine ⟨(by decide : _ ≤ lim), ?_⟩
  refine ⟨rowT (["a", "b", "c", "a", "c"] : List Str), (["a", "b", "c", "a", "c"] : List Str), 2, rfl, rfl, good67 (x := ["a", "b", "c", "a", "c"]) (by decide +kernel), (by decide : (["a", "b", "c", "a", "c"] : List Str).length ≤ 60), ?_⟩
  rw [if_pos (show 2 ≤ (2 : Nat) ∧ (2 : Nat) ≤ (["a", "b", "c", "a", "c"] : List Str).length + 1 from by decide)]
  rw [show twD (["a", "b", "c", "a", "c"] : List Str) (2 - 1) = _ from twD_some (x := ["a", "b", "c", "a", "c"]) (a := 0) (b := 2) (c := 3) (d := 4) (by decide +kernel)]
  refine ⟨(by decide : 2 ≤ lim), ?_⟩
  exact ⟨_, _, rfl, rfl, (by decide : 7 + 2 ≤ lim), (by decide : (0 : Nat) < 5), q⟩
theorem h67_10_ok (q : e.nx [some (.own (.list g67_6)), t1, t2, tr67, rg67] n) : h67_10 [some (.own (.list g67_5)), t1, t2, tr67, rg67] n e := by
  refine ⟨(by decide : _ ≤ lim), ?_⟩
  refine ⟨rowT (["s", "w", "z", "v", "z", "s", "e"] : List Str), (["s", "w", "z", "v", "z", "s", "e"] : List Str), 2, rfl, rfl, good67 (x := ["s", "w", "z", "v", "z", "s", "e"]) (by decide +kernel), (by decide : (["s", "w", "z", "v", "z", "s", "e"] : List Str).length ≤ 60), ?_⟩
  rw [if_pos (show 2 ≤ (2 : Nat) ∧ (2 : Nat) ≤ (["s", "w", "z", "v", "z", "s", "e"] : List Str).length + 1 from by decide)]
  rw [told_calc (x := ["s", "w", "z", "v", "z", "s", "e"]) (M := 0) (f := 2) (by decide +kernel) (by decide +kernel) (by decide)]
  refine ⟨(by decide : _ ≤ lim), ?_⟩
  refine ⟨rowT (["q"] : List Str), (["q"] : List Str), 2, rfl, rfl, good67 (x := ["q"]) (by decide +kernel), (by decide : (["q"] : List Str).length ≤ 60), ?_⟩
  rw [if_pos (show 2 ≤ (2 : Nat) ∧ (2 : Nat) ≤ (["q"] : List Str).length + 1 from by decide)]
  rw [told_calc (x := ["q"]) (M := 0) (f := 2) (by decide +kernel) (by decide +kernel) (by decide)]
  refine ⟨(by decide : 2 ≤ lim), ?_⟩
  exact ⟨_, _, rfl, rfl, (by decide : 9 + 2 ≤ lim), (by decide : (0 : Nat) < 5), q⟩
theorem h67_11_ok (q : e.nx [some (.own (.list g67_7)), t1, t2, tr67, rg67] n) : h67_11 [some (.own (.list g67_6)), t1, t2, tr67, rg67] n e := by
  refine ⟨rowT (trip67 : List Str), (trip67 : List Str), 6, rfl, rfl, good67 (x := trip67) (by decide +kernel), (by decide : (trip67 : List Str).length ≤ 60), ?_⟩
  rw [if_pos (show 2 ≤ (6 : Nat) ∧ (6 : Nat) ≤ (trip67 : List Str).length + 1 from by decide)]
  rw [told_calc (x := trip67) (M := 1) (f := 6) (by decide +kernel) (by decide +kernel) (by decide)]
  refine ⟨(by decide : 1 ≤ lim), ?_⟩
  exact ⟨_, _, rfl, rfl, (by decide : 11 + 1 ≤ lim), (by decide : (0 : Nat) < 5), q⟩
theorem h67_13_step (door : Nat) {g : List D} (hg : g.length + 2 ≤ lim) (q : e.nx [some (.own (.list (g ++ z67))), t1, some (.v (.int ((door : Nat) : Int))), tr67, rg67] n) : (cOwn 0 (cAddF (cVar 0) (cLst (cCons (cCall sdHeard67 (cCons (cVar 2) (cCons (cVar 3) (cCons (cC (.int 7)) (cNil))))) (cCons (cCall sdHeard67 (cCons (cVar 2) (cCons (cVar 3) (cCons (cC (.int 1)) (cNil))))) (cNil)))))) [some (.own (.list g)), t1, some (.v (.int ((door : Nat) : Int))), tr67, rg67] n e := by
  refine ⟨rowT (trip67 : List Str), (trip67 : List Str), 7, door, rfl, rfl, good67 (x := trip67) (by decide +kernel), (by decide : (trip67 : List Str).length ≤ 60), fun z => absurd z (by decide), ?_⟩
  rw [hw67 (x := trip67) (f := 7) (door := door) (by decide)]
  refine ⟨rowT (trip67 : List Str), (trip67 : List Str), 1, door, rfl, rfl, good67 (x := trip67) (by decide +kernel), (by decide : (trip67 : List Str).length ≤ 60), fun z => absurd z (by decide), ?_⟩
  rw [hw67 (x := trip67) (f := 1) (door := door) (by decide)]
  refine ⟨(by decide : 2 ≤ lim), ?_⟩
  exact ⟨_, _, rfl, rfl, hg, (by decide : (0 : Nat) < 5), q⟩
theorem h67_13_ok (q : e.nx [some (.own (.list g67_8)), t1, some (.v (.int 4)), tr67, rg67] n) : h67_13 [some (.own (.list g67_7)), t1, t2, tr67, rg67] n e := by
  refine ⟨5, rfl, by decide, ?_⟩
  show cForL _ _ [.int 0, .int 1, .int 2, .int 3, .int 4] _ n e
  refine ⟨_, rfl, h67_13_step 0 (by decide) ?_⟩
  refine ⟨_, rfl, h67_13_step 1 (by decide) ?_⟩
  refine ⟨_, rfl, h67_13_step 2 (by decide) ?_⟩
  refine ⟨_, rfl, h67_13_step 3 (by decide) ?_⟩
  refine ⟨_, rfl, h67_13_step 4 (by decide) ?_⟩
  exact q
theorem h67_14_ok (q : e.nx [some (.own (.list g67_9)), t1, t2, tr67, rg67] n) : h67_14 [some (.own (.list g67_8)), t1, t2, tr67, rg67] n e := by
  refine ⟨⟨_, rfl⟩, ?_⟩
  refine ⟨(by decide : _ ≤ lim), ?_⟩
  refine ⟨rowT (["q"] : List Str), (["q"] : List Str), 3, 3, rfl, rfl, good67 (x := ["q"]) (by decide +kernel), (by decide : (["q"] : List Str).length ≤ 60), fun z => absurd z (by decide), ?_⟩
  rw [hw67 (x := ["q"]) (f := 3) (door := 3) (by decide)]
  exact ⟨_, rfl, (by decide : 22 < lim), q⟩
abbrev d67_1 : List D := [.tuple [.int 0, .int 2, .int 2, .int 4], rowT ["a", "c", "a", "b", "a"], .bool false, .bool true]
abbrev d67_2 : List D := d67_1 ++ [.bool true, .none, .none]
abbrev d67_3 : List D := d67_2 ++ [.tuple [.int 0, .int 2, .int 3, .int 4], rowT ["a", "c", "a", "b", "c"]]
abbrev d67_4 : List D := d67_3 ++ [.bool true, .bool true, .bool true]
theorem okS67 : okS 4 (.list g67_9) := by
  refine ⟨by decide, fun d hd => ?_⟩
  have h : ∀ d ∈ g67_9, d = .tuple [.int 0, .int 2, .int 2, .int 4] ∨ d = .tuple [.int 0, .int 2, .int 3, .int 4] ∨ d = rowT ["a", "c", "a", "b", "a"] ∨ d = rowT ["a", "c", "a", "b", "c"] ∨ d = .bool false ∨ d = .bool true ∨ d = .none ∨ ∃ f : Nat, d = sz67 f := by
    intro d hd
    simp only [g67_9, g67_8, g67_7, g67_6, g67_5, g67_4, g67_3, g67_2, g67_1, z67, List.append_assoc, List.cons_append, List.nil_append, List.mem_cons, List.not_mem_nil, or_false] at hd
    rcases hd with h | h | h | h | h | h | h | h | h | h | h | h | h | h | h | h | h | h | h | h | h | h | h <;> first | exact .inr (.inr (.inr (.inr (.inr (.inr (.inr ⟨7, h⟩)))))) | exact .inr (.inr (.inr (.inr (.inr (.inr (.inr ⟨1, h⟩)))))) | exact .inr (.inr (.inr (.inr (.inr (.inr (.inr ⟨3, h⟩)))))) | (simp [h]; done)
  have t4 : ∀ a b c d : Int, okS 3 (.tuple [.int a, .int b, .int c, .int d]) := fun a b c d => ⟨by show 4 ≤ 1000; decide, fun z hz => by
    simp only [List.mem_cons, List.not_mem_nil, or_false] at hz
    rcases hz with rfl | rfl | rfl | rfl <;> exact trivial⟩
  rcases h d hd with rfl | rfl | rfl | rfl | rfl | rfl | rfl | ⟨f, rfl⟩
  · exact t4 _ _ _ _
  · exact t4 _ _ _ _
  · exact okS_row 1 _ (by decide)
  · exact okS_row 1 _ (by decide)
  · exact trivial
  · exact trivial
  · exact trivial
  · exact ⟨by show 2 ≤ 1000; decide, fun z hz => by
      simp only [List.mem_cons, List.not_mem_nil, or_false] at hz
      rcases hz with rfl | rfl <;> exact trivial⟩
theorem h67_15_ok (q : e.rt (.bool true) n) : h67_15 [some (.own (.list g67_9)), some (.v (.list d67_4)), t2, tr67, rg67] n e := by
  refine ⟨(by decide : _ ≤ lim), ?_⟩
  refine ⟨(by decide : _ ≤ lim), ?_⟩
  refine ⟨(by decide : _ ≤ lim), ?_⟩
  refine ⟨.list [sz67 7, sz67 1, sz67 7, sz67 1, sz67 7, sz67 1, sz67 7, sz67 1, sz67 7, sz67 1], rfl, ?_⟩
  refine ⟨_, catL (by decide), ?_⟩
  refine ⟨(by decide : _ ≤ lim), ?_⟩
  refine ⟨(by decide : _ ≤ lim), ?_⟩
  refine ⟨_, catL (by decide), ?_⟩
  exact ⟨.list g67_9, rfl, okS67, q⟩
end
theorem himp_by_hand67 {e : EndsD} (ds : List D) (n : Nat) (k : D → Nat → Prop) (ke : Xv → Nat → Prop) (h : sdByHand39 ds n k ke) (he : e.rt = k) : cs_by_hand67 (startE n_by_hand67 ds) n e := by
  obtain ⟨rfl, q⟩ := h
  subst he
  refine ⟨(by decide : _ ≤ lim), ?_⟩
  refine ⟨(by decide : _ ≤ lim), ?_⟩
  refine ⟨(by decide : 2 ≤ lim), ?_⟩
  refine ⟨_, rfl, ?_⟩
  refine h67_2_ok (t0 := none) (t1 := none) (t2 := none) ?_
  refine h67_3_ok ?_
  refine ⟨(by decide : _ ≤ lim), ?_⟩
  refine ⟨(by decide : _ ≤ lim), ?_⟩
  refine ⟨(by decide : _ ≤ lim), ?_⟩
  refine h67_5_ok (t1 := some (.v (.list d67_1))) (t2 := none) ?_
  refine h67_6_ok ?_
  refine ⟨(by decide : _ ≤ lim), ?_⟩
  refine ⟨.list d67_2, catL (by decide), ?_⟩
  refine h67_8_ok (t1 := some (.v (.list d67_2))) (t2 := none) ?_
  refine ⟨(by decide : _ ≤ lim), ?_⟩
  refine ⟨(by decide : _ ≤ lim), ?_⟩
  refine ⟨(by decide : _ ≤ lim), ?_⟩
  refine ⟨.list d67_3, catL (by decide), ?_⟩
  refine h67_10_ok (t1 := some (.v (.list d67_3))) (t2 := none) ?_
  refine h67_11_ok ?_
  refine ⟨(by decide : _ ≤ lim), ?_⟩
  refine ⟨.list d67_4, catL (by decide), ?_⟩
  refine h67_13_ok (t1 := some (.v (.list d67_4))) (t2 := none) ?_
  refine h67_14_ok ?_
  exact h67_15_ok q
end RM
set_option maxHeartbeats 8000000
namespace K67
open PySem PySem.Spec PyProof.Rows L2 CS RM
def mem (i j : Nat) : Stmt := (clsBody (top i)).getD j (.Pass ⟨0, 0, 0, 0⟩)
section
variable {P : Program} {w : World} {K : PySem.W.Frag} {mg : Str → Option Value} {base : Heap} {g : Glob} {m : Nat}
abbrev n_is_number : List Str := ["thing"]
theorem sc_is_number : FnScope n_is_number ["thing"] (defScope (top 3)) := ⟨rfl, rfl, rfl, by decide +kernel, rfl, by decide +kernel, by decide +kernel⟩
theorem ok_is_number {f : Addr} {fd : FuncData} {k : Nat} (F : Fun K "is_number" "is_number" (top 3) f fd) (B : Bl mg) (hK : g.K = K)  : FnOk P w K mg base CX0 (k + 1) f fd ["thing"] (spD g sdIsNum) :=
  fnD (cs := cs_is_number) F sc_is_number (fun ds _ _ _ h => by obtain ⟨_, rfl, _⟩ := h; rfl) (fun cdv A outer s H E hr => pdss_one (pds_ret (pd_and (pd_isInt ⟨hK⟩ (pdq_nm 0) rfl B.int (by decide +kernel) rfl B.isinstance) (pd_one (pd_not (pd_isK1 ⟨hK⟩ (by decide +kernel) (pdq_nm 0) rfl B.bool (by decide +kernel) rfl B.isinstance)))))) (fun ds n k ke h => himp_is_number ds n k ke h rfl)
abbrev n_check_size : List Str := ["journey", "size"]
theorem sc_check_size : FnScope n_check_size ["journey", "size"] (defScope (top 5)) := ⟨rfl, rfl, rfl, by decide +kernel, rfl, by decide +kernel, by decide +kernel⟩
theorem ok_check_size {f : Addr} {fd : FuncData} {k : Nat} (F : Fun K "check_size" "check_size" (top 5) f fd) (B : Bl mg) (hK : g.K = K) {j : Nat} (lj : LtJ j k) (e_NoSize : HasE P w K mg base g j "NoSize" cNoSize ["self", "number"] ["number"]) : FnOk P w K mg base (L2.CX P w) (k + 1) f fd ["journey", "size"] (spD g sdCheckSizeX) :=
  fnDX (cs := cs_check_size) F sc_check_size (fun ds _ _ _ h => by obtain ⟨_, _, _, rfl, _⟩ := h; rfl) (fun cdv A outer s H E hr tk => pdss_one (pds_if (PDW.pdt (pdw_or (pdt_cmp od_lt ⟨hK⟩ (pd_var 1) (pd_int) (by first | exact nomark _ | rfl)) (pdw_or1 (pdt_cmp od_gt ⟨hK⟩ (pd_var 1) (pd_op od_add ⟨hK⟩ (pd_callB cd_len ⟨hK⟩ rfl B.len (by decide +kernel) (pda_cons (pd_var 0) (pda_nil))) (pd_int)) (by first | exact nomark _ | rfl))))) (pdss_one (pds_raiseH rfl e_NoSize tk hr lj (by rfl) (pda_cons (pd_var 1) (pda_nil)))) (pdss_nil))) (fun ds n k ke h => himp_check_sizeX ds n k ke h (fun _ _ h => h) (fun _ _ _ h => h))
abbrev n_cut : List Str := ["journey", "size", "at"]
theorem sc_cut : FnScope n_cut ["journey", "size"] (defScope (top 6)) := ⟨rfl, rfl, rfl, by decide +kernel, rfl, by decide +kernel, by decide +kernel⟩
theorem ok_cut {f : Addr} {fd : FuncData} {k : Nat} (F : Fun K "cut" "cut" (top 6) f fd) (B : Bl mg) (hK : g.K = K)  : FnOk P w K mg base CX0 (k + 1) f fd ["journey", "size"] (spD g sdCutW) :=
  fnD (cs := cs_cut) F sc_cut (fun ds _ _ _ h => by obtain ⟨_, _, _, rfl, _⟩ := h; rfl) (fun cdv A outer s H E hr => pdss_one (pds_ret (PDF.pd (pf_lc (own := [("at", 2)]) rfl sc_cut.nd (pdi_range1 rfl B.range (pda_cons (pd_op od_sub ⟨hK⟩ (pd_op od_add ⟨hK⟩ (pd_callB cd_len ⟨hK⟩ rfl B.len (by decide +kernel) (pda_cons (pd_var 0) (pda_nil))) (pd_int)) (pd_var 1)) (pda_nil))) (blkOk_by (own := [("at", 2)]) (N := n_cut) (sc := defScope (top 6)) (by decide +kernel)) (fun _ _ _ _ _ => pdg_name (i := 2) sc_cut.nd rfl (by first | exact Or.inl rfl | exact Or.inr rfl)) (fun _ _ _ _ _ => pdts_nil) (fun _ _ _ _ _ => pd_callTy cd_tuple ⟨hK⟩ rfl B.tuple (by decide +kernel) (pda_cons (pd_slice ⟨hK⟩ (pd_var 0) (pdo_some (pd_var 2)) (pdo_some (pd_op od_add ⟨hK⟩ (pd_var 2) (pd_var 1)))) (pda_nil))))))) (fun ds n k ke h => himp_cutW ds n k ke h rfl)
abbrev n_crossing_by : List Str := ["journey", "size", "last", "late", "other", "rows", "wide", "inner", "one", "row", "at"]
theorem sc_crossing_by : FnScope n_crossing_by ["journey", "size"] (defScope (top 8)) := ⟨rfl, rfl, rfl, by decide +kernel, rfl, by decide +kernel, by decide +kernel⟩
theorem ok_crossing_by {f : Addr} {fd : FuncData} {k : Nat} (F : Fun K "crossing_by" "crossing_by" (top 8) f fd) (B : Bl mg) (hK : g.K = K) (h_check_size : HasF P w K mg base (L2.CX P w) g k "check_size" ["journey", "size"] sdCheckSizeX) (h_cut : HasF P w K mg base CX0 g k "cut" ["journey", "size"] sdCutW) (hNB_reversed : mg "reversed" = none) : FnOk P w K mg base (L2.CX P w) (k + 1) f fd ["journey", "size"] (spD g sdCrossBy) :=
  fnDX (cs := cs_crossing_by) F sc_crossing_by (fun ds _ _ _ h => by obtain ⟨_, _, _, rfl, _⟩ := h; rfl) (fun cdv A outer s H E hr tk => pdss_cons (pds_expr (pd_fun h_check_size hr (Nat.le_refl _) rfl (fun σ => L2.passAt tk σ) (pda_cons (pd_var 0) (pda_cons (pd_var 1) (pda_nil))))) (pdss_cons (pds_par (i := 5) (j := 6) rfl sc_crossing_by.nd rfl rfl (by decide) rfl rfl (pda_cons (pd_fun h_cut hr (Nat.le_refl _) rfl (fun _ => pa0) (pda_cons (pd_var 0) (pda_cons (pd_op od_sub ⟨hK⟩ (pd_var 1) (pd_int)) (pda_nil)))) (pda_cons (pd_fun h_cut hr (Nat.le_refl _) rfl (fun _ => pa0) (pda_cons (pd_var 0) (pda_cons (pd_var 1) (pda_nil)))) (pda_nil)))) (pdss_cons (pds_set (i := 2) sc_crossing_by.nd rfl (by first | exact Or.inl rfl | exact Or.inr rfl) (PDF.pd (pf_dc true (own := [("at", 10), ("row", 9)]) (hu1 hr) rfl sc_crossing_by.nd (pdi_enum ⟨hK⟩ rfl B.enumerate (pda_cons (pd_var 5) (pda_nil))) (blkOk_by (own := [("at", 10), ("row", 9)]) (N := n_crossing_by) (sc := defScope (top 8)) (by decide +kernel)) (fun _ _ _ _ _ => pdg_tup rfl ⟨hK⟩ (pdgs_cons (pdg_name (i := 10) sc_crossing_by.nd rfl (by first | exact Or.inl rfl | exact Or.inr rfl)) (pdgs_cons (pdg_name (i := 9) sc_crossing_by.nd rfl (by first | exact Or.inl rfl | exact Or.inr rfl)) (pdgs_nil))) (stCons_len (stCons_len stNil_len))) (fun _ _ _ _ _ => pdts_nil) (fun _ _ _ _ _ => pk_valT (pd_var 9)) (fun _ _ _ _ _ => pd_var 10)))) (pdss_cons (pds_ownLc (i := 3) (own := [("row", 9)]) rfl sc_crossing_by.nd rfl rfl (pdi_seq ⟨hK⟩ (pd_var 5)) (blkOk_by (own := [("row", 9)]) (N := n_crossing_by) (sc := defScope (top 8)) (by decide +kernel)) (fun _ _ _ _ _ => pdg_name (i := 9) sc_crossing_by.nd rfl (by first | exact Or.inl rfl | exact Or.inr rfl)) (fun _ _ _ _ _ => pdts_nil) (fun _ _ _ _ _ => pd_dgetS ⟨hK⟩ (hu1 hr) (pdq_nm 2) (pd_var 9) (fun _ _ => rfl))) (pdss_cons (pds_for (L2.passes_of rfl) rfl (pdi_range1 rfl B.range (pda_cons (pd_callB cd_len ⟨hK⟩ rfl B.len (by decide +kernel) (pda_cons (pd_var 6) (pda_nil))) (pda_nil))) (pdg_name (i := 4) sc_crossing_by.nd rfl (by first | exact Or.inl rfl | exact Or.inr rfl)) (pdss_cons (pds_set (i := 7) sc_crossing_by.nd rfl (by first | exact Or.inl rfl | exact Or.inr rfl) (pd_non)) (pdss_one (pds_for (L2.passes_of rfl) rfl (pdi_revR1 rfl B.range rfl hNB_reversed (pd_var 4)) (pdg_name (i := 8) sc_crossing_by.nd rfl (by first | exact Or.inl rfl | exact Or.inr rfl)) (pdss_cons (pds_if (pdt_cmp od_gt ⟨hK⟩ (pd_ix ix_at ⟨hK⟩ (pd_var 3) (pd_op od_add ⟨hK⟩ (pd_var 8) (pd_int)) (fun _ _ => rfl)) (pd_var 4) (by first | exact nomark _ | rfl)) (pdss_one (pds_set (i := 7) sc_crossing_by.nd rfl (by first | exact Or.inl rfl | exact Or.inr rfl) (pd_op od_add ⟨hK⟩ (pd_var 8) (pd_int)))) (pdss_nil)) (pdss_one (pds_if (PDW.pdt (pdw_and (pdt_cmp od_isnot ⟨hK⟩ (pd_var 7) (pd_non) (by first | exact nomark _ | rfl)) (pdw_and (pdt_cmp (od_eq (hu64 hr)) ⟨hK⟩ (pd_ix ix_at ⟨hK⟩ (pd_var 5) (pd_var 8) (fun _ _ => rfl)) (pd_ix ix_at ⟨hK⟩ (pd_var 5) (pd_var 4) (fun _ _ => rfl)) (by first | exact nomark _ | rfl)) (pdw_and1 (pdt_cmp (od_ne (hu64 hr)) ⟨hK⟩ (pd_ix ix_at ⟨hK⟩ (pd_var 6) (pd_var 8) (fun _ _ => rfl)) (pd_ix ix_at ⟨hK⟩ (pd_var 6) (pd_var 4) (fun _ _ => rfl)) (by first | exact nomark _ | rfl)))))) (pdss_one (pds_ret (pd_tup (pda_cons (pd_var 8) (pda_cons (pd_var 7) (pda_cons (pd_var 4) (pda_cons (pd_ix ix_at ⟨hK⟩ (pd_var 3) (pd_var 7) (fun _ _ => rfl)) (pda_nil)))))))) (pdss_nil)))))))) (pdss_one (pds_ret (pd_non)))))))) (fun ds n k ke h => himp_crossing_by ds n k ke h rfl (fun _ _ _ h => h))
abbrev n_is_told_by : List Str := ["journey", "size"]
theorem sc_is_told_by : FnScope n_is_told_by ["journey", "size"] (defScope (top 7)) := ⟨rfl, rfl, rfl, by decide +kernel, rfl, by decide +kernel, by decide +kernel⟩
theorem ok_is_told_by {f : Addr} {fd : FuncData} {k : Nat} (F : Fun K "is_told_by" "is_told_by" (top 7) f fd) (B : Bl mg) (hK : g.K = K) (h_crossing_by : HasF P w K mg base (L2.CX P w) g k "crossing_by" ["journey", "size"] sdCrossBy) : FnOk P w K mg base (L2.CX P w) (k + 1) f fd ["journey", "size"] (spD g sdToldBy) :=
  fnDX (cs := cs_is_told_by) F sc_is_told_by (fun ds _ _ _ h => by obtain ⟨_, _, _, rfl, _⟩ := h; rfl) (fun cdv A outer s H E hr tk => pdss_one (pds_ret (pd_cmp od_is ⟨hK⟩ (pd_fun h_crossing_by hr (Nat.le_refl _) rfl (fun σ => L2.passAt tk σ) (pda_cons (pd_var 0) (pda_cons (pd_var 1) (pda_nil)))) (pd_non) (by first | exact nomark _ | rfl)))) (fun ds n k ke h => himp_is_told_by ds n k ke h rfl (fun _ _ _ h => h))
abbrev n_twin_by : List Str := ["journey", "size", "crossing", "row", "one", "inner", "other", "late"]
theorem sc_twin_by : FnScope n_twin_by ["journey", "size"] (defScope (top 10)) := ⟨rfl, rfl, rfl, by decide +kernel, rfl, by decide +kernel, by decide +kernel⟩
theorem ok_twin_by {f : Addr} {fd : FuncData} {k : Nat} (F : Fun K "twin_by" "twin_by" (top 10) f fd) (B : Bl mg) (hK : g.K = K) (h_crossing_by : HasF P w K mg base (L2.CX P w) g k "crossing_by" ["journey", "size"] sdCrossBy) : FnOk P w K mg base (L2.CX P w) (k + 1) f fd ["journey", "size"] (spD g sdTwinBy) :=
  fnDX (cs := cs_twin_by) F sc_twin_by (fun ds _ _ _ h => by obtain ⟨_, _, _, rfl, _⟩ := h; rfl) (fun cdv A outer s H E hr tk => pdss_cons (pds_set (i := 2) sc_twin_by.nd rfl (by first | exact Or.inl rfl | exact Or.inr rfl) (pd_fun h_crossing_by hr (Nat.le_refl _) rfl (fun σ => L2.passAt tk σ) (pda_cons (pd_var 0) (pda_cons (pd_var 1) (pda_nil))))) (pdss_cons (pds_if (pdt_cmp od_is ⟨hK⟩ (pd_var 2) (pd_non) (by first | exact nomark _ | rfl)) (pdss_one (pds_ret (pd_non))) (pdss_nil)) (pdss_cons (pds_asg (pd_var 2) (pdg_tup rfl ⟨hK⟩ (pdgs_cons (pdg_name (i := 4) sc_twin_by.nd rfl (by first | exact Or.inl rfl | exact Or.inr rfl)) (pdgs_cons (pdg_name (i := 5) sc_twin_by.nd rfl (by first | exact Or.inl rfl | exact Or.inr rfl)) (pdgs_cons (pdg_name (i := 6) sc_twin_by.nd rfl (by first | exact Or.inl rfl | exact Or.inr rfl)) (pdgs_cons (pdg_name (i := 7) sc_twin_by.nd rfl (by first | exact Or.inl rfl | exact Or.inr rfl)) (pdgs_nil))))) (stCons_len (stCons_len (stCons_len (stCons_len stNil_len)))))) (pdss_cons (pds_set (i := 3) sc_twin_by.nd rfl (by first | exact Or.inl rfl | exact Or.inr rfl) (pd_callTy cd_tuple ⟨hK⟩ rfl B.tuple (by decide +kernel) (pda_cons (pd_var 0) (pda_nil)))) (pdss_one (pds_ret (pd_op od_add ⟨hK⟩ (pd_op od_add ⟨hK⟩ (pd_op od_add ⟨hK⟩ (pd_op od_add ⟨hK⟩ (pd_slice ⟨hK⟩ (pd_var 3) (pdo_none) (pdo_some (pd_var 4))) (pd_slice ⟨hK⟩ (pd_var 3) (pdo_some (pd_var 6)) (pdo_some (pd_var 7)))) (pd_slice ⟨hK⟩ (pd_var 3) (pdo_some (pd_var 5)) (pdo_some (pd_var 6)))) (pd_slice ⟨hK⟩ (pd_var 3) (pdo_some (pd_var 4)) (pdo_some (pd_var 5)))) (pd_slice ⟨hK⟩ (pd_var 3) (pdo_some (pd_var 7)) (pdo_none))))))))) (fun ds n k ke h => himp_twin_by ds n k ke h rfl (fun _ _ _ h => h))
abbrev n_is_crossing_by : List Str := ["journey", "size", "thing", "rows", "one", "inner", "other", "late", "member"]
theorem sc_is_crossing_by : FnScope n_is_crossing_by ["journey", "size", "thing"] (defScope (top 9)) := ⟨rfl, rfl, rfl, by decide +kernel, rfl, by decide +kernel, by decide +kernel⟩
theorem ok_is_crossing_by {f : Addr} {fd : FuncData} {k : Nat} (F : Fun K "is_crossing_by" "is_crossing_by" (top 9) f fd) (B : Bl mg) (hK : g.K = K) (h_check_size : HasF P w K mg base (L2.CX P w) g k "check_size" ["journey", "size"] sdCheckSizeX) (h_is_number : HasF P w K mg base CX0 g k "is_number" ["thing"] sdIsNum) (h_cut : HasF P w K mg base CX0 g k "cut" ["journey", "size"] sdCutW) : FnOk P w K mg base (L2.CX P w) (k + 1) f fd ["journey", "size", "thing"] (spD g sdIsCrossX) :=
  fnDX (cs := cs_is_crossX) F sc_is_crossing_by (fun ds _ _ _ h => by obtain ⟨_, _, _, _, rfl, _⟩ := h; rfl) (fun cdv A outer s H E hr tk => pdss_cons (pds_expr (pd_fun h_check_size hr (Nat.le_refl _) rfl (fun σ => L2.passAt tk σ) (pda_cons (pd_var 0) (pda_cons (pd_var 1) (pda_nil))))) (pdss_cons (pds_if (PDW.pdt (pdw_or (pdt_not (pdt_val (pd_isK1 ⟨hK⟩ (by decide +kernel) (pdq_nm 2) rfl B.tuple (by decide +kernel) rfl B.isinstance))) (pdw_or (pdt_cmp (od_ne (hu64 hr)) ⟨hK⟩ (pd_callB cd_len ⟨hK⟩ rfl B.len (by decide +kernel) (pda_cons (pd_var 2) (pda_nil))) (pd_int) (by first | exact nomark _ | rfl)) (pdw_or1 (pdt_not (pdt_val (pd_callB (cd_all rfl) ⟨hK⟩ rfl B.all (by decide +kernel) (pda_cons (PDF.pd (pf_lc (own := [("member", 8)]) rfl sc_is_crossing_by.nd (pdi_seq ⟨hK⟩ (pd_var 2)) (blkOk_by (own := [("member", 8)]) (N := n_is_crossing_by) (sc := defScope (top 9)) (by decide +kernel)) (fun _ _ _ _ _ => pdg_name (i := 8) sc_is_crossing_by.nd rfl (by first | exact Or.inl rfl | exact Or.inr rfl)) (fun _ _ _ _ _ => pdts_nil) (fun _ _ _ _ _ => pd_fun h_is_number hr (Nat.le_refl _) rfl (fun _ => pa0) (pda_cons (pd_var 8) (pda_nil))))) (pda_nil))))))))) (pdss_one (pds_ret (pd_bl))) (pdss_nil)) (pdss_cons (pds_asg (pd_var 2) (pdg_tup rfl ⟨hK⟩ (pdgs_cons (pdg_name (i := 4) sc_is_crossing_by.nd rfl (by first | exact Or.inl rfl | exact Or.inr rfl)) (pdgs_cons (pdg_name (i := 5) sc_is_crossing_by.nd rfl (by first | exact Or.inl rfl | exact Or.inr rfl)) (pdgs_cons (pdg_name (i := 6) sc_is_crossing_by.nd rfl (by first | exact Or.inl rfl | exact Or.inr rfl)) (pdgs_cons (pdg_name (i := 7) sc_is_crossing_by.nd rfl (by first | exact Or.inl rfl | exact Or.inr rfl)) (pdgs_nil))))) (stCons_len (stCons_len (stCons_len (stCons_len stNil_len)))))) (pdss_cons (pds_set (i := 3) sc_is_crossing_by.nd rfl (by first | exact Or.inl rfl | exact Or.inr rfl) (pd_fun h_cut hr (Nat.le_refl _) rfl (fun _ => pa0) (pda_cons (pd_var 0) (pda_cons (pd_op od_sub ⟨hK⟩ (pd_var 1) (pd_int)) (pda_nil))))) (pdss_cons (pds_if (pdt_not (pdt_links ⟨hK⟩ (pd_int) (.cons od_le (pd_var 4) (.cons od_lt (pd_var 5) (.cons od_le (pd_var 6) (.cons od_lt (pd_var 7) (.one od_lt (pd_callB cd_len ⟨hK⟩ rfl B.len (by decide +kernel) (pda_cons (pd_var 3) (pda_nil)))))))))) (pdss_one (pds_ret (pd_bl))) (pdss_nil)) (pdss_one (pds_ret (pd_and (pd_cmp (od_eq (hu64 hr)) ⟨hK⟩ (pd_ix ix_at ⟨hK⟩ (pd_var 3) (pd_var 4) (fun _ _ => rfl)) (pd_ix ix_at ⟨hK⟩ (pd_var 3) (pd_var 6) (fun _ _ => rfl)) (by first | exact nomark _ | rfl)) (pd_and (pd_cmp (od_eq (hu64 hr)) ⟨hK⟩ (pd_ix ix_at ⟨hK⟩ (pd_var 3) (pd_var 5) (fun _ _ => rfl)) (pd_ix ix_at ⟨hK⟩ (pd_var 3) (pd_var 7) (fun _ _ => rfl)) (by first | exact nomark _ | rfl)) (pd_one (pd_cmp (od_ne (hu64 hr)) ⟨hK⟩ (pd_ix ix_at ⟨hK⟩ (pd_var 3) (pd_op od_add ⟨hK⟩ (pd_var 4) (pd_int)) (fun _ _ => rfl)) (pd_ix ix_at ⟨hK⟩ (pd_var 3) (pd_op od_add ⟨hK⟩ (pd_var 6) (pd_int)) (fun _ _ => rfl)) (by first | exact nomark _ | rfl)))))))))))) (fun ds n k ke h => himp_is_crossX ds n k ke h rfl (fun _ _ _ h => h))
abbrev n_law_of : List Str := ["_law_box_here", "_law_some"]
theorem sc_law_of : FnScope n_law_of ["_law_box_here", "_law_some"] (defScope (top 15)) := ⟨rfl, rfl, rfl, by decide +kernel, rfl, by decide +kernel, by decide +kernel⟩
theorem ok_law_of {f : Addr} {fd : FuncData} {k : Nat} (F : Fun K "_law_of" "_law_of" (top 15) f fd) (B : Bl mg) (hK : g.K = K) (h_law_take : HasF P w K mg base CX0 g k "_law_take" ["_law_box_here", "_law_below"] sdTake) : FnOk P w K mg base CX0 (k + 1) f fd ["_law_box_here", "_law_some"] (spD g sdOf) :=
  fnD (cs := cs_of) F sc_law_of (fun ds _ _ _ h => by obtain ⟨_, _, rfl, _⟩ := h; rfl) (fun cdv A outer s H E hr => pdss_one (pds_ret (pd_ix ix_at ⟨hK⟩ (pd_var 1) (pd_fun h_law_take hr (Nat.le_refl _) rfl (fun _ => pa0) (pda_cons (pd_var 0) (pda_cons (pd_callB cd_len ⟨hK⟩ rfl B.len (by decide +kernel) (pda_cons (pd_var 1) (pda_nil))) (pda_nil)))) (fun _ _ => rfl)))) (fun ds n k ke h => himp_of ds n k ke h rfl)
abbrev n_law_pick : List Str := ["_law_box_here", "_law_pool_so", "_law_many_so", "_law_turn", "_law_rest", "_law_found"]
theorem sc_law_pick : FnScope n_law_pick ["_law_box_here", "_law_pool_so", "_law_many_so"] (defScope (top 16)) := ⟨rfl, rfl, rfl, by decide +kernel, rfl, by decide +kernel, by decide +kernel⟩
theorem ok_law_pick {f : Addr} {fd : FuncData} {k : Nat} (F : Fun K "_law_pick" "_law_pick" (top 16) f fd) (B : Bl mg) (hK : g.K = K) (h_law_take : HasF P w K mg base CX0 g k "_law_take" ["_law_box_here", "_law_below"] sdTake) : FnOk P w K mg base CX0 (k + 1) f fd ["_law_box_here", "_law_pool_so", "_law_many_so"] (spD g sdPick) :=
  fnD (cs := cs_pick) F sc_law_pick (fun ds _ _ _ h => by obtain ⟨_, _, _, rfl, _⟩ := h; rfl) (fun cdv A outer s H E hr => pdss_cons (pds_par0 (i := 4) (j := 5) rfl sc_law_pick.nd rfl rfl (by decide) rfl rfl (pf_callTy (cf_list' rfl) ⟨hK⟩ rfl B.list (by decide +kernel) (pda_cons (pd_var 1) (pda_nil)))) (pdss_cons (pds_for PassesOwn.never rfl (pdi_range1 rfl B.range (pda_cons (pd_callB (cd_min rfl) ⟨hK⟩ rfl B.min (by decide +kernel) (pda_cons (pd_var 2) (pda_cons (pd_callBQ cd_len ⟨hK⟩ rfl B.len (by decide +kernel) (pdq_nm 4)) (pda_nil)))) (pda_nil))) (pdg_name (i := 3) sc_law_pick.nd rfl (by first | exact Or.inl rfl | exact Or.inr rfl)) (pdss_one (pds_expr (pd_append 5 (pd_mut 4 PySem.F.slot_list_pop PySem.F.type_list_pop mt_popAt mu_popAt (pda_cons (pd_fun h_law_take hr (Nat.le_refl _) rfl (fun _ => pa0) (pda_cons (pd_var 0) (pda_cons (pd_callBQ cd_len ⟨hK⟩ rfl B.len (by decide +kernel) (pdq_nm 4)) (pda_nil)))) (pda_nil))))))) (pdss_one (pds_ret (pd_var 5))))) (fun ds n k ke h => himp_pick ds n k ke h rfl)
abbrev n_law_tags : List Str := ["_law_box_here", "_law_many_so", "_law_kind_so"]
theorem sc_law_tags : FnScope n_law_tags ["_law_box_here", "_law_many_so"] (defScope (top 19)) := ⟨rfl, rfl, rfl, by decide +kernel, rfl, by decide +kernel, by decide +kernel⟩
theorem ok_law_tags {f : Addr} {fd : FuncData} {k : Nat} (F : Fun K "_law_tags" "_law_tags" (top 19) f fd) (B : Bl mg) (hK : g.K = K) (h_law_take : HasF P w K mg base CX0 g k "_law_take" ["_law_box_here", "_law_below"] sdTake) (h_law_pick : HasF P w K mg base CX0 g k "_law_pick" ["_law_box_here", "_law_pool_so", "_law_many_so"] sdPick) : FnOk P w K mg base CX0 (k + 1) f fd ["_law_box_here", "_law_many_so"] (spD g sdTags) :=
  fnD (cs := cs_tags) F sc_law_tags (fun ds _ _ _ h => by obtain ⟨_, rfl, _⟩ := h; rfl) (fun cdv A outer s H E hr => pdss_cons (pds_set (i := 2) sc_law_tags.nd rfl (by first | exact Or.inl rfl | exact Or.inr rfl) (pd_fun h_law_take hr (Nat.le_refl _) rfl (fun _ => pa0) (pda_cons (pd_var 0) (pda_cons (pd_int) (pda_nil))))) (pdss_cons (pds_if (pdt_cmp (od_eq (hu64 hr)) ⟨hK⟩ (pd_var 2) (pd_int) (by first | exact nomark _ | rfl)) (pdss_one (pds_ret (pd_fun h_law_pick hr (Nat.le_refl _) rfl (fun _ => pa0) (pda_cons (pd_var 0) (pda_cons (pd_str) (pda_cons (pd_var 1) (pda_nil))))))) (pdss_nil)) (pdss_cons (pds_if (pdt_cmp (od_eq (hu64 hr)) ⟨hK⟩ (pd_var 2) (pd_int) (by first | exact nomark _ | rfl)) (pdss_one (pds_ret (pd_fun h_law_pick hr (Nat.le_refl _) rfl (fun _ => pa0) (pda_cons (pd_var 0) (pda_cons (PDF.pd (pf_lst (pda_cons (pd_str) (pda_cons (pd_str) (pda_cons (pd_str) (pda_cons (pd_str) (pda_cons (pd_str) (pda_cons (pd_str) (pda_cons (pd_str) (pda_cons (pd_str) (pda_nil))))))))))) (pda_cons (pd_var 1) (pda_nil))))))) (pdss_nil)) (pdss_one (pds_ret (pd_fun h_law_pick hr (Nat.le_refl _) rfl (fun _ => pa0) (pda_cons (pd_var 0) (pda_cons (PDF.pd (pf_lst (pda_cons (pd_str) (pda_cons (pd_str) (pda_cons (pd_str) (pda_cons (pd_str) (pda_cons (pd_str) (pda_cons (pd_str) (pda_cons (pd_str) (pda_cons (pd_str) (pda_nil))))))))))) (pda_cons (pd_var 1) (pda_nil)))))))))) (fun ds n k ke h => himp_tags ds n k ke h rfl)
abbrev n_law_walk : List Str := ["_law_box_here", "_law_tags_here", "_law_most_so", "_law_row_so", "_law_turn", "_law_near", "_law_back_so", "_law_tag"]
theorem sc_law_walk : FnScope n_law_walk ["_law_box_here", "_law_tags_here", "_law_most_so"] (defScope (top 20)) := ⟨rfl, rfl, rfl, by decide +kernel, rfl, by decide +kernel, by decide +kernel⟩
theorem ok_law_walk {f : Addr} {fd : FuncData} {k : Nat} (F : Fun K "_law_walk" "_law_walk" (top 20) f fd) (B : Bl mg) (hK : g.K = K) (h_law_of : HasF P w K mg base CX0 g k "_law_of" ["_law_box_here", "_law_some"] sdOf) (h_law_take : HasF P w K mg base CX0 g k "_law_take" ["_law_box_here", "_law_below"] sdTake) : FnOk P w K mg base CX0 (k + 1) f fd ["_law_box_here", "_law_tags_here", "_law_most_so"] (spD g sdWalkB) :=
  fnD (cs := cs_walk) F sc_law_walk (fun ds _ _ _ h => by obtain ⟨_, _, rfl, _⟩ := h; rfl) (fun cdv A outer s H E hr => pdss_cons (pds_own (i := 3) sc_law_walk.nd rfl (by first | exact Or.inl rfl | exact Or.inr rfl) (pf_lst (pda_cons (pd_fun h_law_of hr (Nat.le_refl _) rfl (fun _ => pa0) (pda_cons (pd_var 0) (pda_cons (pd_var 1) (pda_nil)))) (pda_nil)))) (pdss_cons (pds_for PassesOwn.never rfl (pdi_range1 rfl B.range (pda_cons (pd_fun h_law_take hr (Nat.le_refl _) rfl (fun _ => pa0) (pda_cons (pd_var 0) (pda_cons (pd_op od_add ⟨hK⟩ (pd_var 2) (pd_int)) (pda_nil)))) (pda_nil))) (pdg_name (i := 4) sc_law_walk.nd rfl (by first | exact Or.inl rfl | exact Or.inr rfl)) (pdss_cons (pds_ownLc (i := 5) (own := [("_law_tag", 7)]) rfl sc_law_walk.nd rfl rfl (pdi_seq ⟨hK⟩ (pd_var 1)) (blkOk_by (own := [("_law_tag", 7)]) (N := n_law_walk) (sc := defScope (top 20)) (by decide +kernel)) (fun _ _ _ _ _ => pdg_name (i := 7) sc_law_walk.nd rfl (by first | exact Or.inl rfl | exact Or.inr rfl)) (fun _ _ _ _ _ => pdts_one (pdt_cmp (od_ne (hu64 hr)) ⟨hK⟩ (pd_var 7) (pd_ixQ ⟨hK⟩ (pdq_nm 3) (pd_neg (pd_int)) (fun _ _ => rfl)) (by first | exact nomark _ | rfl))) (fun _ _ _ _ _ => pd_var 7)) (pdss_cons (pds_set (i := 6) sc_law_walk.nd rfl (by first | exact Or.inl rfl | exact Or.inr rfl) (pd_and (pd_cmp od_gt ⟨hK⟩ (pd_callBQ cd_len ⟨hK⟩ rfl B.len (by decide +kernel) (pdq_nm 3)) (pd_int) (by first | exact nomark _ | rfl)) (pd_one (pd_cmp (od_eq (hu64 hr)) ⟨hK⟩ (pd_fun h_law_take hr (Nat.le_refl _) rfl (fun _ => pa0) (pda_cons (pd_var 0) (pda_cons (pd_int) (pda_nil)))) (pd_int) (by first | exact nomark _ | rfl))))) (pdss_one (pds_expr (pd_append 3 (pd_if (pdt_val (pd_var 6)) (pd_ixQ ⟨hK⟩ (pdq_nm 3) (pd_neg (pd_int)) (fun _ _ => rfl)) (pd_fun h_law_of hr (Nat.le_refl _) rfl (fun _ => pa0) (pda_cons (pd_var 0) (pda_cons (pd_var 5) (pda_nil))))))))))) (pdss_cons (pds_if (PDW.pdt (pdw_and (pdt_cmp (od_ne (hu64 hr)) ⟨hK⟩ (pd_ixQ ⟨hK⟩ (pdq_nm 3) (pd_neg (pd_int)) (fun _ _ => rfl)) (pd_ixQ ⟨hK⟩ (pdq_nm 3) (pd_int) (fun _ _ => rfl)) (by first | exact nomark _ | rfl)) (pdw_and (pdt_cmp od_le ⟨hK⟩ (pd_callBQ cd_len ⟨hK⟩ rfl B.len (by decide +kernel) (pdq_nm 3)) (pd_var 2) (by first | exact nomark _ | rfl)) (pdw_and1 (pdt_cmp (od_eq (hu64 hr)) ⟨hK⟩ (pd_fun h_law_take hr (Nat.le_refl _) rfl (fun _ => pa0) (pda_cons (pd_var 0) (pda_cons (pd_int) (pda_nil)))) (pd_int) (by first | exact nomark _ | rfl)))))) (pdss_one (pds_expr (pd_append 3 (pd_ixQ ⟨hK⟩ (pdq_nm 3) (pd_int) (fun _ _ => rfl))))) (pdss_nil)) (pdss_one (pds_ret (pd_callTy cd_tuple ⟨hK⟩ rfl B.tuple (by decide +kernel) (pda_cons (pd_var 3) (pda_nil)))))))) (fun ds n k ke h => himp_walkB ds n k ke h rfl)
abbrev n_law_tally : List Str := ["_law_row_so", "_law_pairs_so", "_law_found", "_law_own"]
theorem sc_law_tally : FnScope n_law_tally ["_law_row_so"] (defScope (top 21)) := ⟨rfl, rfl, rfl, by decide +kernel, rfl, by decide +kernel, by decide +kernel⟩
theorem ok_law_tally {f : Addr} {fd : FuncData} {k : Nat} (F : Fun K "_law_tally" "_law_tally" (top 21) f fd) (B : Bl mg) (hK : g.K = K)  : FnOk P w K mg base CX0 (k + 1) f fd ["_law_row_so"] (spD g sdTally) :=
  fnD (cs := cs_tally) F sc_law_tally (fun ds _ _ _ h => by obtain ⟨_, rfl, _⟩ := h; rfl) (fun cdv A outer s H E hr => pdss_cons (pds_set (i := 1) sc_law_tally.nd rfl (by first | exact Or.inl rfl | exact Or.inr rfl) (PDF.pd (pf_lstZip ⟨hK⟩ (by rfl) B.list (by rfl) B.zip (pda_cons (pd_var 0) (pda_cons (pd_slice ⟨hK⟩ (pd_var 0) (pdo_some (pd_int)) (pdo_none)) (pda_nil)))))) (pdss_cons (pds_own (i := 2) sc_law_tally.nd rfl (by first | exact Or.inl rfl | exact Or.inr rfl) (pf_lst (pda_nil))) (pdss_cons (pds_for PassesOwn.never rfl (pdi_seq ⟨hK⟩ (PDF.pd (pf_callB (cf_sorted (hu64 hr)) ⟨hK⟩ rfl B.sorted (by decide +kernel) (pda_cons (pd_var 1) (pda_nil))))) (pdg_name (i := 3) sc_law_tally.nd rfl (by first | exact Or.inl rfl | exact Or.inr rfl)) (pdss_one (pds_if (PDW.pdt (pdw_or (pdt_cmpQ (od_eq (hu64 hr)) ⟨hK⟩ (pdq_nm 2) (PDF.pd (pf_lst (pda_nil))) (by first | exact nomark _ | rfl)) (pdw_or1 (pdt_cmp (od_ne (hu64 hr)) ⟨hK⟩ (pd_slice ⟨hK⟩ (pd_ixQ ⟨hK⟩ (pdq_nm 2) (pd_neg (pd_int)) (fun _ _ => rfl)) (pdo_none) (pdo_some (pd_int))) (pd_var 3) (by first | exact nomark _ | rfl))))) (pdss_one (pds_expr (pd_append 2 (pd_op od_add ⟨hK⟩ (pd_var 3) (pd_tup (pda_cons (pd_count (hu65 hr) ⟨hK⟩ (pd_var 1) (pd_var 3)) (pda_nil))))))) (pdss_nil)))) (pdss_one (pds_ret (pd_callTy cd_tuple ⟨hK⟩ rfl B.tuple (by decide +kernel) (pda_cons (pd_var 2) (pda_nil)))))))) (fun ds n k ke h => himp_tally ds n k ke h rfl)
abbrev n_law_less : List Str := ["_law_rows_so", "_law_own", "_law_found", "_law_bit", "_law_many_so"]
theorem sc_law_less : FnScope n_law_less ["_law_rows_so", "_law_own"] (defScope (top 22)) := ⟨rfl, rfl, rfl, by decide +kernel, rfl, by decide +kernel, by decide +kernel⟩
theorem ok_law_less {f : Addr} {fd : FuncData} {k : Nat} (F : Fun K "_law_less" "_law_less" (top 22) f fd) (B : Bl mg) (hK : g.K = K)  : FnOk P w K mg base CX0 (k + 1) f fd ["_law_rows_so", "_law_own"] (spD g sdLess) :=
  fnD (cs := cs_less) F sc_law_less (fun ds _ _ _ h => by obtain ⟨_, _, rfl, _⟩ := h; rfl) (fun cdv A outer s H E hr => pdss_cons (pds_own (i := 2) sc_law_less.nd rfl (by first | exact Or.inl rfl | exact Or.inr rfl) (pf_lst (pda_nil))) (pdss_cons (pds_for PassesOwn.never rfl (pdi_seq ⟨hK⟩ (pd_var 0)) (pdg_name (i := 3) sc_law_less.nd rfl (by first | exact Or.inl rfl | exact Or.inr rfl)) (pdss_cons (pds_set (i := 4) sc_law_less.nd rfl (by first | exact Or.inl rfl | exact Or.inr rfl) (pd_op od_sub ⟨hK⟩ (pd_ix ix_at ⟨hK⟩ (pd_var 3) (pd_int) (fun _ _ => rfl)) (pd_callTy cd_int ⟨hK⟩ rfl B.int (by decide +kernel) (pda_cons (pd_cmp (od_eq (hu64 hr)) ⟨hK⟩ (pd_var 3) (pd_var 1) (by first | exact nomark _ | rfl)) (pda_nil))))) (pdss_one (pds_if (pdt_cmp od_gt ⟨hK⟩ (pd_var 4) (pd_int) (by first | exact nomark _ | rfl)) (pdss_one (pds_expr (pd_append 2 (pd_tup (pda_cons (pd_ix ix_at ⟨hK⟩ (pd_var 3) (pd_int) (fun _ _ => rfl)) (pda_cons (pd_ix ix_at ⟨hK⟩ (pd_var 3) (pd_int) (fun _ _ => rfl)) (pda_cons (pd_var 4) (pda_nil)))))))) (pdss_nil))))) (pdss_one (pds_ret (pd_callTy cd_tuple ⟨hK⟩ rfl B.tuple (by decide +kernel) (pda_cons (pd_var 2) (pda_nil))))))) (fun ds n k ke h => himp_less ds n k ke h rfl)
abbrev n_law_all : List Str := ["_law_first_so", "_law_rows_so", "_law_found", "_law_rest", "_law_own", "_law_trail", "_law_left_so"]
theorem sc_law_all : FnScope n_law_all ["_law_first_so", "_law_rows_so"] (defScope (top 23)) := ⟨rfl, rfl, rfl, by decide +kernel, rfl, by decide +kernel, by decide +kernel⟩
theorem ok_law_all {f : Addr} {fd : FuncData} {k : Nat} (F : Fun K "_law_all" "_law_all" (top 23) f fd) (B : Bl mg) (hK : g.K = K) (h_law_less : HasF P w K mg base CX0 g k "_law_less" ["_law_rows_so", "_law_own"] sdLess) : FnOk P w K mg base CX0 (k + 1) f fd ["_law_first_so", "_law_rows_so"] (spD g sdAllB) :=
  fnD (cs := cs_all) F sc_law_all (fun ds _ _ _ h => by obtain ⟨_, _, rfl, _⟩ := h; rfl) (fun cdv A outer s H E hr => pdss_cons (pds_par01 (i := 2) (j := 3) rfl sc_law_all.nd rfl rfl (by decide) rfl rfl (pf_lst (pda_cons (pd_tup (pda_cons (pd_tup (pda_cons (pd_var 0) (pda_nil))) (pda_cons (pd_var 1) (pda_nil)))) (pda_nil)))) (pdss_cons (pds_while PassesOwn.never (pdt_cmpQ (od_ne (hu64 hr)) ⟨hK⟩ (pdq_nm 3) (PDF.pd (pf_lst (pda_nil))) (by first | exact nomark _ | rfl)) (pdss_cons (pds_asg (pd_pop 3) (pdg_tup rfl ⟨hK⟩ (pdgs_cons (pdg_name (i := 5) sc_law_all.nd rfl (by first | exact Or.inl rfl | exact Or.inr rfl)) (pdgs_cons (pdg_name (i := 6) sc_law_all.nd rfl (by first | exact Or.inl rfl | exact Or.inr rfl)) (pdgs_nil))) (stCons_len (stCons_len stNil_len)))) (pdss_cons (pds_if (pdt_cmp (od_eq (hu64 hr)) ⟨hK⟩ (pd_var 6) (pd_tup (pda_nil)) (by first | exact nomark _ | rfl)) (pdss_one (pds_expr (pd_append 2 (pd_var 5)))) (pdss_nil)) (pdss_one (pds_for PassesOwn.never rfl (pdi_seq ⟨hK⟩ (pd_rev ⟨hK⟩ (pd_var 6) (pd_neg (pd_int)))) (pdg_name (i := 4) sc_law_all.nd rfl (by first | exact Or.inl rfl | exact Or.inr rfl)) (pdss_one (pds_if (pdt_cmp (od_eq (hu64 hr)) ⟨hK⟩ (pd_ix ix_at ⟨hK⟩ (pd_var 4) (pd_int) (fun _ _ => rfl)) (pd_ix ix_at ⟨hK⟩ (pd_var 5) (pd_neg (pd_int)) (fun _ _ => rfl)) (by first | exact nomark _ | rfl)) (pdss_one (pds_expr (pd_append 3 (pd_tup (pda_cons (pd_op od_add ⟨hK⟩ (pd_var 5) (pd_tup (pda_cons (pd_ix ix_at ⟨hK⟩ (pd_var 4) (pd_int) (fun _ _ => rfl)) (pda_nil)))) (pda_cons (pd_fun h_law_less hr (Nat.le_refl _) rfl (fun _ => pa0) (pda_cons (pd_var 6) (pda_cons (pd_var 4) (pda_nil)))) (pda_nil))))))) (pdss_nil)))))))) (pdss_one (pds_ret (pd_var 2))))) (fun ds n k ke h => himp_allB ds n k ke h rfl)
abbrev n_law_lists : List Str := ["_law_matter", "_law_bit"]
theorem sc_law_lists : FnScope n_law_lists ["_law_matter"] (defScope (top 17)) := ⟨rfl, rfl, rfl, by decide +kernel, rfl, by decide +kernel, by decide +kernel⟩
theorem ok_law_lists {f : Addr} {fd : FuncData} {k : Nat} (F : Fun K "_law_lists" "_law_lists" (top 17) f fd) (B : Bl mg) (hK : g.K = K) (h_law_lists : HasF P w K mg base CX0 g k "_law_lists" ["_law_matter"] (sdLists m)) : FnOk P w K mg base CX0 (k + 1) f fd ["_law_matter"] (spD g (sdLists (m + 1))) :=
  fnD (cs := (cs_lists m)) F sc_law_lists (fun ds _ _ _ h => by obtain ⟨_, rfl, _⟩ := h; rfl) (fun cdv A outer s H E hr => pdss_one (pds_ret (pd_if (pdt_val (pd_isK ⟨hK⟩ (by decide +kernel) (pdq_nm 0) rfl B.list (by decide +kernel) rfl B.tuple (by decide +kernel) rfl B.isinstance)) (PDF.pd (pf_lc (own := [("_law_bit", 1)]) rfl sc_law_lists.nd (pdi_seq ⟨hK⟩ (pd_var 0)) (blkOk_by (own := [("_law_bit", 1)]) (N := n_law_lists) (sc := defScope (top 17)) (by decide +kernel)) (fun _ _ _ _ _ => pdg_name (i := 1) sc_law_lists.nd rfl (by first | exact Or.inl rfl | exact Or.inr rfl)) (fun _ _ _ _ _ => pdts_nil) (fun _ _ _ _ _ => pd_fun h_law_lists hr (Nat.le_refl _) rfl (fun _ => pa0) (pda_cons (pd_var 1) (pda_nil))))) (pd_var 0)))) (fun ds n k ke h => himp_lists m ds n k ke h rfl)
abbrev n_law_cut : List Str := ["_law_row_so", "_law_far", "_law_k"]
theorem sc_law_cut : FnScope n_law_cut ["_law_row_so", "_law_far"] (defScope (top 24)) := ⟨rfl, rfl, rfl, by decide +kernel, rfl, by decide +kernel, by decide +kernel⟩
theorem ok_law_cut {f : Addr} {fd : FuncData} {k : Nat} (F : Fun K "_law_cut" "_law_cut" (top 24) f fd) (B : Bl mg) (hK : g.K = K)  : FnOk P w K mg base CX0 (k + 1) f fd ["_law_row_so", "_law_far"] (spD g sdLawCut) :=
  fnD (cs := cs_law_cut) F sc_law_cut (fun ds _ _ _ h => by obtain ⟨_, _, rfl, _⟩ := h; rfl) (fun cdv A outer s H E hr => pdss_one (pds_ret (pd_tup (pda_cons (pd_slice ⟨hK⟩ (pd_var 0) (pdo_none) (pdo_some (pd_op od_sub ⟨hK⟩ (pd_var 1) (pd_int)))) (pda_cons (PDF.pd (pf_callB (cf_sorted (hu64 hr)) ⟨hK⟩ rfl B.sorted (by decide +kernel) (pda_cons (PDF.pd (pf_lc (own := [("_law_k", 2)]) rfl sc_law_cut.nd (pdi_range1 rfl B.range (pda_cons (pd_op od_add ⟨hK⟩ (pd_op od_sub ⟨hK⟩ (pd_callB cd_len ⟨hK⟩ rfl B.len (by decide +kernel) (pda_cons (pd_var 0) (pda_nil))) (pd_var 1)) (pd_int)) (pda_nil))) (blkOk_by (own := [("_law_k", 2)]) (N := n_law_cut) (sc := defScope (top 24)) (by decide +kernel)) (fun _ _ _ _ _ => pdg_name (i := 2) sc_law_cut.nd rfl (by first | exact Or.inl rfl | exact Or.inr rfl)) (fun _ _ _ _ _ => pdts_nil) (fun _ _ _ _ _ => pd_slice ⟨hK⟩ (pd_var 0) (pdo_some (pd_var 2)) (pdo_some (pd_op od_add ⟨hK⟩ (pd_var 2) (pd_var 1)))))) (pda_nil)))) (pda_nil)))))) (fun ds n k ke h => himp_law_cut ds n k ke h rfl)
abbrev n_law_crosses : List Str := ["_law_row_so", "_law_far", "_law_four", "_law_rows_so", "_law_one", "_law_two", "_law_three", "_law_last_so", "_law_k"]
theorem sc_law_crosses : FnScope n_law_crosses ["_law_row_so", "_law_far", "_law_four"] (defScope (top 25)) := ⟨rfl, rfl, rfl, by decide +kernel, rfl, by decide +kernel, by decide +kernel⟩
theorem ok_law_crosses {f : Addr} {fd : FuncData} {k : Nat} (F : Fun K "_law_crosses" "_law_crosses" (top 25) f fd) (B : Bl mg) (hK : g.K = K)  : FnOk P w K mg base CX0 (k + 1) f fd ["_law_row_so", "_law_far", "_law_four"] (spD g sdCrosses67) :=
  fnD (cs := cs_crosses67) F sc_law_crosses (fun ds _ _ _ h => by obtain ⟨_, _, _, _, _, _, rfl, _⟩ := h; rfl) (fun cdv A outer s H E hr => pdss_cons (pds_asg (pd_var 2) (pdg_tup rfl ⟨hK⟩ (pdgs_cons (pdg_name (i := 4) sc_law_crosses.nd rfl (by first | exact Or.inl rfl | exact Or.inr rfl)) (pdgs_cons (pdg_name (i := 5) sc_law_crosses.nd rfl (by first | exact Or.inl rfl | exact Or.inr rfl)) (pdgs_cons (pdg_name (i := 6) sc_law_crosses.nd rfl (by first | exact Or.inl rfl | exact Or.inr rfl)) (pdgs_cons (pdg_name (i := 7) sc_law_crosses.nd rfl (by first | exact Or.inl rfl | exact Or.inr rfl)) (pdgs_nil))))) (stCons_len (stCons_len (stCons_len (stCons_len stNil_len)))))) (pdss_cons (pds_ownLc (i := 3) (own := [("_law_k", 8)]) rfl sc_law_crosses.nd rfl rfl (pdi_range1 rfl B.range (pda_cons (pd_op od_add ⟨hK⟩ (pd_op od_sub ⟨hK⟩ (pd_callB cd_len ⟨hK⟩ rfl B.len (by decide +kernel) (pda_cons (pd_var 0) (pda_nil))) (pd_var 1)) (pd_int)) (pda_nil))) (blkOk_by (own := [("_law_k", 8)]) (N := n_law_crosses) (sc := defScope (top 25)) (by decide +kernel)) (fun _ _ _ _ _ => pdg_name (i := 8) sc_law_crosses.nd rfl (by first | exact Or.inl rfl | exact Or.inr rfl)) (fun _ _ _ _ _ => pdts_nil) (fun _ _ _ _ _ => pd_slice ⟨hK⟩ (pd_var 0) (pdo_some (pd_var 8)) (pdo_some (pd_op od_sub ⟨hK⟩ (pd_op od_add ⟨hK⟩ (pd_var 8) (pd_var 1)) (pd_int))))) (pdss_cons (pds_if (pdt_not (pdt_links ⟨hK⟩ (pd_int) (.cons od_le (pd_var 4) (.cons od_lt (pd_var 5) (.cons od_le (pd_var 6) (.cons od_lt (pd_var 7) (.one od_lt (pd_callB cd_len ⟨hK⟩ rfl B.len (by decide +kernel) (pda_cons (pd_var 3) (pda_nil)))))))))) (pdss_one (pds_ret (pd_bl))) (pdss_nil)) (pdss_cons (pds_if (PDW.pdt (pdw_or (pdt_cmp (od_ne (hu64 hr)) ⟨hK⟩ (pd_ix ix_at ⟨hK⟩ (pd_var 3) (pd_var 4) (fun _ _ => rfl)) (pd_ix ix_at ⟨hK⟩ (pd_var 3) (pd_var 6) (fun _ _ => rfl)) (by first | exact nomark _ | rfl)) (pdw_or1 (pdt_cmp (od_ne (hu64 hr)) ⟨hK⟩ (pd_ix ix_at ⟨hK⟩ (pd_var 3) (pd_var 5) (fun _ _ => rfl)) (pd_ix ix_at ⟨hK⟩ (pd_var 3) (pd_var 7) (fun _ _ => rfl)) (by first | exact nomark _ | rfl))))) (pdss_one (pds_ret (pd_bl))) (pdss_nil)) (pdss_one (pds_ret (pd_cmp (od_ne (hu64 hr)) ⟨hK⟩ (pd_ix ix_at ⟨hK⟩ (pd_var 0) (pd_op od_sub ⟨hK⟩ (pd_op od_add ⟨hK⟩ (pd_var 4) (pd_var 1)) (pd_int)) (fun _ _ => rfl)) (pd_ix ix_at ⟨hK⟩ (pd_var 0) (pd_op od_sub ⟨hK⟩ (pd_op od_add ⟨hK⟩ (pd_var 6) (pd_var 1)) (pd_int)) (fun _ _ => rfl)) (by first | exact nomark _ | rfl)))))))) (fun ds n k ke h => himp_crosses67 ds n k ke h rfl)
abbrev n_law_heard : List Str := ["_law_door", "_law_row_so", "_law_far", "error_so", "_law_got", "_law_caught"]
theorem sc_law_heard : FnScope n_law_heard ["_law_door", "_law_row_so", "_law_far"] (defScope (top 26)) := ⟨rfl, rfl, rfl, by decide +kernel, rfl, by decide +kernel, by decide +kernel⟩
theorem ok_law_heard {f : Addr} {fd : FuncData} {k : Nat} (F : Fun K "_law_heard" "_law_heard" (top 26) f fd) (B : Bl mg) (hK : g.K = K) (hmg_NoSize : mg "NoSize" = some (.ref (g.cls cNoSize))) (hX : ErX K g [cNoSize] ["number"] (fun c => true)) (h_is_told_by : HasF P w K mg base (L2.CX P w) g k "is_told_by" ["journey", "size"] sdToldBy) (hFP_crossing_by_1_0 : HasFP P w K mg base (L2.CX P w) g k "crossing_by" ["journey", "size"] ["size", "journey"] [1, 0] sdCrossBy) (h_twin_by : HasF P w K mg base (L2.CX P w) g k "twin_by" ["journey", "size"] sdTwinBy) (h_is_crossing_by : HasF P w K mg base (L2.CX P w) g k "is_crossing_by" ["journey", "size", "thing"] sdIsCrossX) : FnOk P w K mg base CX0 (k + 1) f fd ["_law_door", "_law_row_so", "_law_far"] (spD g sdHeard67) :=
  fnD (cs := cs_heard67) F sc_law_heard (fun ds _ _ _ h => by obtain ⟨_, _, _, _, rfl, _⟩ := h; rfl) (fun cdv A outer s H E hr => pdss_cons (pds_asg (pd_tup (pda_cons (pd_non) (pda_cons (pd_non) (pda_nil)))) (pdg_tup rfl ⟨hK⟩ (pdgs_cons (pdg_name (i := 4) sc_law_heard.nd rfl (by first | exact Or.inl rfl | exact Or.inr rfl)) (pdgs_cons (pdg_name (i := 5) sc_law_heard.nd rfl (by first | exact Or.inl rfl | exact Or.inr rfl)) (pdgs_nil))) (stCons_len (stCons_len stNil_len)))) (pdss_cons (pds_tryT (i := 3) (cns := [cNoSize]) (ms := [cNoSize]) rfl rfl rfl sc_law_heard.nd rfl rfl (CS.tst1 ⟨rfl, by decide, .inl hmg_NoSize⟩) takes_F (fun c hc => hX.any hc (by decide)) (fun W pn xe tw pw => pdss_one (pds_if (pdt_cmp (od_eq (hu64 hr)) ⟨hK⟩ (pd_var 0) (pd_int) (by first | exact nomark _ | rfl)) (pdss_one (pds_set (i := 4) sc_law_heard.nd rfl (by first | exact Or.inl rfl | exact Or.inr rfl) (pd_fun h_is_told_by hr (Nat.le_refl _) rfl (fun σ => L2.passAt tw σ) (pda_cons (pd_var 1) (pda_cons (pd_var 2) (pda_nil)))))) (pdss_one (pds_if (pdt_cmp (od_eq (hu64 hr)) ⟨hK⟩ (pd_var 0) (pd_int) (by first | exact nomark _ | rfl)) (pdss_one (pds_set (i := 4) sc_law_heard.nd rfl (by first | exact Or.inl rfl | exact Or.inr rfl) (pd_funP (ks := ["size", "journey"]) (is := [1, 0]) hFP_crossing_by_1_0 hr (Nat.le_refl _) (by rfl) (fun σ => L2.passAt tw σ) (pdk_cons (pd_var 2) (pdk_cons (pd_var 1) (pdk_nil)))))) (pdss_one (pds_if (pdt_cmp (od_eq (hu64 hr)) ⟨hK⟩ (pd_var 0) (pd_int) (by first | exact nomark _ | rfl)) (pdss_one (pds_set (i := 4) sc_law_heard.nd rfl (by first | exact Or.inl rfl | exact Or.inr rfl) (pd_fun h_twin_by hr (Nat.le_refl _) rfl (fun σ => L2.passAt tw σ) (pda_cons (pd_var 1) (pda_cons (pd_var 2) (pda_nil)))))) (pdss_one (pds_set (i := 4) sc_law_heard.nd rfl (by first | exact Or.inl rfl | exact Or.inr rfl) (pd_fun h_is_crossing_by hr (Nat.le_refl _) rfl (fun σ => L2.passAt tw σ) (pda_cons (pd_var 1) (pda_cons (pd_var 2) (pda_cons (pd_if (pdt_cmp (od_eq (hu64 hr)) ⟨hK⟩ (pd_var 0) (pd_int) (by first | exact nomark _ | rfl)) (pd_tup (pda_cons (pd_int) (pda_cons (pd_int) (pda_cons (pd_int) (pda_cons (pd_int) (pda_nil)))))) (pd_non)) (pda_nil))))))))))))) (fun a pn => pdss_one (pds_set (i := 5) sc_law_heard.nd rfl (by first | exact Or.inl rfl | exact Or.inr rfl) (pd_var 3)))) (pdss_one (pds_ret (pd_if (pdt_cmp od_is ⟨hK⟩ (pd_var 5) (pd_non) (by first | exact nomark _ | rfl)) (pd_var 4) (PDF.pd (pf_lst (pda_cons (pd_str) (pda_cons (pd_xfld ⟨hK⟩ (pdq_nm 5) hX.xf (fun c hc => hX.no c hc _ (by decide))) (pda_nil)))))))))) (fun ds n k ke h => himp_heard67 ds n k ke h rfl)
abbrev n_law_size_right : List Str := ["_law_row_so", "_law_far", "_law_all_so", "_law_alone", "_law_got", "_law_soft", "_law_near", "_law_four", "_law_kin", "_law_one", "_law_two", "_law_three", "_law_last_so", "_law_door", "_law_own"]
theorem sc_law_size_right : FnScope n_law_size_right ["_law_row_so", "_law_far", "_law_all_so"] (defScope (top 27)) := ⟨rfl, rfl, rfl, by decide +kernel, rfl, by decide +kernel, by decide +kernel⟩
theorem ok_law_size_right {f : Addr} {fd : FuncData} {k : Nat} (F : Fun K "_law_size_right" "_law_size_right" (top 27) f fd) (B : Bl mg) (hK : g.K = K) (h_law_cut : HasF P w K mg base CX0 g k "_law_cut" ["_law_row_so", "_law_far"] sdLawCut) (h_law_heard : HasF P w K mg base CX0 g k "_law_heard" ["_law_door", "_law_row_so", "_law_far"] sdHeard67) (h_law_same : HasF P w K mg base CX0 g k "_law_same" ["_law_got", "_law_due"] sdSame) (h_law_lists : HasF P w K mg base CX0 g k "_law_lists" ["_law_matter"] (sdLists 3)) (h_law_crosses : HasF P w K mg base CX0 g k "_law_crosses" ["_law_row_so", "_law_far", "_law_four"] sdCrosses67) : FnOk P w K mg base CX0 (k + 1) f fd ["_law_row_so", "_law_far", "_law_all_so"] (spD g sdSize67) :=
  fnD (cs := cs_size67) F sc_law_size_right (fun ds _ _ _ h => by obtain ⟨_, _, _, rfl, _⟩ := h; rfl) (fun cdv A outer s H E hr => pdss_cons (pds_set (i := 3) sc_law_size_right.nd rfl (by first | exact Or.inl rfl | exact Or.inr rfl) (pd_cmp (od_eq (hu64 hr)) ⟨hK⟩ (PDF.pd (pf_lc (own := [("_law_own", 14)]) rfl sc_law_size_right.nd (pdi_seq ⟨hK⟩ (pd_var 2)) (blkOk_by (own := [("_law_own", 14)]) (N := n_law_size_right) (sc := defScope (top 27)) (by decide +kernel)) (fun _ _ _ _ _ => pdg_name (i := 14) sc_law_size_right.nd rfl (by first | exact Or.inl rfl | exact Or.inr rfl)) (fun _ _ _ _ _ => pdts_one (pdt_cmp (od_eq (hu64 hr)) ⟨hK⟩ (pd_fun h_law_cut hr (Nat.le_refl _) rfl (fun _ => pa0) (pda_cons (pd_var 14) (pda_cons (pd_var 1) (pda_nil)))) (pd_fun h_law_cut hr (Nat.le_refl _) rfl (fun _ => pa0) (pda_cons (pd_var 0) (pda_cons (pd_var 1) (pda_nil)))) (by first | exact nomark _ | rfl))) (fun _ _ _ _ _ => pd_var 14))) (PDF.pd (pf_lst (pda_cons (pd_var 0) (pda_nil)))) (by first | exact nomark _ | rfl))) (pdss_cons (pds_ownLc (i := 4) (own := [("_law_door", 13)]) rfl sc_law_size_right.nd rfl rfl (pdi_seq ⟨hK⟩ (pd_tup (pda_cons (pd_int) (pda_cons (pd_int) (pda_cons (pd_int) (pda_nil)))))) (blkOk_by (own := [("_law_door", 13)]) (N := n_law_size_right) (sc := defScope (top 27)) (by decide +kernel)) (fun _ _ _ _ _ => pdg_name (i := 13) sc_law_size_right.nd rfl (by first | exact Or.inl rfl | exact Or.inr rfl)) (fun _ _ _ _ _ => pdts_nil) (fun _ _ _ _ _ => pd_fun h_law_heard hr (Nat.le_refl _) rfl (fun _ => pa0) (pda_cons (pd_var 13) (pda_cons (pd_var 0) (pda_cons (pd_var 1) (pda_nil)))))) (pdss_cons (pds_if (PDW.pdt (pdw_or (pdt_not (pdt_val (pd_fun h_law_same hr (Nat.le_refl _) rfl (fun _ => pa0) (pda_cons (pd_ix ix_at ⟨hK⟩ (pd_var 4) (pd_int) (fun _ _ => rfl)) (pda_cons (pd_var 3) (pda_nil)))))) (pdw_or1 (pdt_cmp (od_ne (hu64 hr)) ⟨hK⟩ (PDF.pd (pf_lc (own := [("_law_own", 14)]) rfl sc_law_size_right.nd (pdi_seq ⟨hK⟩ (pd_slice ⟨hK⟩ (pd_var 4) (pdo_some (pd_int)) (pdo_none))) (blkOk_by (own := [("_law_own", 14)]) (N := n_law_size_right) (sc := defScope (top 27)) (by decide +kernel)) (fun _ _ _ _ _ => pdg_name (i := 14) sc_law_size_right.nd rfl (by first | exact Or.inl rfl | exact Or.inr rfl)) (fun _ _ _ _ _ => pdts_nil) (fun _ _ _ _ _ => pd_cmp od_is ⟨hK⟩ (pd_var 14) (pd_non) (by first | exact nomark _ | rfl)))) (PDF.pd (pf_lst (pda_cons (pd_var 3) (pda_cons (pd_var 3) (pda_nil))))) (by first | exact nomark _ | rfl))))) (pdss_one (pds_ret (pd_bl))) (pdss_nil)) (pdss_cons (pds_set (i := 5) sc_law_size_right.nd rfl (by first | exact Or.inl rfl | exact Or.inr rfl) (pd_fun h_law_lists hr (Nat.le_refl _) rfl (fun _ => pa0) (pda_cons (pd_var 0) (pda_nil)))) (pdss_cons (pds_if (pdt_not (pdt_val (pd_fun h_law_same hr (Nat.le_refl _) rfl (fun _ => pa0) (pda_cons (PDF.pd (pf_lst (pda_cons (pd_fun h_law_heard hr (Nat.le_refl _) rfl (fun _ => pa0) (pda_cons (pd_int) (pda_cons (pd_var 5) (pda_cons (pd_var 1) (pda_nil))))) (pda_cons (pd_fun h_law_heard hr (Nat.le_refl _) rfl (fun _ => pa0) (pda_cons (pd_int) (pda_cons (pd_var 5) (pda_cons (pd_var 1) (pda_nil))))) (pda_nil))))) (pda_cons (pd_slice ⟨hK⟩ (pd_var 4) (pdo_some (pd_int)) (pdo_none)) (pda_nil)))))) (pdss_one (pds_ret (pd_bl))) (pdss_nil)) (pdss_cons (pds_if (pdt_val (pd_var 3)) (pdss_one (pds_ret (pd_bl))) (pdss_nil)) (pdss_cons (pds_par (i := 7) (j := 8) rfl sc_law_size_right.nd rfl rfl (by decide) rfl rfl (pda_cons (pd_ix ix_at ⟨hK⟩ (pd_var 4) (pd_int) (fun _ _ => rfl)) (pda_cons (pd_ix ix_at ⟨hK⟩ (pd_var 4) (pd_int) (fun _ _ => rfl)) (pda_nil)))) (pdss_cons (pds_if (PDW.pdt (pdw_or (pdt_not (pdt_val (pd_isK1 ⟨hK⟩ (by decide +kernel) (pdq_nm 7) rfl B.tuple (by decide +kernel) rfl B.isinstance))) (pdw_or1 (pdt_cmp (od_ne (hu64 hr)) ⟨hK⟩ (PDF.pd (pf_lc (own := [("_law_own", 14)]) rfl sc_law_size_right.nd (pdi_seq ⟨hK⟩ (pd_var 7)) (blkOk_by (own := [("_law_own", 14)]) (N := n_law_size_right) (sc := defScope (top 27)) (by decide +kernel)) (fun _ _ _ _ _ => pdg_name (i := 14) sc_law_size_right.nd rfl (by first | exact Or.inl rfl | exact Or.inr rfl)) (fun _ _ _ _ _ => pdts_nil) (fun _ _ _ _ _ => pd_isInt ⟨hK⟩ (pdq_nm 14) rfl B.int (by decide +kernel) rfl B.isinstance))) (pd_op od_rep ⟨hK⟩ (PDF.pd (pf_lst (pda_cons (pd_bl) (pda_nil)))) (pd_int)) (by first | exact nomark _ | rfl))))) (pdss_one (pds_ret (pd_bl))) (pdss_nil)) (pdss_cons (pds_if (PDW.pdt (pdw_or (pdt_not (pdt_val (pd_isK1 ⟨hK⟩ (by decide +kernel) (pdq_nm 8) rfl B.tuple (by decide +kernel) rfl B.isinstance))) (pdw_or (pdt_cmp (od_eq (hu64 hr)) ⟨hK⟩ (pd_var 8) (pd_var 0) (by first | exact nomark _ | rfl)) (pdw_or1 (pdt_cmp (od_ne (hu64 hr)) ⟨hK⟩ (pd_fun h_law_cut hr (Nat.le_refl _) rfl (fun _ => pa0) (pda_cons (pd_var 8) (pda_cons (pd_var 1) (pda_nil)))) (pd_fun h_law_cut hr (Nat.le_refl _) rfl (fun _ => pa0) (pda_cons (pd_var 0) (pda_cons (pd_var 1) (pda_nil)))) (by first | exact nomark _ | rfl)))))) (pdss_one (pds_ret (pd_bl))) (pdss_nil)) (pdss_cons (pds_asg (pd_var 7) (pdg_tup rfl ⟨hK⟩ (pdgs_cons (pdg_name (i := 9) sc_law_size_right.nd rfl (by first | exact Or.inl rfl | exact Or.inr rfl)) (pdgs_cons (pdg_name (i := 10) sc_law_size_right.nd rfl (by first | exact Or.inl rfl | exact Or.inr rfl)) (pdgs_cons (pdg_name (i := 11) sc_law_size_right.nd rfl (by first | exact Or.inl rfl | exact Or.inr rfl)) (pdgs_cons (pdg_name (i := 12) sc_law_size_right.nd rfl (by first | exact Or.inl rfl | exact Or.inr rfl)) (pdgs_nil))))) (stCons_len (stCons_len (stCons_len (stCons_len stNil_len)))))) (pdss_cons (pds_set (i := 6) sc_law_size_right.nd rfl (by first | exact Or.inl rfl | exact Or.inr rfl) (pd_op od_add ⟨hK⟩ (pd_op od_add ⟨hK⟩ (pd_slice ⟨hK⟩ (pd_var 0) (pdo_none) (pdo_some (pd_var 9))) (pd_slice ⟨hK⟩ (pd_var 0) (pdo_some (pd_var 11)) (pdo_some (pd_var 12)))) (pd_slice ⟨hK⟩ (pd_var 0) (pdo_some (pd_var 10)) (pdo_some (pd_var 11))))) (pdss_cons (pds_set (i := 6) sc_law_size_right.nd rfl (by first | exact Or.inl rfl | exact Or.inr rfl) (pd_op od_add ⟨hK⟩ (pd_op od_add ⟨hK⟩ (pd_var 6) (pd_slice ⟨hK⟩ (pd_var 0) (pdo_some (pd_var 9)) (pdo_some (pd_var 10)))) (pd_slice ⟨hK⟩ (pd_var 0) (pdo_some (pd_var 12)) (pdo_none)))) (pdss_one (pds_ret (pd_and (pd_fun h_law_crosses hr (Nat.le_refl _) rfl (fun _ => pa0) (pda_cons (pd_var 0) (pda_cons (pd_var 1) (pda_cons (pd_var 7) (pda_nil))))) (pd_and (pd_cmp (od_in (hu65 hr)) ⟨hK⟩ (pd_var 6) (pd_var 2) (by first | exact nomark _ | rfl)) (pd_one (pd_cmp (od_ne (hu64 hr)) ⟨hK⟩ (pd_var 6) (pd_var 0) (by first | exact nomark _ | rfl))))))))))))))))))) (fun ds n k ke h => himp_size67 ds n k ke h rfl)
abbrev n_law_by_hand_right : List Str := ["_law_got", "_law_due", "_law_door", "_law_trip", "_law_ring_so"]
theorem sc_law_by_hand_right : FnScope n_law_by_hand_right [] (defScope (top 28)) := ⟨rfl, rfl, rfl, by decide +kernel, rfl, by decide +kernel, by decide +kernel⟩
theorem ok_law_by_hand_right {f : Addr} {fd : FuncData} {k : Nat} (F : Fun K "_law_by_hand_right" "_law_by_hand_right" (top 28) f fd) (B : Bl mg) (hK : g.K = K) (h_crossing_by : HasF P w K mg base (L2.CX P w) g k "crossing_by" ["journey", "size"] sdCrossBy) (h_twin_by : HasF P w K mg base (L2.CX P w) g k "twin_by" ["journey", "size"] sdTwinBy) (h_is_told_by : HasF P w K mg base (L2.CX P w) g k "is_told_by" ["journey", "size"] sdToldBy) (hFP_is_told_by_1_0 : HasFP P w K mg base (L2.CX P w) g k "is_told_by" ["journey", "size"] ["size", "journey"] [1, 0] sdToldBy) (h_law_heard : HasF P w K mg base CX0 g k "_law_heard" ["_law_door", "_law_row_so", "_law_far"] sdHeard67) (h_law_same : HasF P w K mg base CX0 g k "_law_same" ["_law_got", "_law_due"] sdSame) : FnOk P w K mg base CX0 (k + 1) f fd [] (spD g sdByHand39) :=
  fnD (cs := cs_by_hand67) F sc_law_by_hand_right (fun ds _ _ _ h => by obtain ⟨rfl, _⟩ := h; rfl) (fun cdv A outer s H E hr => pdss_cons (pds_asg (pd_tup (pda_cons (pd_tup (pda_cons (pd_str) (pda_cons (pd_str) (pda_cons (pd_str) (pda_cons (pd_str) (pda_cons (pd_str) (pda_nil))))))) (pda_cons (pd_tup (pda_cons (pd_str) (pda_cons (pd_str) (pda_cons (pd_str) (pda_cons (pd_str) (pda_cons (pd_str) (pda_cons (pd_str) (pda_cons (pd_str) (pda_nil))))))))) (pda_nil)))) (pdg_tup rfl ⟨hK⟩ (pdgs_cons (pdg_name (i := 3) sc_law_by_hand_right.nd rfl (by first | exact Or.inl rfl | exact Or.inr rfl)) (pdgs_cons (pdg_name (i := 4) sc_law_by_hand_right.nd rfl (by first | exact Or.inl rfl | exact Or.inr rfl)) (pdgs_nil))) (stCons_len (stCons_len stNil_len)))) (pdss_cons (pds_own (i := 0) sc_law_by_hand_right.nd rfl (by first | exact Or.inl rfl | exact Or.inr rfl) (pf_lst (pda_cons (pd_fun h_crossing_by hr (Nat.le_refl _) rfl (paF) (pda_cons (pd_var 3) (pda_cons (pd_int) (pda_nil)))) (pda_cons (pd_fun h_twin_by hr (Nat.le_refl _) rfl (paF) (pda_cons (pd_var 3) (pda_cons (pd_int) (pda_nil)))) (pda_cons (pd_fun h_is_told_by hr (Nat.le_refl _) rfl (paF) (pda_cons (pd_var 3) (pda_cons (pd_int) (pda_nil)))) (pda_nil)))))) (pdss_cons (pds_own (i := 0) sc_law_by_hand_right.nd rfl (by first | exact Or.inl rfl | exact Or.inr rfl) (pf_add (pd_var 0) (PDF.pd (pf_lst (pda_cons (pd_funP (ks := ["size", "journey"]) (is := [1, 0]) hFP_is_told_by_1_0 hr (Nat.le_refl _) (by rfl) (paF) (pdk_cons (pd_int) (pdk_cons (pd_var 3) (pdk_nil)))) (pda_nil)))))) (pdss_cons (pds_set (i := 1) sc_law_by_hand_right.nd rfl (by first | exact Or.inl rfl | exact Or.inr rfl) (PDF.pd (pf_lst (pda_cons (pd_tup (pda_cons (pd_int) (pda_cons (pd_int) (pda_cons (pd_int) (pda_cons (pd_int) (pda_nil)))))) (pda_cons (pd_tup (pda_cons (pd_str) (pda_cons (pd_str) (pda_cons (pd_str) (pda_cons (pd_str) (pda_cons (pd_str) (pda_nil))))))) (pda_cons (pd_bl) (pda_cons (pd_bl) (pda_nil)))))))) (pdss_cons (pds_own (i := 0) sc_law_by_hand_right.nd rfl (by first | exact Or.inl rfl | exact Or.inr rfl) (pf_add (pd_var 0) (PDF.pd (pf_lst (pda_cons (pd_fun h_is_told_by hr (Nat.le_refl _) rfl (paF) (pda_cons (pd_var 4) (pda_cons (pd_int) (pda_nil)))) (pda_cons (pd_fun h_crossing_by hr (Nat.le_refl _) rfl (paF) (pda_cons (pd_op od_repT ⟨hK⟩ (pd_tup (pda_cons (pd_str) (pda_cons (pd_str) (pda_cons (pd_str) (pda_nil))))) (pd_int)) (pda_cons (pd_int) (pda_nil)))) (pda_nil))))))) (pdss_cons (pds_own (i := 0) sc_law_by_hand_right.nd rfl (by first | exact Or.inl rfl | exact Or.inr rfl) (pf_add (pd_var 0) (PDF.pd (pf_lst (pda_cons (pd_fun h_twin_by hr (Nat.le_refl _) rfl (paF) (pda_cons (pd_tup (pda_cons (pd_str) (pda_cons (pd_str) (pda_cons (pd_str) (pda_cons (pd_str) (pda_cons (pd_str) (pda_nil))))))) (pda_cons (pd_int) (pda_nil)))) (pda_nil)))))) (pdss_cons (pds_set (i := 1) sc_law_by_hand_right.nd rfl (by first | exact Or.inl rfl | exact Or.inr rfl) (pd_op od_add ⟨hK⟩ (pd_var 1) (PDF.pd (pf_lst (pda_cons (pd_bl) (pda_cons (pd_non) (pda_cons (pd_non) (pda_nil)))))))) (pdss_cons (pds_own (i := 0) sc_law_by_hand_right.nd rfl (by first | exact Or.inl rfl | exact Or.inr rfl) (pf_add (pd_var 0) (PDF.pd (pf_lst (pda_cons (pd_fun h_crossing_by hr (Nat.le_refl _) rfl (paF) (pda_cons (pd_tup (pda_cons (pd_str) (pda_cons (pd_str) (pda_cons (pd_str) (pda_cons (pd_str) (pda_cons (pd_str) (pda_nil))))))) (pda_cons (pd_int) (pda_nil)))) (pda_cons (pd_fun h_twin_by hr (Nat.le_refl _) rfl (paF) (pda_cons (pd_tup (pda_cons (pd_str) (pda_cons (pd_str) (pda_cons (pd_str) (pda_cons (pd_str) (pda_cons (pd_str) (pda_nil))))))) (pda_cons (pd_int) (pda_nil)))) (pda_nil))))))) (pdss_cons (pds_set (i := 1) sc_law_by_hand_right.nd rfl (by first | exact Or.inl rfl | exact Or.inr rfl) (pd_op od_add ⟨hK⟩ (pd_var 1) (PDF.pd (pf_lst (pda_cons (pd_tup (pda_cons (pd_int) (pda_cons (pd_int) (pda_cons (pd_int) (pda_cons (pd_int) (pda_nil)))))) (pda_cons (pd_tup (pda_cons (pd_str) (pda_cons (pd_str) (pda_cons (pd_str) (pda_cons (pd_str) (pda_cons (pd_str) (pda_nil))))))) (pda_nil))))))) (pdss_cons (pds_own (i := 0) sc_law_by_hand_right.nd rfl (by first | exact Or.inl rfl | exact Or.inr rfl) (pf_add (pd_var 0) (PDF.pd (pf_lst (pda_cons (pd_fun h_is_told_by hr (Nat.le_refl _) rfl (paF) (pda_cons (pd_tup (pda_cons (pd_str) (pda_cons (pd_str) (pda_cons (pd_str) (pda_cons (pd_str) (pda_cons (pd_str) (pda_cons (pd_str) (pda_cons (pd_str) (pda_nil))))))))) (pda_cons (pd_int) (pda_nil)))) (pda_cons (pd_fun h_is_told_by hr (Nat.le_refl _) rfl (paF) (pda_cons (pd_tup (pda_cons (pd_str) (pda_nil))) (pda_cons (pd_int) (pda_nil)))) (pda_nil))))))) (pdss_cons (pds_own (i := 0) sc_law_by_hand_right.nd rfl (by first | exact Or.inl rfl | exact Or.inr rfl) (pf_add (pd_var 0) (PDF.pd (pf_lst (pda_cons (pd_fun h_is_told_by hr (Nat.le_refl _) rfl (paF) (pda_cons (pd_var 3) (pda_cons (pd_int) (pda_nil)))) (pda_nil)))))) (pdss_cons (pds_set (i := 1) sc_law_by_hand_right.nd rfl (by first | exact Or.inl rfl | exact Or.inr rfl) (pd_op od_add ⟨hK⟩ (pd_var 1) (PDF.pd (pf_lst (pda_cons (pd_bl) (pda_cons (pd_bl) (pda_cons (pd_bl) (pda_nil)))))))) (pdss_cons (pds_for PassesOwn.never rfl (pdi_range1 rfl B.range (pda_cons (pd_int) (pda_nil))) (pdg_name (i := 2) sc_law_by_hand_right.nd rfl (by first | exact Or.inl rfl | exact Or.inr rfl)) (pdss_one (pds_own (i := 0) sc_law_by_hand_right.nd rfl (by first | exact Or.inl rfl | exact Or.inr rfl) (pf_add (pd_var 0) (PDF.pd (pf_lst (pda_cons (pd_fun h_law_heard hr (Nat.le_refl _) rfl (fun _ => pa0) (pda_cons (pd_var 2) (pda_cons (pd_var 3) (pda_cons (pd_int) (pda_nil))))) (pda_cons (pd_fun h_law_heard hr (Nat.le_refl _) rfl (fun _ => pa0) (pda_cons (pd_var 2) (pda_cons (pd_var 3) (pda_cons (pd_int) (pda_nil))))) (pda_nil))))))))) (pdss_cons (pds_expr (pd_append 0 (pd_fun h_law_heard hr (Nat.le_refl _) rfl (fun _ => pa0) (pda_cons (pd_int) (pda_cons (pd_tup (pda_cons (pd_str) (pda_nil))) (pda_cons (pd_int) (pda_nil))))))) (pdss_one (pds_ret (pd_fun h_law_same hr (Nat.le_refl _) rfl (fun _ => pa0) (pda_cons (pd_var 0) (pda_cons (pd_op od_add ⟨hK⟩ (pd_op od_add ⟨hK⟩ (pd_var 1) (pd_op od_rep ⟨hK⟩ (PDF.pd (pf_lst (pda_cons (PDF.pd (pf_lst (pda_cons (pd_str) (pda_cons (pd_int) (pda_nil))))) (pda_cons (PDF.pd (pf_lst (pda_cons (pd_str) (pda_cons (pd_int) (pda_nil))))) (pda_nil))))) (pd_int))) (PDF.pd (pf_lst (pda_cons (PDF.pd (pf_lst (pda_cons (pd_str) (pda_cons (pd_int) (pda_nil))))) (pda_nil))))) (pda_nil)))))))))))))))))))) (fun ds n k ke h => himp_by_hand67 ds n k ke h rfl)
abbrev n_law_right : List Str := ["_law_box_here", "_law_row_so", "_law_all_so", "_law_last_so", "_law_far"]
theorem sc_law_right : FnScope n_law_right ["_law_box_here"] (defScope (top 29)) := ⟨rfl, rfl, rfl, by decide +kernel, rfl, by decide +kernel, by decide +kernel⟩
theorem ok_law_right {f : Addr} {fd : FuncData} {k : Nat} (F : Fun K "_law_right" "_law_right" (top 29) f fd) (B : Bl mg) (hK : g.K = K) (h_law_walk : HasF P w K mg base CX0 g k "_law_walk" ["_law_box_here", "_law_tags_here", "_law_most_so"] sdWalkB) (h_law_tags : HasF P w K mg base CX0 g k "_law_tags" ["_law_box_here", "_law_many_so"] sdTags) (h_law_take : HasF P w K mg base CX0 g k "_law_take" ["_law_box_here", "_law_below"] sdTake) (h_law_all : HasF P w K mg base CX0 g k "_law_all" ["_law_first_so", "_law_rows_so"] sdAllB) (h_law_tally : HasF P w K mg base CX0 g k "_law_tally" ["_law_row_so"] sdTally) (h_law_size_right : HasF P w K mg base CX0 g k "_law_size_right" ["_law_row_so", "_law_far", "_law_all_so"] sdSize67) : FnOk P w K mg base CX0 (k + 1) f fd ["_law_box_here"] (spD g (sdRightN 500000 3000)) :=
  fnD (cs := cs_right67) F sc_law_right (fun ds _ _ _ h => by obtain ⟨rfl, _⟩ := h; rfl) (fun cdv A outer s H E hr => pdss_cons (pds_set (i := 1) sc_law_right.nd rfl (by first | exact Or.inl rfl | exact Or.inr rfl) (pd_fun h_law_walk hr (Nat.le_refl _) rfl (fun _ => pa0) (pda_cons (pd_var 0) (pda_cons (pd_fun h_law_tags hr (Nat.le_refl _) rfl (fun _ => pa0) (pda_cons (pd_var 0) (pda_cons (pd_op od_add ⟨hK⟩ (pd_int) (pd_fun h_law_take hr (Nat.le_refl _) rfl (fun _ => pa0) (pda_cons (pd_var 0) (pda_cons (pd_int) (pda_nil))))) (pda_nil)))) (pda_cons (pd_int) (pda_nil)))))) (pdss_cons (pds_set (i := 2) sc_law_right.nd rfl (by first | exact Or.inl rfl | exact Or.inr rfl) (pd_fun h_law_all hr (Nat.le_refl _) rfl (fun _ => pa0) (pda_cons (pd_ix ix_at ⟨hK⟩ (pd_var 1) (pd_int) (fun _ _ => rfl)) (pda_cons (pd_fun h_law_tally hr (Nat.le_refl _) rfl (fun _ => pa0) (pda_cons (pd_var 1) (pda_nil))) (pda_nil))))) (pdss_cons (pds_if (pdt_cmp od_gt ⟨hK⟩ (pd_callB cd_len ⟨hK⟩ rfl B.len (by decide +kernel) (pda_cons (pd_var 2) (pda_nil))) (pd_int) (by first | exact nomark _ | rfl)) (pdss_one (pds_ret (pd_bl))) (pdss_nil)) (pdss_cons (pds_set (i := 3) sc_law_right.nd rfl (by first | exact Or.inl rfl | exact Or.inr rfl) (pd_callB (cd_min rfl) ⟨hK⟩ rfl B.min (by decide +kernel) (pda_cons (pd_int) (pda_cons (pd_op od_add ⟨hK⟩ (pd_callB cd_len ⟨hK⟩ rfl B.len (by decide +kernel) (pda_cons (pd_var 1) (pda_nil))) (pd_int)) (pda_nil))))) (pdss_one (pds_ret (pd_callB (cd_all rfl) ⟨hK⟩ rfl B.all (by decide +kernel) (pda_cons (PDF.pd (pf_lc (own := [("_law_far", 4)]) rfl sc_law_right.nd (pdi_range2 rfl B.range (pda_cons (pd_int) (pda_cons (pd_op od_add ⟨hK⟩ (pd_var 3) (pd_int)) (pda_nil)))) (blkOk_by (own := [("_law_far", 4)]) (N := n_law_right) (sc := defScope (top 29)) (by decide +kernel)) (fun _ _ _ _ _ => pdg_name (i := 4) sc_law_right.nd rfl (by first | exact Or.inl rfl | exact Or.inr rfl)) (fun _ _ _ _ _ => pdts_nil) (fun _ _ _ _ _ => pd_fun h_law_size_right hr (Nat.le_refl _) rfl (fun _ => pa0) (pda_cons (pd_var 1) (pda_cons (pd_var 4) (pda_cons (pd_var 2) (pda_nil))))))) (pda_nil))))))))) (fun ds n k ke h => himp_right67 ds n k ke h rfl)
theorem se_NoSize : FnScope ["self", "number"] ["self", "number"] (defScope (mem 1 0)) := ⟨rfl, rfl, rfl, by decide +kernel, rfl, by decide +kernel, by decide +kernel⟩
theorem oe_NoSize {f C fI : Addr} {fd : FuncData} {k : Nat} (F : Fun K "__init__" "NoSize.__init__" (mem 1 0) f fd) : FnOk P w K mg base CX0 (k + 1) f fd ["self", "number"] (spErr K C fI ["number"]) :=
  err1 F se_NoSize fun cdv A outer s H E => pss_one (ps_ox (pv 0) (pv 1))
end
end K67
namespace K67
open PySem PySem.Spec PyProof.Rows L2 CS RM
theorem all_mk {l : PySem.W.OpenLaw} {w : World} {K : PySem.W.Frag} {h : Heap} {mg : Str → Option Value} {fa f1 f2 f3 f4 f5 f6 f7 f8 f9 f10 f11 f12 f13 f14 f15 f16 f17 f18 f19 f20 f21 f22 f23 f24 f25 f26 : Addr} (X : K.In h) (G : h.Ns mainGlobals mg) (hfa : mg "law" = some (.ref fa))
    {od1 an1 od2 an2 od3 an3 od4 an4 od5 an5 od6 an6 od7 an7 od8 an8 od9 an9 od10 an10 od11 an11 od12 an12 od13 an13 od14 an14 od15 an15 od16 an16 od17 an17 od18 an18 od19 an19 od20 an20 od21 an21 od22 an22 od23 an23 od24 an24 od25 an25 od26 an26 : Option Addr} {sl1 sl2 sl3 sl4 sl5 sl6 sl7 sl8 sl9 sl10 sl11 sl12 sl13 sl14 sl15 sl16 sl17 sl18 sl19 sl20 sl21 sl22 sl23 sl24 sl25 sl26 : Array (Option Value)} {oc1 kV1 dc1 pm1 cd1 ct1 oc2 kV2 dc2 pm2 cd2 ct2 oc3 kV3 dc3 pm3 cd3 ct3 oc4 kV4 dc4 pm4 cd4 ct4 oc5 kV5 dc5 pm5 cd5 ct5 oc6 kV6 dc6 pm6 cd6 ct6 oc7 kV7 dc7 pm7 cd7 ct7 oc8 kV8 dc8 pm8 cd8 ct8 oc9 kV9 dc9 pm9 cd9 ct9 oc10 kV10 dc10 pm10 cd10 ct10 oc11 kV11 dc11 pm11 cd11 ct11 oc12 kV12 dc12 pm12 cd12 ct12 oc13 kV13 dc13 pm13 cd13 ct13 oc14 kV14 dc14 pm14 cd14 ct14 oc15 kV15 dc15 pm15 cd15 ct15 oc16 kV16 dc16 pm16 cd16 ct16 oc17 kV17 dc17 pm17 cd17 ct17 oc18 kV18 dc18 pm18 cd18 ct18 oc19 kV19 dc19 pm19 cd19 ct19 oc20 kV20 dc20 pm20 cd20 ct20 oc21 kV21 dc21 pm21 cd21 ct21 oc22 kV22 dc22 pm22 cd22 ct22 oc23 kV23 dc23 pm23 cd23 ct23 oc24 kV24 dc24 pm24 cd24 ct24 oc25 kV25 dc25 pm25 cd25 ct25 oc26 kV26 dc26 pm26 cd26 ct26 : Value}
    (a1 : PySem.W.nsIn K mainGlobals "is_number" = some (some (.ref f1))) (l1 : K.lookup f1 = some ⟨oc1, od1, .func (PySem.W.fnOf "is_number" "is_number" (defArgs (top 3)) (defBody (top 3)) (defScope (top 3)) .none kV1 dc1 pm1 an1 cd1 ct1), sl1⟩) (c1 : PySem.W.codeIn K cd1 "is_number" = true) (k1 : PySem.W.keepIn K (.ref f1) = true)
    (a2 : PySem.W.nsIn K mainGlobals "check_size" = some (some (.ref f2))) (l2 : K.lookup f2 = some ⟨oc2, od2, .func (PySem.W.fnOf "check_size" "check_size" (defArgs (top 5)) (defBody (top 5)) (defScope (top 5)) .none kV2 dc2 pm2 an2 cd2 ct2), sl2⟩) (c2 : PySem.W.codeIn K cd2 "check_size" = true) (k2 : PySem.W.keepIn K (.ref f2) = true)
    (a3 : PySem.W.nsIn K mainGlobals "cut" = some (some (.ref f3))) (l3 : K.lookup f3 = some ⟨oc3, od3, .func (PySem.W.fnOf "cut" "cut" (defArgs (top 6)) (defBody (top 6)) (defScope (top 6)) .none kV3 dc3 pm3 an3 cd3 ct3), sl3⟩) (c3 : PySem.W.codeIn K cd3 "cut" = true) (k3 : PySem.W.keepIn K (.ref f3) = true)
    (a4 : PySem.W.nsIn K mainGlobals "is_told_by" = some (some (.ref f4))) (l4 : K.lookup f4 = some ⟨oc4, od4, .func (PySem.W.fnOf "is_told_by" "is_told_by" (defArgs (top 7)) (defBody (top 7)) (defScope (top 7)) .none kV4 dc4 pm4 an4 cd4 ct4), sl4⟩) (c4 : PySem.W.codeIn K cd4 "is_told_by" = true) (k4 : PySem.W.keepIn K (.ref f4) = true)
    (a5 : PySem.W.nsIn K mainGlobals "crossing_by" = some (some (.ref f5))) (l5 : K.lookup f5 = some ⟨oc5, od5, .func (PySem.W.fnOf "crossing_by" "crossing_by" (defArgs (top 8)) (defBody (top 8)) (defScope (top 8)) .none kV5 dc5 pm5 an5 cd5 ct5), sl5⟩) (c5 : PySem.W.codeIn K cd5 "crossing_by" = true) (k5 : PySem.W.keepIn K (.ref f5) = true)
    (a6 : PySem.W.nsIn K mainGlobals "is_crossing_by" = some (some (.ref f6))) (l6 : K.lookup f6 = some ⟨oc6, od6, .func (PySem.W.fnOf "is_crossing_by" "is_crossing_by" (defArgs (top 9)) (defBody (top 9)) (defScope (top 9)) .none kV6 dc6 pm6 an6 cd6 ct6), sl6⟩) (c6 : PySem.W.codeIn K cd6 "is_crossing_by" = true) (k6 : PySem.W.keepIn K (.ref f6) = true)
    (a7 : PySem.W.nsIn K mainGlobals "twin_by" = some (some (.ref f7))) (l7 : K.lookup f7 = some ⟨oc7, od7, .func (PySem.W.fnOf "twin_by" "twin_by" (defArgs (top 10)) (defBody (top 10)) (defScope (top 10)) .none kV7 dc7 pm7 an7 cd7 ct7), sl7⟩) (c7 : PySem.W.codeIn K cd7 "twin_by" = true) (k7 : PySem.W.keepIn K (.ref f7) = true)
    (a8 : PySem.W.nsIn K mainGlobals "_law_box" = some (some (.ref f8))) (l8 : K.lookup f8 = some ⟨oc8, od8, .func (PySem.W.fnOf "_law_box" "_law_box" (defArgs sBox) (defBody sBox) (defScope sBox) .none kV8 dc8 pm8 an8 cd8 ct8), sl8⟩) (c8 : PySem.W.codeIn K cd8 "_law_box" = true) (k8 : PySem.W.keepIn K (.ref f8) = true)
    (a9 : PySem.W.nsIn K mainGlobals "_law_take" = some (some (.ref f9))) (l9 : K.lookup f9 = some ⟨oc9, od9, .func (PySem.W.fnOf "_law_take" "_law_take" (defArgs sTake) (defBody sTake) (defScope sTake) .none kV9 dc9 pm9 an9 cd9 ct9), sl9⟩) (c9 : PySem.W.codeIn K cd9 "_law_take" = true) (k9 : PySem.W.keepIn K (.ref f9) = true)
    (a10 : PySem.W.nsIn K mainGlobals "_law_cells" = some (some (.ref f10))) (l10 : K.lookup f10 = some ⟨oc10, od10, .func (PySem.W.fnOf "_law_cells" "_law_cells" (defArgs sCells) (defBody sCells) (defScope sCells) .none kV10 dc10 pm10 an10 cd10 ct10), sl10⟩) (c10 : PySem.W.codeIn K cd10 "_law_cells" = true) (k10 : PySem.W.keepIn K (.ref f10) = true)
    (a11 : PySem.W.nsIn K mainGlobals "_law_of" = some (some (.ref f11))) (l11 : K.lookup f11 = some ⟨oc11, od11, .func (PySem.W.fnOf "_law_of" "_law_of" (defArgs (top 15)) (defBody (top 15)) (defScope (top 15)) .none kV11 dc11 pm11 an11 cd11 ct11), sl11⟩) (c11 : PySem.W.codeIn K cd11 "_law_of" = true) (k11 : PySem.W.keepIn K (.ref f11) = true)
    (a12 : PySem.W.nsIn K mainGlobals "_law_pick" = some (some (.ref f12))) (l12 : K.lookup f12 = some ⟨oc12, od12, .func (PySem.W.fnOf "_law_pick" "_law_pick" (defArgs (top 16)) (defBody (top 16)) (defScope (top 16)) .none kV12 dc12 pm12 an12 cd12 ct12), sl12⟩) (c12 : PySem.W.codeIn K cd12 "_law_pick" = true) (k12 : PySem.W.keepIn K (.ref f12) = true)
    (a13 : PySem.W.nsIn K mainGlobals "_law_lists" = some (some (.ref f13))) (l13 : K.lookup f13 = some ⟨oc13, od13, .func (PySem.W.fnOf "_law_lists" "_law_lists" (defArgs (top 17)) (defBody (top 17)) (defScope (top 17)) .none kV13 dc13 pm13 an13 cd13 ct13), sl13⟩) (c13 : PySem.W.codeIn K cd13 "_law_lists" = true) (k13 : PySem.W.keepIn K (.ref f13) = true)
    (a14 : PySem.W.nsIn K mainGlobals "_law_same" = some (some (.ref f14))) (l14 : K.lookup f14 = some ⟨oc14, od14, .func (PySem.W.fnOf "_law_same" "_law_same" (defArgs sSame) (defBody sSame) (defScope sSame) .none kV14 dc14 pm14 an14 cd14 ct14), sl14⟩) (c14 : PySem.W.codeIn K cd14 "_law_same" = true) (k14 : PySem.W.keepIn K (.ref f14) = true)
    (a15 : PySem.W.nsIn K mainGlobals "_law_tags" = some (some (.ref f15))) (l15 : K.lookup f15 = some ⟨oc15, od15, .func (PySem.W.fnOf "_law_tags" "_law_tags" (defArgs (top 19)) (defBody (top 19)) (defScope (top 19)) .none kV15 dc15 pm15 an15 cd15 ct15), sl15⟩) (c15 : PySem.W.codeIn K cd15 "_law_tags" = true) (k15 : PySem.W.keepIn K (.ref f15) = true)
    (a16 : PySem.W.nsIn K mainGlobals "_law_walk" = some (some (.ref f16))) (l16 : K.lookup f16 = some ⟨oc16, od16, .func (PySem.W.fnOf "_law_walk" "_law_walk" (defArgs (top 20)) (defBody (top 20)) (defScope (top 20)) .none kV16 dc16 pm16 an16 cd16 ct16), sl16⟩) (c16 : PySem.W.codeIn K cd16 "_law_walk" = true) (k16 : PySem.W.keepIn K (.ref f16) = true)
    (a17 : PySem.W.nsIn K mainGlobals "_law_tally" = some (some (.ref f17))) (l17 : K.lookup f17 = some ⟨oc17, od17, .func (PySem.W.fnOf "_law_tally" "_law_tally" (defArgs (top 21)) (defBody (top 21)) (defScope (top 21)) .none kV17 dc17 pm17 an17 cd17 ct17), sl17⟩) (c17 : PySem.W.codeIn K cd17 "_law_tally" = true) (k17 : PySem.W.keepIn K (.ref f17) = true)
    (a18 : PySem.W.nsIn K mainGlobals "_law_less" = some (some (.ref f18))) (l18 : K.lookup f18 = some ⟨oc18, od18, .func (PySem.W.fnOf "_law_less" "_law_less" (defArgs (top 22)) (defBody (top 22)) (defScope (top 22)) .none kV18 dc18 pm18 an18 cd18 ct18), sl18⟩) (c18 : PySem.W.codeIn K cd18 "_law_less" = true) (k18 : PySem.W.keepIn K (.ref f18) = true)
    (a19 : PySem.W.nsIn K mainGlobals "_law_all" = some (some (.ref f19))) (l19 : K.lookup f19 = some ⟨oc19, od19, .func (PySem.W.fnOf "_law_all" "_law_all" (defArgs (top 23)) (defBody (top 23)) (defScope (top 23)) .none kV19 dc19 pm19 an19 cd19 ct19), sl19⟩) (c19 : PySem.W.codeIn K cd19 "_law_all" = true) (k19 : PySem.W.keepIn K (.ref f19) = true)
    (a20 : PySem.W.nsIn K mainGlobals "_law_cut" = some (some (.ref f20))) (l20 : K.lookup f20 = some ⟨oc20, od20, .func (PySem.W.fnOf "_law_cut" "_law_cut" (defArgs (top 24)) (defBody (top 24)) (defScope (top 24)) .none kV20 dc20 pm20 an20 cd20 ct20), sl20⟩) (c20 : PySem.W.codeIn K cd20 "_law_cut" = true) (k20 : PySem.W.keepIn K (.ref f20) = true)
    (a21 : PySem.W.nsIn K mainGlobals "_law_crosses" = some (some (.ref f21))) (l21 : K.lookup f21 = some ⟨oc21, od21, .func (PySem.W.fnOf "_law_crosses" "_law_crosses" (defArgs (top 25)) (defBody (top 25)) (defScope (top 25)) .none kV21 dc21 pm21 an21 cd21 ct21), sl21⟩) (c21 : PySem.W.codeIn K cd21 "_law_crosses" = true) (k21 : PySem.W.keepIn K (.ref f21) = true)
    (a22 : PySem.W.nsIn K mainGlobals "_law_heard" = some (some (.ref f22))) (l22 : K.lookup f22 = some ⟨oc22, od22, .func (PySem.W.fnOf "_law_heard" "_law_heard" (defArgs (top 26)) (defBody (top 26)) (defScope (top 26)) .none kV22 dc22 pm22 an22 cd22 ct22), sl22⟩) (c22 : PySem.W.codeIn K cd22 "_law_heard" = true) (k22 : PySem.W.keepIn K (.ref f22) = true)
    (a23 : PySem.W.nsIn K mainGlobals "_law_size_right" = some (some (.ref f23))) (l23 : K.lookup f23 = some ⟨oc23, od23, .func (PySem.W.fnOf "_law_size_right" "_law_size_right" (defArgs (top 27)) (defBody (top 27)) (defScope (top 27)) .none kV23 dc23 pm23 an23 cd23 ct23), sl23⟩) (c23 : PySem.W.codeIn K cd23 "_law_size_right" = true) (k23 : PySem.W.keepIn K (.ref f23) = true)
    (a24 : PySem.W.nsIn K mainGlobals "_law_by_hand_right" = some (some (.ref f24))) (l24 : K.lookup f24 = some ⟨oc24, od24, .func (PySem.W.fnOf "_law_by_hand_right" "_law_by_hand_right" (defArgs (top 28)) (defBody (top 28)) (defScope (top 28)) .none kV24 dc24 pm24 an24 cd24 ct24), sl24⟩) (c24 : PySem.W.codeIn K cd24 "_law_by_hand_right" = true) (k24 : PySem.W.keepIn K (.ref f24) = true)
    (a25 : PySem.W.nsIn K mainGlobals "_law_right" = some (some (.ref f25))) (l25 : K.lookup f25 = some ⟨oc25, od25, .func (PySem.W.fnOf "_law_right" "_law_right" (defArgs (top 29)) (defBody (top 29)) (defScope (top 29)) .none kV25 dc25 pm25 an25 cd25 ct25), sl25⟩) (c25 : PySem.W.codeIn K cd25 "_law_right" = true) (k25 : PySem.W.keepIn K (.ref f25) = true)
    (a26 : PySem.W.nsIn K mainGlobals "law" = some (some (.ref f26))) (l26 : K.lookup f26 = some ⟨oc26, od26, .func (PySem.W.fnOf "law" "law" (defArgs sLaw) (defBody sLaw) (defScope sLaw) .none kV26 dc26 pm26 an26 cd26 ct26), sl26⟩) (c26 : PySem.W.codeIn K cd26 "law" = true) (k26 : PySem.W.keepIn K (.ref f26) = true)
    (z1 : PySem.W.nsIn K mainGlobals "len" = some none)
    (z2 : PySem.W.nsIn K mainGlobals "sum" = some none)
    (z3 : PySem.W.nsIn K mainGlobals "all" = some none)
    (z4 : PySem.W.nsIn K mainGlobals "any" = some none)
    (z5 : PySem.W.nsIn K mainGlobals "min" = some none)
    (z6 : PySem.W.nsIn K mainGlobals "max" = some none)
    (z7 : PySem.W.nsIn K mainGlobals "sorted" = some none)
    (z8 : PySem.W.nsIn K mainGlobals "tuple" = some none)
    (z9 : PySem.W.nsIn K mainGlobals "list" = some none)
    (z10 : PySem.W.nsIn K mainGlobals "set" = some none)
    (z11 : PySem.W.nsIn K mainGlobals "dict" = some none)
    (z12 : PySem.W.nsIn K mainGlobals "range" = some none)
    (z13 : PySem.W.nsIn K mainGlobals "zip" = some none)
    (z14 : PySem.W.nsIn K mainGlobals "enumerate" = some none)
    (z15 : PySem.W.nsIn K mainGlobals "isinstance" = some none)
    (z16 : PySem.W.nsIn K mainGlobals "abs" = some none)
    (z17 : PySem.W.nsIn K mainGlobals "int" = some none)
    (z18 : PySem.W.nsIn K mainGlobals "str" = some none)
    (z19 : PySem.W.nsIn K mainGlobals "repr" = some none)
    (z20 : PySem.W.nsIn K mainGlobals "bool" = some none)
    (z21 : PySem.W.nsIn K mainGlobals "ValueError" = some none)
    (z22 : PySem.W.nsIn K mainGlobals "LookupError" = some none)
    (z23 : PySem.W.nsIn K mainGlobals "reversed" = some none)
    {x_NoSize : Addr} (a_NoSize : PySem.W.nsIn K mainGlobals "NoSize" = some (some (.ref x_NoSize)))
    {f_ENoSize : Addr} (i_ENoSize : PySem.W.findIn K (.ref x_NoSize) "__init__" = some (some (.ref f_ENoSize)))
    {oc_ENoSize : Value} {od_ENoSize : Option Addr} {kV_ENoSize dc_ENoSize pm_ENoSize : Value} {an_ENoSize : Option Addr} {cd_ENoSize ct_ENoSize : Value} {sl_ENoSize : Array (Option Value)} (l_ENoSize : K.lookup f_ENoSize = some ⟨oc_ENoSize, od_ENoSize, .func (PySem.W.fnOf "__init__" "NoSize.__init__" (defArgs (mem 1 0)) (defBody (mem 1 0)) (defScope (mem 1 0)) .none kV_ENoSize dc_ENoSize pm_ENoSize an_ENoSize cd_ENoSize ct_ENoSize), sl_ENoSize⟩)
     (c_ENoSize : PySem.W.codeIn K cd_ENoSize "NoSize.__init__" = true)
     (k_ENoSize : PySem.W.keepIn K (.ref f_ENoSize) = true)
    {nm_NoSize q_NoSize : Str} {N_NoSize : Addr} {bs_NoSize : List Value} {sn_NoSize : List Str} {sub_NoSize : List Value} {ab_NoSize : Bool} {col_NoSize : Option Bool} {dd_NoSize : Option Addr} {u0_NoSize u1_NoSize u2_NoSize u3_NoSize u5_NoSize : Option Value} (xl_NoSize : K.lookup x_NoSize = some (excClassObj nm_NoSize q_NoSize x_NoSize N_NoSize bs_NoSize [.type "ValueError", .type "Exception", .type "BaseException", .type "object"] true sn_NoSize sub_NoSize ab_NoSize col_NoSize dd_NoSize u0_NoSize u1_NoSize u2_NoSize u3_NoSize u5_NoSize "ValueError.__new__"))
     (eb_NoSize : erB K x_NoSize f_ENoSize ["number"] [.type "ValueError", .type "Exception", .type "BaseException", .type "object"] = true)
     (erx : erxB K [(cNoSize, x_NoSize)] ["number"] (fun c => true) = true) :
    ∃ fd : FuncData, (∀ (s : Shared) (v : Value), BindsTo s fd ⟨[v], []⟩ [("_law_script", v)]) ∧ ∀ base : Heap, K.In base → base.Ns mainGlobals mg → FnOk l.prog w K mg base CX0 14 fa fd ["_law_script"] (spLaw K) := by
  have e := hfa.symm.trans (PySem.W.mg_of X G a26)
  cases e
  have F1 := fun_mk (st := (top 3)) l1 c1 k1
  have b1 := F1.binds (ps := ["thing"]) fun _ _ _ _ _ _ us hl => match us, hl with | [_], _ => rfl
  have m1 := PySem.W.mg_of X G a1
  have F2 := fun_mk (st := (top 5)) l2 c2 k2
  have b2 := F2.binds (ps := ["journey", "size"]) fun _ _ _ _ _ _ us hl => match us, hl with | [_, _], _ => rfl
  have m2 := PySem.W.mg_of X G a2
  have F3 := fun_mk (st := (top 6)) l3 c3 k3
  have b3 := F3.binds (ps := ["journey", "size"]) fun _ _ _ _ _ _ us hl => match us, hl with | [_, _], _ => rfl
  have m3 := PySem.W.mg_of X G a3
  have F4 := fun_mk (st := (top 7)) l4 c4 k4
  have b4 := F4.binds (ps := ["journey", "size"]) fun _ _ _ _ _ _ us hl => match us, hl with | [_, _], _ => rfl
  have m4 := PySem.W.mg_of X G a4
  have F5 := fun_mk (st := (top 8)) l5 c5 k5
  have b5 := F5.binds (ps := ["journey", "size"]) fun _ _ _ _ _ _ us hl => match us, hl with | [_, _], _ => rfl
  have m5 := PySem.W.mg_of X G a5
  have F6 := fun_mk (st := (top 9)) l6 c6 k6
  have b6 := F6.binds (ps := ["journey", "size", "thing"]) fun _ _ _ _ _ _ us hl => match us, hl with | [_, _, _], _ => rfl
  have m6 := PySem.W.mg_of X G a6
  have F7 := fun_mk (st := (top 10)) l7 c7 k7
  have b7 := F7.binds (ps := ["journey", "size"]) fun _ _ _ _ _ _ us hl => match us, hl with | [_, _], _ => rfl
  have m7 := PySem.W.mg_of X G a7
  have F8 := fun_mk (st := sBox) l8 c8 k8
  have b8 := F8.binds (ps := ["_law_script", "_law_k"]) fun _ _ _ _ _ _ us hl => match us, hl with | [_, _], _ => rfl
  have m8 := PySem.W.mg_of X G a8
  have F9 := fun_mk (st := sTake) l9 c9 k9
  have b9 := F9.binds (ps := ["_law_box_here", "_law_below"]) fun _ _ _ _ _ _ us hl => match us, hl with | [_, _], _ => rfl
  have m9 := PySem.W.mg_of X G a9
  have F10 := fun_mk (st := sCells) l10 c10 k10
  have b10 := F10.binds (ps := ["_law_script", "_law_most_so"]) fun _ _ _ _ _ _ us hl => match us, hl with | [_, _], _ => rfl
  have m10 := PySem.W.mg_of X G a10
  have F11 := fun_mk (st := (top 15)) l11 c11 k11
  have b11 := F11.binds (ps := ["_law_box_here", "_law_some"]) fun _ _ _ _ _ _ us hl => match us, hl with | [_, _], _ => rfl
  have m11 := PySem.W.mg_of X G a11
  have F12 := fun_mk (st := (top 16)) l12 c12 k12
  have b12 := F12.binds (ps := ["_law_box_here", "_law_pool_so", "_law_many_so"]) fun _ _ _ _ _ _ us hl => match us, hl with | [_, _, _], _ => rfl
  have m12 := PySem.W.mg_of X G a12
  have F13 := fun_mk (st := (top 17)) l13 c13 k13
  have b13 := F13.binds (ps := ["_law_matter"]) fun _ _ _ _ _ _ us hl => match us, hl with | [_], _ => rfl
  have m13 := PySem.W.mg_of X G a13
  have F14 := fun_mk (st := sSame) l14 c14 k14
  have b14 := F14.binds (ps := ["_law_got", "_law_due"]) fun _ _ _ _ _ _ us hl => match us, hl with | [_, _], _ => rfl
  have m14 := PySem.W.mg_of X G a14
  have F15 := fun_mk (st := (top 19)) l15 c15 k15
  have b15 := F15.binds (ps := ["_law_box_here", "_law_many_so"]) fun _ _ _ _ _ _ us hl => match us, hl with | [_, _], _ => rfl
  have m15 := PySem.W.mg_of X G a15
  have F16 := fun_mk (st := (top 20)) l16 c16 k16
  have b16 := F16.binds (ps := ["_law_box_here", "_law_tags_here", "_law_most_so"]) fun _ _ _ _ _ _ us hl => match us, hl with | [_, _, _], _ => rfl
  have m16 := PySem.W.mg_of X G a16
  have F17 := fun_mk (st := (top 21)) l17 c17 k17
  have b17 := F17.binds (ps := ["_law_row_so"]) fun _ _ _ _ _ _ us hl => match us, hl with | [_], _ => rfl
  have m17 := PySem.W.mg_of X G a17
  have F18 := fun_mk (st := (top 22)) l18 c18 k18
  have b18 := F18.binds (ps := ["_law_rows_so", "_law_own"]) fun _ _ _ _ _ _ us hl => match us, hl with | [_, _], _ => rfl
  have m18 := PySem.W.mg_of X G a18
  have F19 := fun_mk (st := (top 23)) l19 c19 k19
  have b19 := F19.binds (ps := ["_law_first_so", "_law_rows_so"]) fun _ _ _ _ _ _ us hl => match us, hl with | [_, _], _ => rfl
  have m19 := PySem.W.mg_of X G a19
  have F20 := fun_mk (st := (top 24)) l20 c20 k20
  have b20 := F20.binds (ps := ["_law_row_so", "_law_far"]) fun _ _ _ _ _ _ us hl => match us, hl with | [_, _], _ => rfl
  have m20 := PySem.W.mg_of X G a20
  have F21 := fun_mk (st := (top 25)) l21 c21 k21
  have b21 := F21.binds (ps := ["_law_row_so", "_law_far", "_law_four"]) fun _ _ _ _ _ _ us hl => match us, hl with | [_, _, _], _ => rfl
  have m21 := PySem.W.mg_of X G a21
  have F22 := fun_mk (st := (top 26)) l22 c22 k22
  have b22 := F22.binds (ps := ["_law_door", "_law_row_so", "_law_far"]) fun _ _ _ _ _ _ us hl => match us, hl with | [_, _, _], _ => rfl
  have m22 := PySem.W.mg_of X G a22
  have F23 := fun_mk (st := (top 27)) l23 c23 k23
  have b23 := F23.binds (ps := ["_law_row_so", "_law_far", "_law_all_so"]) fun _ _ _ _ _ _ us hl => match us, hl with | [_, _, _], _ => rfl
  have m23 := PySem.W.mg_of X G a23
  have F24 := fun_mk (st := (top 28)) l24 c24 k24
  have b24 := F24.binds (ps := []) fun _ _ _ _ _ _ us hl => match us, hl with | [], _ => rfl
  have m24 := PySem.W.mg_of X G a24
  have F25 := fun_mk (st := (top 29)) l25 c25 k25
  have b25 := F25.binds (ps := ["_law_box_here"]) fun _ _ _ _ _ _ us hl => match us, hl with | [_], _ => rfl
  have m25 := PySem.W.mg_of X G a25
  have F26 := fun_mk (st := sLaw) l26 c26 k26
  have y1 := PySem.W.mg_none_of X G z1
  have y2 := PySem.W.mg_none_of X G z2
  have y3 := PySem.W.mg_none_of X G z3
  have y4 := PySem.W.mg_none_of X G z4
  have y5 := PySem.W.mg_none_of X G z5
  have y6 := PySem.W.mg_none_of X G z6
  have y7 := PySem.W.mg_none_of X G z7
  have y8 := PySem.W.mg_none_of X G z8
  have y9 := PySem.W.mg_none_of X G z9
  have y10 := PySem.W.mg_none_of X G z10
  have y11 := PySem.W.mg_none_of X G z11
  have y12 := PySem.W.mg_none_of X G z12
  have y13 := PySem.W.mg_none_of X G z13
  have y14 := PySem.W.mg_none_of X G z14
  have y15 := PySem.W.mg_none_of X G z15
  have y16 := PySem.W.mg_none_of X G z16
  have y17 := PySem.W.mg_none_of X G z17
  have y18 := PySem.W.mg_none_of X G z18
  have y19 := PySem.W.mg_none_of X G z19
  have y20 := PySem.W.mg_none_of X G z20
  have y21 := PySem.W.mg_none_of X G z21
  have y22 := PySem.W.mg_none_of X G z22
  have y23 := PySem.W.mg_none_of X G z23
  have B : Bl mg := ⟨y1, y2, y3, y4, y5, y6, y7, y8, y9, y10, y11, y12, y13, y14, y15, y16, y17, y18, y19, y20, y21, y22⟩
  refine ⟨PySem.W.fnOf "law" "law" (defArgs sLaw) (defBody sLaw) (defScope sLaw) .none kV26 dc26 pm26 an26 cd26 ct26, fun s v => .of_eq rfl, fun base _ _ => ?_⟩
  let g : Glob := ⟨K, fun c => match c with  | 11 => x_NoSize  | _ => x_NoSize⟩
  have F_ENoSize := fun_mk (st := (mem 1 0)) l_ENoSize c_ENoSize k_ENoSize
  have b_ENoSize := F_ENoSize.binds (ps := ["self", "number"]) fun _ _ _ _ _ _ us hl => match us, hl with | [_, _], _ => rfl
  have e_NoSize : HasE l.prog w K mg base g 1 "NoSize" cNoSize ["self", "number"] ["number"] := ⟨f_ENoSize, _, erB_ok PySem.F.excBase_ValueError PySem.F.store_ValueError xl_NoSize eb_NoSize, oe_NoSize (k := 0) F_ENoSize, b_ENoSize, PySem.W.mg_of X G a_NoSize⟩
  have m_NoSize := PySem.W.mg_of X G a_NoSize
  have hX : ErX K g [cNoSize] ["number"] (fun c => true) := erx_ok (g := g) erx (fun p hp => by
    simp only [List.mem_cons, List.not_mem_nil, or_false] at hp
    rcases hp with rfl <;> rfl)
  have T : SmT mg := ⟨y15, y9, y8, y1, y3, y13, y20, y18, y17⟩
  have gM1 := ok_same (P := l.prog) (w := w) (base := base) F14 same_none b14 m14 T
  have gM2 := ok_same F14 gM1 b14 m14 T
  have gM3 := ok_same F14 gM2 b14 m14 T
  have gM4 := ok_same F14 gM3 b14 m14 T
  have gK := ok_take (P := l.prog) (w := w) (base := base) (k := 0) F9 y17
  have v__law_same : FnOk l.prog w K mg base CX0 4 f14 _ ["_law_got", "_law_due"] (spD g sdSame) := FnOk.imp gM4 (fun vs H Q E h => (let ⟨x, y, d, e1, e2, e3, e4, e5⟩ := same_imp (fun d => okS_plain 4 d) h; ⟨x, y, d, e1, e2, e3, okS_okD 4 d e4, e5⟩))
  have v__law_take : FnOk l.prog w K mg base CX0 1 f9 _ ["_law_box_here", "_law_below"] (spD g sdTake) := FnOk.imp gK (fun vs H Q E h => take_imp h)
  have gL1 : FnOk l.prog w K mg base CX0 1 f13 _ ["_law_matter"] (spD g (sdLists 1)) := ok_law_lists (m := 0) (k := 0) F13 B rfl ⟨⟨f13, _, lists_none, b13, k13, m13⟩⟩
  have gL2 : FnOk l.prog w K mg base CX0 2 f13 _ ["_law_matter"] (spD g (sdLists 2)) := ok_law_lists (m := 1) (k := 1) F13 B rfl ⟨⟨f13, _, gL1, b13, k13, m13⟩⟩
  have v__law_lists : FnOk l.prog w K mg base CX0 3 f13 _ ["_law_matter"] (spD g (sdLists 3)) := ok_law_lists (m := 2) (k := 2) F13 B rfl ⟨⟨f13, _, gL2, b13, k13, m13⟩⟩
  have v_is_number : FnOk l.prog w K mg base CX0 1 f1 _ ["thing"] (spD g sdIsNum) := ok_is_number (k := 0) F1 B rfl 
  have v_check_size : FnOk l.prog w K mg base (L2.CX l.prog w) 3 f2 _ ["journey", "size"] (spD g sdCheckSizeX) := ok_check_size (k := 2) F2 B rfl (j := 1) (by decide) ⟨let ⟨a, b, c, d⟩ := e_NoSize.ex; ⟨a, b, c, d.1.mono (by decide : 1 ≤ 1), d.2⟩⟩
  have v_cut : FnOk l.prog w K mg base CX0 1 f3 _ ["journey", "size"] (spD g sdCutW) := ok_cut (k := 0) F3 B rfl 
  have v_crossing_by : FnOk l.prog w K mg base (L2.CX l.prog w) 5 f5 _ ["journey", "size"] (spD g sdCrossBy) := ok_crossing_by (k := 4) F5 B rfl ⟨⟨f2, _, (v_check_size.mono (by decide : 3 ≤ 4)), b2, k2, m2⟩⟩ ⟨⟨f3, _, (v_cut.mono (by decide : 1 ≤ 4)), b3, k3, m3⟩⟩ y23
  have v_is_told_by : FnOk l.prog w K mg base (L2.CX l.prog w) 6 f4 _ ["journey", "size"] (spD g sdToldBy) := ok_is_told_by (k := 5) F4 B rfl ⟨⟨f5, _, v_crossing_by, b5, k5, m5⟩⟩
  have v_twin_by : FnOk l.prog w K mg base (L2.CX l.prog w) 6 f7 _ ["journey", "size"] (spD g sdTwinBy) := ok_twin_by (k := 5) F7 B rfl ⟨⟨f5, _, v_crossing_by, b5, k5, m5⟩⟩
  have v_is_crossing_by : FnOk l.prog w K mg base (L2.CX l.prog w) 5 f6 _ ["journey", "size", "thing"] (spD g sdIsCrossX) := ok_is_crossing_by (k := 4) F6 B rfl ⟨⟨f2, _, (v_check_size.mono (by decide : 3 ≤ 4)), b2, k2, m2⟩⟩ ⟨⟨f1, _, (v_is_number.mono (by decide : 1 ≤ 4)), b1, k1, m1⟩⟩ ⟨⟨f3, _, (v_cut.mono (by decide : 1 ≤ 4)), b3, k3, m3⟩⟩
  have v__law_of : FnOk l.prog w K mg base CX0 2 f11 _ ["_law_box_here", "_law_some"] (spD g sdOf) := ok_law_of (k := 1) F11 B rfl ⟨⟨f9, _, v__law_take, b9, k9, m9⟩⟩
  have v__law_pick : FnOk l.prog w K mg base CX0 2 f12 _ ["_law_box_here", "_law_pool_so", "_law_many_so"] (spD g sdPick) := ok_law_pick (k := 1) F12 B rfl ⟨⟨f9, _, v__law_take, b9, k9, m9⟩⟩
  have v__law_tags : FnOk l.prog w K mg base CX0 3 f15 _ ["_law_box_here", "_law_many_so"] (spD g sdTags) := ok_law_tags (k := 2) F15 B rfl ⟨⟨f9, _, (v__law_take.mono (by decide : 1 ≤ 2)), b9, k9, m9⟩⟩ ⟨⟨f12, _, v__law_pick, b12, k12, m12⟩⟩
  have v__law_walk : FnOk l.prog w K mg base CX0 3 f16 _ ["_law_box_here", "_law_tags_here", "_law_most_so"] (spD g sdWalkB) := ok_law_walk (k := 2) F16 B rfl ⟨⟨f11, _, v__law_of, b11, k11, m11⟩⟩ ⟨⟨f9, _, (v__law_take.mono (by decide : 1 ≤ 2)), b9, k9, m9⟩⟩
  have v__law_tally : FnOk l.prog w K mg base CX0 1 f17 _ ["_law_row_so"] (spD g sdTally) := ok_law_tally (k := 0) F17 B rfl 
  have v__law_less : FnOk l.prog w K mg base CX0 1 f18 _ ["_law_rows_so", "_law_own"] (spD g sdLess) := ok_law_less (k := 0) F18 B rfl 
  have v__law_all : FnOk l.prog w K mg base CX0 2 f19 _ ["_law_first_so", "_law_rows_so"] (spD g sdAllB) := ok_law_all (k := 1) F19 B rfl ⟨⟨f18, _, v__law_less, b18, k18, m18⟩⟩
  have v__law_cut : FnOk l.prog w K mg base CX0 1 f20 _ ["_law_row_so", "_law_far"] (spD g sdLawCut) := ok_law_cut (k := 0) F20 B rfl 
  have v__law_crosses : FnOk l.prog w K mg base CX0 1 f21 _ ["_law_row_so", "_law_far", "_law_four"] (spD g sdCrosses67) := ok_law_crosses (k := 0) F21 B rfl 
  have v__law_heard : FnOk l.prog w K mg base CX0 8 f22 _ ["_law_door", "_law_row_so", "_law_far"] (spD g sdHeard67) := ok_law_heard (k := 7) F22 B rfl m_NoSize hX ⟨⟨f4, _, (v_is_told_by.mono (by decide : 6 ≤ 7)), b4, k4, m4⟩⟩ ⟨⟨f5, _, (v_crossing_by.mono (by decide : 5 ≤ 7)), kb_names F5 (fun _ _ _ _ _ _ ws hl => match ws, hl with | [_, _], _ => rfl), k5, m5⟩⟩ ⟨⟨f7, _, (v_twin_by.mono (by decide : 6 ≤ 7)), b7, k7, m7⟩⟩ ⟨⟨f6, _, (v_is_crossing_by.mono (by decide : 5 ≤ 7)), b6, k6, m6⟩⟩
  have v__law_size_right : FnOk l.prog w K mg base CX0 9 f23 _ ["_law_row_so", "_law_far", "_law_all_so"] (spD g sdSize67) := ok_law_size_right (k := 8) F23 B rfl ⟨⟨f20, _, (v__law_cut.mono (by decide : 1 ≤ 8)), b20, k20, m20⟩⟩ ⟨⟨f22, _, v__law_heard, b22, k22, m22⟩⟩ ⟨⟨f14, _, (v__law_same.mono (by decide : 4 ≤ 8)), b14, k14, m14⟩⟩ ⟨⟨f13, _, (v__law_lists.mono (by decide : 3 ≤ 8)), b13, k13, m13⟩⟩ ⟨⟨f21, _, (v__law_crosses.mono (by decide : 1 ≤ 8)), b21, k21, m21⟩⟩
  have v__law_by_hand_right : FnOk l.prog w K mg base CX0 13 f24 _ [] (spD g sdByHand39) := ok_law_by_hand_right (k := 12) F24 B rfl ⟨⟨f5, _, (v_crossing_by.mono (by decide : 5 ≤ 12)), b5, k5, m5⟩⟩ ⟨⟨f7, _, (v_twin_by.mono (by decide : 6 ≤ 12)), b7, k7, m7⟩⟩ ⟨⟨f4, _, (v_is_told_by.mono (by decide : 6 ≤ 12)), b4, k4, m4⟩⟩ ⟨⟨f4, _, (v_is_told_by.mono (by decide : 6 ≤ 12)), kb_names F4 (fun _ _ _ _ _ _ ws hl => match ws, hl with | [_, _], _ => rfl), k4, m4⟩⟩ ⟨⟨f22, _, (v__law_heard.mono (by decide : 8 ≤ 12)), b22, k22, m22⟩⟩ ⟨⟨f14, _, (v__law_same.mono (by decide : 4 ≤ 12)), b14, k14, m14⟩⟩
  have v__law_right : FnOk l.prog w K mg base CX0 13 f25 _ ["_law_box_here"] (spD g (sdRightN 500000 3000)) := ok_law_right (k := 12) F25 B rfl ⟨⟨f16, _, (v__law_walk.mono (by decide : 3 ≤ 12)), b16, k16, m16⟩⟩ ⟨⟨f15, _, (v__law_tags.mono (by decide : 3 ≤ 12)), b15, k15, m15⟩⟩ ⟨⟨f9, _, (v__law_take.mono (by decide : 1 ≤ 12)), b9, k9, m9⟩⟩ ⟨⟨f19, _, (v__law_all.mono (by decide : 2 ≤ 12)), b19, k19, m19⟩⟩ ⟨⟨f17, _, (v__law_tally.mono (by decide : 1 ≤ 12)), b17, k17, m17⟩⟩ ⟨⟨f23, _, (v__law_size_right.mono (by decide : 9 ≤ 12)), b23, k23, m23⟩⟩
  have gR : FnOk l.prog w K mg base CX0 13 f25 _ ["_law_box_here"] spRight := FnOk.imp v__law_right (fun vs H Q E h => right_impN h)
  have gH : FnOk l.prog w K mg base CX0 13 f24 _ [] spHand := FnOk.imp v__law_by_hand_right (fun vs H Q E h => hand_imp h)
  have gE : FnOk l.prog w K mg base CX0 13 f10 _ ["_law_script", "_law_most_so"] (spCells K) := ok_cells F10 y9 y14 y17
  have gB : FnOk l.prog w K mg base CX0 13 f8 _ ["_law_script", "_law_k"] (spBox K) := ok_box F8 y1 y16 y17
  exact ok_law F26 gH b24 k24 m24 gE b10 k10 m10 gR b25 k25 m25 gB b8 k8 m8 y12 y3 y1
theorem walk {l : PySem.W.OpenLaw} {q : Program} {loose : List Str} {XP : (Str → Option Value) → Heap → Prop} {YP : World → Heap → Prop} {d : DefRec} {K : Params → PySem.W.Frag} (hn : l.most = some 63) (hdf : d.params.defaults = [])
    (hY : ∀ (w : World) (h : Heap), YP w h → (K w.params).In h)
    (F : ∀ (w : World) (mg : Str → Option Value) (fa : Addr) (h : Heap), (K w.params).In h → h.Ns mainGlobals mg → mg d.name = some (.ref fa) →
      ∃ fd : FuncData, (∀ (s : Shared) (u : Value), BindsTo s fd ⟨[u], []⟩ [("_law_script", u)]) ∧ ∀ base : Heap, (K w.params).In base → base.Ns mainGlobals mg → FnOk l.prog w (K w.params) mg base CX0 14 fa fd ["_law_script"] (spLaw (K w.params))) :
    PySem.W.WalkO q loose XP YP l.row.toRowW d [] (fun f vs => PySem.call f vs) :=
  L2.walk_of (n := 63) (k := 14) (x := "_law_script") (CX := fun _ => CX0) (sp := fun w => spLaw (K w.params)) hn (by decide) hdf ⟨rfl, by decide, by decide⟩ hY F (fun _ _ a ns hl _ hS => ⟨a, ns, rfl, hS, hl, fun _ => rfl⟩) fun _ _ _ _ _ z => z
end K67
open PySem PySem.W PyProof.Rows in
set_option maxRecDepth 100000 in
set_option maxHeartbeats 0 in
theorem PySem.Challenge.cw_countedsteps_k67_whole_told_if_nothing_c_holds : PySem.Challenge.rw_countedsteps_k67_whole_told_if_nothing_c.Holds := by
  w_on; o_law; k_head; (case hw => w_witness2)
  k_fill
  refine K67.walk (l := PySem.Challenge.rw_countedsteps_k67_whole_told_if_nothing_c) rfl rfl (fun w h Y => PySem.W.kIn_of Y) ?F
  case F =>
    intro w mg fa h KX G hmg
    refine' K67.all_mk KX G hmg ?a1 ?l1 ?c1 ?k1 ?a2 ?l2 ?c2 ?k2 ?a3 ?l3 ?c3 ?k3 ?a4 ?l4 ?c4 ?k4 ?a5 ?l5 ?c5 ?k5 ?a6 ?l6 ?c6 ?k6 ?a7 ?l7 ?c7 ?k7 ?a8 ?l8 ?c8 ?k8 ?a9 ?l9 ?c9 ?k9 ?a10 ?l10 ?c10 ?k10 ?a11 ?l11 ?c11 ?k11 ?a12 ?l12 ?c12 ?k12 ?a13 ?l13 ?c13 ?k13 ?a14 ?l14 ?c14 ?k14 ?a15 ?l15 ?c15 ?k15 ?a16 ?l16 ?c16 ?k16 ?a17 ?l17 ?c17 ?k17 ?a18 ?l18 ?c18 ?k18 ?a19 ?l19 ?c19 ?k19 ?a20 ?l20 ?c20 ?k20 ?a21 ?l21 ?c21 ?k21 ?a22 ?l22 ?c22 ?k22 ?a23 ?l23 ?c23 ?k23 ?a24 ?l24 ?c24 ?k24 ?a25 ?l25 ?c25 ?k25 ?a26 ?l26 ?c26 ?k26 ?z1 ?z2 ?z3 ?z4 ?z5 ?z6 ?z7 ?z8 ?z9 ?z10 ?z11 ?z12 ?z13 ?z14 ?z15 ?z16 ?z17 ?z18 ?z19 ?z20 ?z21 ?z22 ?z23 ?a_NoSize ?i_ENoSize ?l_ENoSize ?c_ENoSize ?k_ENoSize ?xl_NoSize ?eb_NoSize ?erx
    (case a1 => k_is); (case l1 => k_is); (case c1 => k_is); (case k1 => k_is)
    (case a2 => k_is); (case l2 => k_is); (case c2 => k_is); (case k2 => k_is)
    (case a3 => k_is); (case l3 => k_is); (case c3 => k_is); (case k3 => k_is)
    (case a4 => k_is); (case l4 => k_is); (case c4 => k_is); (case k4 => k_is)
    (case a5 => k_is); (case l5 => k_is); (case c5 => k_is); (case k5 => k_is)
    (case a6 => k_is); (case l6 => k_is); (case c6 => k_is); (case k6 => k_is)
    (case a7 => k_is); (case l7 => k_is); (case c7 => k_is); (case k7 => k_is)
    (case a8 => k_is); (case l8 => k_is); (case c8 => k_is); (case k8 => k_is)
    (case a9 => k_is); (case l9 => k_is); (case c9 => k_is); (case k9 => k_is)
    (case a10 => k_is); (case l10 => k_is); (case c10 => k_is); (case k10 => k_is)
    (case a11 => k_is); (case l11 => k_is); (case c11 => k_is); (case k11 => k_is)
    (case a12 => k_is); (case l12 => k_is); (case c12 => k_is); (case k12 => k_is)
    (case a13 => k_is); (case l13 => k_is); (case c13 => k_is); (case k13 => k_is)
    (case a14 => k_is); (case l14 => k_is); (case c14 => k_is); (case k14 => k_is)
    (case a15 => k_is); (case l15 => k_is); (case c15 => k_is); (case k15 => k_is)
    (case a16 => k_is); (case l16 => k_is); (case c16 => k_is); (case k16 => k_is)
    (case a17 => k_is); (case l17 => k_is); (case c17 => k_is); (case k17 => k_is)
    (case a18 => k_is); (case l18 => k_is); (case c18 => k_is); (case k18 => k_is)
    (case a19 => k_is); (case l19 => k_is); (case c19 => k_is); (case k19 => k_is)
    (case a20 => k_is); (case l20 => k_is); (case c20 => k_is); (case k20 => k_is)
    (case a21 => k_is); (case l21 => k_is); (case c21 => k_is); (case k21 => k_is)
    (case a22 => k_is); (case l22 => k_is); (case c22 => k_is); (case k22 => k_is)
    (case a23 => k_is); (case l23 => k_is); (case c23 => k_is); (case k23 => k_is)
    (case a24 => k_is); (case l24 => k_is); (case c24 => k_is); (case k24 => k_is)
    (case a25 => k_is); (case l25 => k_is); (case c25 => k_is); (case k25 => k_is)
    (case a26 => k_is); (case l26 => k_is); (case c26 => k_is); (case k26 => k_is)
    (case z1 => k_is)
    (case z2 => k_is)
    (case z3 => k_is)
    (case z4 => k_is)
    (case z5 => k_is)
    (case z6 => k_is)
    (case z7 => k_is)
    (case z8 => k_is)
    (case z9 => k_is)
    (case z10 => k_is)
    (case z11 => k_is)
    (case z12 => k_is)
    (case z13 => k_is)
    (case z14 => k_is)
    (case z15 => k_is)
    (case z16 => k_is)
    (case z17 => k_is)
    (case z18 => k_is)
    (case z19 => k_is)
    (case z20 => k_is)
    (case z21 => k_is)
    (case z22 => k_is)
    (case z23 => k_is)
    (case a_NoSize => k_is)
    (case i_ENoSize => k_is)
    (case l_ENoSize => k_is)
    (case c_ENoSize => k_is)
    (case k_ENoSize => k_is)
    (case xl_NoSize => k_is)
    (case eb_NoSize => kernel_rfl)
    (case erx => kernel_rfl)
#print axioms PySem.Challenge.cw_countedsteps_k67_whole_told_if_nothing_c_holds
