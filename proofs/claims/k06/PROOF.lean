import PyProof.Rows.All
import Wide.All
import OpenK.AllK
import Wide.FinOn
import HandS.ForMost
import HandS.Zip
import HandS.TupAny
import KE.KRevSl
import KE.GoesNew
import KE.KDictZip
import HandS.Walk
import HandS.Conv
import HandS.ForExc
import HandS.ExcInit
import HandS.ExcIs
import HandS.ExcField
import KE.KTryMore
import KE.KExcInit
import HandS.Defaults
import HandS.ExcValue
import HandS.SetFor
import HandS.IsInst
import KE.SortData
import HandS.Dict
import HandS.Iter
import HandS.Flow
import HandS.Deep
import HandS.CallSlots
import HandS.Style
import HandS.Text
import PyProof.P3In
import HandS.RaiseMore
import HandS.Comp
import HandS.TryOnly
import HandS.WordsExc
import HandS.More
import HandS.Property
import HandS.DictComp
import HandS.Star
import KE.KOpsOwn
import HandS.Codes
import PyProof.Rows.SortStr
import PyProof.Rows.StrMeet
import HandS.Set
import KE.KDictPairs
import KE.KDictKeyed
import PyProof.InstNe
import HandS.Wide
import PySem.Challenge.RW_countedsteps_k06_counts_added_and_taken
set_option Elab.async false
set_option linter.all false
set_option maxRecDepth 100000
set_option maxHeartbeats 2000000
/-! Rules that the hand layer lacks: the reversed slice, enumerate of a tuple, tuple(zip(..)) -/
namespace CS
open PySem PySem.Spec PyProof.Rows L2
/-! ### x[::-1] -/
theorem adj_back (m : Nat) : Builtin.Slice.sliceAdjust none none (-1) (m : Int) = ((m : Int) - 1, -1) := by
  simp [Builtin.Slice.sliceAdjust]
theorem plc_back (m : Nat) : Builtin.Slice.slicePlaces ((m : Int) - 1) (-1) (-1) = m := by
  unfold Builtin.Slice.slicePlaces
  simp
  omega
theorem fm_same {α β : Type} {f g : α → Option β} : ∀ {l : List α}, (∀ a ∈ l, f a = g a) → l.filterMap f = l.filterMap g
  | [], _ => rfl
  | a :: l, h => by
    have e1 := h a (List.mem_cons_self ..)
    have e2 := fm_same (l := l) fun b hb => h b (List.mem_cons_of_mem _ hb)
    simp only [List.filterMap_cons, e1, e2]
theorem pick_back (its : Array Value) : ((List.range its.size).filterMap fun (j : Nat) => its[((its.size : Int) - 1 + (j : Int) * (-1)).toNat]?) = its.toList.reverse := by
  have q1 : (List.range its.size).filterMap (fun (j : Nat) => its[((its.size : Int) - 1 + (j : Int) * (-1)).toNat]?) = ((List.range its.size).map (fun j => its.size - 1 - j)).filterMap (its[·]?) := by
    rw [List.filterMap_map]
    refine fm_same fun j hj => ?_
    have hj' := List.mem_range.mp hj
    have e : ((its.size : Int) - 1 + (j : Int) * (-1)).toNat = its.size - 1 - j := by omega
    show its[((its.size : Int) - 1 + (j : Int) * (-1)).toNat]? = its[its.size - 1 - j]?
    rw [e]
  rw [q1, PySem.W.krv_range, List.filterMap_reverse, PySem.W.krv_all]
section
variable {prog : Program} {w : World} {A : Around} {E : Value → Shared → Prop} {s : Shared}
theorem app_back {sl : Addr} {k : Tok} {m : Nat} {Q : Int × Int × Nat → Shared → Prop} (hsl : s.heap.IsSliceOf sl .none .none (.int (-1) k)) (hq : Q ((m : Int) - 1, -1, m) s) :
    wpAny (model prog w) A (Builtin.Slice.sliceApplied (.ref sl) (pure (m : Int))) Q E s := by
  obtain ⟨ob, hob, hcl, hdt⟩ := id hsl
  unfold Builtin.Slice.sliceApplied Builtin.Slice.sliceFields
  refine wpAny_bind (wpAny_bind (wpAny_field hob hdt (x := .none) rfl (wpAny_bind (wpAny_field hob hdt (x := .none) rfl (wpAny_bind (wpAny_field hob hdt (x := .int (-1) k) rfl (wpAny_pure ?_)))))))
  refine wpAny_bind (PyProof.Rows.slicePart_int ?_)
  show wpAny _ _ (if ((-1 : Int) == 0) = true then _ else _) _ _ s
  rw [if_neg (by decide)]
  refine wpAny_bind (PyProof.Rows.slicePart_none (wpAny_bind (PyProof.Rows.slicePart_none (wpAny_bind (wpAny_pure ?_)))))
  show wpAny _ _ (match Builtin.Slice.sliceAdjust none none (-1) (m : Int) with | (lo, hi) => pure (lo, (-1 : Int), Builtin.Slice.slicePlaces lo hi (-1))) _ _ s
  rw [adj_back]
  show wpAny _ _ (pure ((m : Int) - 1, (-1 : Int), Builtin.Slice.slicePlaces ((m : Int) - 1) (-1) (-1))) _ _ s
  rw [plc_back]
  exact wpAny_pure hq
theorem tup_back {t sl : Addr} {its : Array Value} {k : Tok} {Q : Value → Shared → Prop} (ht : IsTup s.heap t its) (hsl : s.heap.IsSliceOf sl .none .none (.int (-1) k))
    (hq : Q (.ref s.heap.objs.size) { s with heap := s.heap.push { cls := .type "tuple", data := .seq its.toList.reverse.toArray } }) (hfit : its.size ≤ sizeLine) : wpAny (model prog w) A (getItem (.ref t) (.ref sl)) Q E s := by
  obtain ⟨ob, hob, hcl, hdt⟩ := id hsl
  have hty : s.TypeIs (.ref sl) "slice" := ⟨ob, hob, hcl⟩
  have hfit2 : sizeOk (.seq its.toList.reverse.toArray) := by
    show its.toList.reverse.toArray.size ≤ sizeLine
    rw [List.size_toArray, List.length_reverse, Array.length_toList]
    exact hfit
  unfold getItem
  try with_reducible refine wpAny_holding ?_
  first | refine wpAny_bind (wpAny_pure ?_) | skip
  refine wpAny_bind (wpAny_sequenceKey ht.typeIs (by decide) ?_)
  refine wpAny_bind (wpAny_callSpecial?_slot (name := Str.ofString "__getitem__") ht.typeIs PyProof.Rows.slot_tuple_getitem (wpAny_call_entry PyProof.Rows.slot_tuple_getitem ht.typeIs entry_tuple_getitem ?_ (args_tuple_getitem _ _)))
  show wpAny _ _ (Builtin.Tuple.tupleItemsOf (.ref t) >>= _) _ _ s
  refine wpAny_bind (tupleItemsOf_ ht (wpAny_bind (wpAny_typeOf hty ?_)))
  rw [if_pos (by decide)]
  refine wpAny_bind (app_back hsl ?_)
  have nope : ¬ ((((its.size : Nat) : Int) - 1 == 0 && (-1 : Int) == 1 && its.size == its.size) = true) := by
    intro q
    rw [Bool.and_eq_true, Bool.and_eq_true] at q
    exact absurd (eq_of_beq q.1.2) (by decide)
  show wpAny _ _ (if (((its.size : Nat) : Int) - 1 == 0 && (-1 : Int) == 1 && its.size == its.size) = true then _ else _) _ _ s
  rw [if_neg nope, pick_back]
  first
    | exact wpAny_bind (m := Builtin.Tuple.tupleExact _) (wpAny_newObj_type (wpAny_pure ⟨_, rfl, wpAny_pure hq⟩) hfit2)
    | exact wpAny_bind (m := Builtin.Tuple.tupleExact _) (wpAny_newObj_type (wpAny_bind (wpAny_pure (wpAny_pure ⟨_, rfl, wpAny_pure hq⟩))) hfit2)
    | exact wpAny_bind (wpAny_bind (m := Builtin.Tuple.tupleExact _) (wpAny_newObj_type (wpAny_pure (wpAny_pure ⟨_, rfl, wpAny_pure hq⟩)) hfit2))
    | exact wpAny_bind (wpAny_bind (m := Builtin.Tuple.tupleExact _) (wpAny_newObj_type (wpAny_pure ⟨_, rfl, wpAny_pure hq⟩) hfit2))
end
section
variable {X : Cx} {e st : Expr} {te ts : TE} {p2 pos : Pos}
/-- x[::-1], x a list or a tuple: a new one, turned -/
def tBack (K : PySem.W.Frag) (te ts : TE) : TE := fun σ H Q => te σ H fun x H1 => ts σ H1 fun y H2 => y = .int (-1) ∧ ∃ a xs, x = .ref a ∧ ((SqT K H2 a xs ∧ ∀ p, H2 p = none → Q (.ref p) (upd H2 p (.tup xs.reverse))) ∨ (SqL K H2 a xs ∧ ∀ p, H2 p = none → Q (.ref p) (upd H2 p (.lst xs.reverse))))
theorem vals_rev {xs : List V} {us : List Value} (h : Vals xs us) : Vals xs.reverse us.reverse := by
  induction h with
  | nil => exact .nil
  | cons r t ih =>
    rw [List.reverse_cons, List.reverse_cons]
    exact ih.append (.cons r .nil)
theorem pe_back (he : PE X e te) (hst : PE X st ts) : PE X (.Subscript e (.Slice none none (some st) p2) pos) (tBack X.K te ts) := by
  refine ⟨fun pins s0 σ H0 Q0 I0 hw => ?_⟩
  refine Subscript_ (thn (he.run pins s0 σ H0 _ I0 hw) fun v s1 ⟨x, H1, I1, r1, q1⟩ => ?_)
  refine wpAny_Slice ?_
  rw [evalPart_none]
  refine wpAny_pure (wpAny_pure ?_)
  rw [evalPart_some]
  refine thn (hst.run pins s1 σ H1 _ I1 q1) fun vs s3 ⟨y, H3, I3, r3, q3⟩ => ?_
  obtain ⟨rfl, a, xs, rfl, q⟩ := q3
  obtain ⟨tk, rfl⟩ := r3
  have I4 : Inv X pins σ H3 { s3 with heap := s3.heap.push { cls := .type "slice", data := .fields #[.none, .none, .int (-1) tk] } } := I3.kept (t' := s3.toks) fun b ob z => Heap.get?_push_of_some _ z
  cases r1
  rcases q with ⟨hx, q⟩ | ⟨hx, q⟩
  · obtain ⟨its, rv, pt, hz⟩ := I4.tuple hx
    refine tail_any (ops := [.ref a, .ref s3.heap.objs.size]) pt.typeIs PyProof.Rows.slot_tuple_getitem.lookup (tup_back pt (Heap.IsSliceOf.new ..) ?_ (by rw [List.size_toArray, ← rv.length]; exact hz)) (by with_unfolding_all rfl)
    refine ⟨.ref _, _, I4.laid (t' := s3.toks) (o := .tup xs.reverse) (fun b ob z => Heap.get?_push_of_some _ z) (Nat.le_refl _) ?_, rfl, q _ (I4.hok.fresh (Nat.le_refl _))⟩
    exact ⟨by rw [List.length_reverse]; exact hz, _, vals_rev rv, IsTup.new _ _⟩
  · obtain ⟨its, rv, pt, hz⟩ := I4.list hx
    refine tail_any (ops := [.ref a, .ref s3.heap.objs.size]) pt.isList.typeIs slot_list_getitem.lookup (wpAny_getItem_list_slice pt.isList (Heap.IsSliceOf.new ..) .none .none (.int (-1) tk) (by decide) ?_ (by rw [List.size_toArray, ← rv.length]; exact hz)) (by with_unfolding_all rfl)
    rw [PySem.W.krv_pick]
    refine ⟨.ref _, _, I4.laid (t' := s3.toks) (o := .lst xs.reverse) (fun b ob z => Heap.get?_push_of_some _ z) (Nat.le_refl _) ?_, rfl, q _ (I4.hok.fresh (Nat.le_refl _))⟩
    exact ⟨by rw [List.length_reverse]; exact hz, _, 0, vals_rev rv, Heap.get?_push_size _ rfl⟩
end
end CS
namespace CS
open PySem PySem.Spec PyProof.Rows L2
/-! ### enumerate(x) of anything whose iterator is known -/
theorem enumB_new {v : Value} {ob : Obj} {Hh : Heap → Prop} (B : Begins v ob Hh) :
    Meets (Builtin.«enumerate.__new__» ⟨[.type "enumerate", v], []⟩) (fun _ R s => Hh s.heap ∧ R (.ok (.ret (.ref (s.heap.push ob).objs.size)))
      { s with heap := (s.heap.push ob).push { cls := .type "enumerate", data := .fields #[.none, .bool false, .ref s.heap.objs.size, rawInt 0, .none, .none] } }) :=
  .of_wp fun prog w A R s hst => by
    obtain ⟨hp, gn, dr, tk, os⟩ := s; obtain ⟨hh, hR⟩ := hst
    have subE := sub_enumerate
    have itr : ∀ {A' : Around} {E : Value → Shared → Prop} {Q : Value → Shared → Prop}, Q (.ref hp.objs.size) ⟨hp.push ob, gn, dr, tk, os⟩ → wpAny (model prog w) A' (pyIter v) Q E ⟨hp, gn, dr, tk, os⟩ :=
      fun q => B.iter prog w _ _ ⟨hp, gn, dr, tk, os⟩ _ hh q
    wp_walk using itr
    refine wpAny_stack_any fun st => wpAny_pure ?_
    split
    · rename_i c _ _ _ _ _
      cases (c == Value.type "enumerate")
      · wp_walk using itr
        exact ⟨_, rfl, hR⟩
      · wp_walk using itr
        exact ⟨_, rfl, hR⟩
    · wp_walk using itr
      exact ⟨_, rfl, hR⟩
section
variable {prog : Program} {w : World} {A : Around} {E : Value → Shared → Prop} {s : Shared}
theorem enumB_call {v : Value} {ob : Obj} {Hh : Heap → Prop} {Q : Value → Shared → Prop} (B : Begins v ob Hh) (hh : Hh s.heap)
    (hq : ∀ h', IsEnum h' (s.heap.objs.size + 1) s.heap.objs.size 0 .none → h'.get? s.heap.objs.size = some ob → h'.objs.size = s.heap.objs.size + 2 →
      (∀ c u, s.heap.get? c = some u → h'.get? c = some u) → Q (.ref (s.heap.objs.size + 1)) { s with heap := h' }) :
    wpAny (model prog w) A (call (.type "enumerate") [v]) Q E s := by
  refine callType_new F.called_enumerate (by decide) (F.typeCall_enumerate_1 _) (F.newCall_enumerate_1 _) (fun obj => F.args_object_init_2 obj _) F.entry_enumerate_new (enumB_new B) ⟨hh, ?_⟩
  have sz1 : (s.heap.push ob).objs.size = s.heap.objs.size + 1 := Heap.size_push ..
  show _ ∧ _
  rw [sz1]
  have at1 : IsEnum ((s.heap.push ob).push { cls := .type "enumerate", data := .fields #[.none, .bool false, .ref s.heap.objs.size, rawInt 0, .none, .none] }) (s.heap.objs.size + 1) s.heap.objs.size 0 .none := by
    have q := Heap.get?_push_size (s.heap.push ob) (o := { cls := .type "enumerate", data := .fields #[.none, .bool false, .ref s.heap.objs.size, rawInt 0, .none, .none] }) rfl
    rw [sz1] at q
    exact q
  exact ⟨⟨_, at1, rfl⟩, hq _ at1 (Heap.get?_push_of_some _ (Heap.get?_push_size _ B.free)) (by rw [Heap.size_push, sz1]) fun c u z => Heap.get?_push_of_some _ (Heap.get?_push_of_some _ z)⟩
end
/-- the pairs (0, x), (1, y), .. of the tuple at a -/
def IteT (K : PySem.W.Frag) (a : Addr) : It :=
  ⟨fun i H => ∃ (xs : List V) (x : V), SqT K H a xs ∧ xs[i]? = some x, fun i H v H' => ∃ (T : Addr) (x : V), v = .ref T ∧ H T = none ∧ H' = upd H T (.tup [.int (i : Nat), x]) ∧ ∀ ys, SqT K H a ys → ys[i]? = some x,
   fun i H => ∃ ys : List V, SqT K H a ys ∧ ys.length ≤ i⟩
theorem turn_enumT {P : Program} {w : World} {K : PySem.W.Frag} {elts : List Expr} {kk : Nat} {tpos : Pos} (a e it : Addr) :
    Turn P w K (.Tuple elts kk tpos) (IteT K a) [e, it] e (fun i h => (∃ old, IsEnum h e it ((i : Nat) : Int) old) ∧ h.IsTupleIter it a i ∧ e ≠ it) where
  mem := by simp
  obj := fun i h st b hb => by
    obtain ⟨⟨old, he⟩, ⟨ob, ho, _, hd⟩, _⟩ := st
    have hb' : b = e ∨ b = it := by simpa using hb
    rcases hb' with rfl | rfl
    · exact ⟨_, he, fun v q => nomatch q⟩
    · exact ⟨ob, ho, fun v q => by rw [hd] at q; cases q⟩
  keep := fun i h h' st kp => by
    obtain ⟨⟨old, he⟩, hi, hne⟩ := st
    exact ⟨⟨old, kp e (by simp) _ he⟩, hi.at fun u q => kp it (by simp) u q, hne⟩
  item := by
    intro X eP ew eK cm i pins s σ H E I fpo st gg
    subst eP ew eK
    obtain ⟨⟨old, he⟩, hit, hne⟩ := st
    obtain ⟨xs, x, hsq, hx⟩ := gg
    obtain ⟨its, rv, pt, _⟩ := I.tuple hsq
    obtain ⟨u, hu, ru⟩ := rv.get hx
    have hel : e < s.heap.objs.size := Heap.lt_size he
    have hil : it < s.heap.objs.size := by obtain ⟨_, q, _⟩ := hit; exact Heap.lt_size q
    have eT : e ≠ a := fun z => by
      obtain ⟨ot, hot, hct, _⟩ := pt
      rw [← z, he] at hot
      cases hot
      exact absurd (Value.type.inj hct) (by decide)
    have iT : a ≠ it := fun z => by
      obtain ⟨oi, hoi, hci, _⟩ := hit
      obtain ⟨ot, hot, hct, _⟩ := pt
      rw [z, hoi] at hot
      cases hot
      rw [hci] at hct
      exact absurd (Value.type.inj hct) (by decide)
    have D := Draws.tuple (prog := X.prog) (w := X.w) (A := X.A.in1) (I.ok.hd cm) it a iT its.toArray
    have hlt : i < its.toArray.size := by
      have q := (List.getElem?_eq_some_iff.mp hu).1
      simpa using q
    refine wpAny_pyNext_enum_itemD D he ⟨hit, pt⟩ hlt hne (by simp [hne, eT]) fun y h' tk hP ho sn hT hsz hk => ?_
    have ey : y = u := by
      have q : its[i]? = some y := by simpa using hP
      rw [hu] at q
      exact (Option.some.inj q).symm
    subst ey
    refine ⟨_, rfl, wpAny_letOwnedTupleGo_enum (s := { s with heap := h', toks := tk + 1 }) ho fun h2 he2 sb => ?_⟩
    have hT2 : h2.get? s.heap.objs.size = some { cls := .type "tuple", data := .seq #[.int i tk, y] } := (sb.2 _ (Nat.ne_of_gt hel)).trans hT
    have nw : ObjOk X.prog X.w (upd H s.heap.objs.size (.tup [.int (i : Nat), x])) h2 s.heap.objs.size (.tup [.int (i : Nat), x]) :=
      ⟨by show 2 ≤ sizeLine; decide, [.int i tk, y], .cons ⟨_, rfl⟩ (.cons ru .nil), ⟨_, hT2, rfl, _, rfl⟩⟩
    have I1 : Inv X pins σ (upd H s.heap.objs.size (.tup [.int (i : Nat), x])) { s with heap := h2, toks := tk + 1 } :=
      I.turnedNew (ch := [e, it]) (fun b ob hb q => (sb.2 b (fun z => hb (by simp [z]))).trans (hk b ob (fun z => hb (by simp [z])) (fun z => hb (by simp [z])) q)) fpo (Nat.le_refl _) nw
    refine ⟨.ref s.heap.objs.size, _, I1, rfl, ⟨_, x, rfl, I.hok.fresh (Nat.le_refl _), rfl, fun ys hy => by rw [I.tuple_inj hy hsq]; exact hx⟩, ⟨⟨y, ?_⟩, sn.1.at fun u q => (sb.2 it (Ne.symm hne)).trans q, hne⟩, fun b hb => ?_⟩
    · have e1 : ((i + 1 : Nat) : Int) = (i : Int) + 1 := by omega
      rw [e1]
      exact he2
    · have hb' : b < s.heap.objs.size := by
        have z : b = e ∨ b = it := by simpa using hb
        rcases z with z | z
        · rw [z]; exact hel
        · rw [z]; exact hil
      rw [upd_ne (Nat.ne_of_lt hb')]
      exact (fpo b hb).1
  done := by
    intro X eP ew eK cm i pins s σ H E I fpo st gg
    subst eP ew eK
    obtain ⟨⟨old, he⟩, hit, hne⟩ := st
    obtain ⟨ys, hsq, hle⟩ := gg
    obtain ⟨its, rv, pt, _⟩ := I.tuple hsq
    obtain ⟨f0, f1, f2, f3, f4, f5⟩ := fpo it (by simp)
    have iT : a ≠ it := fun z => by
      obtain ⟨oi, hoi, hci, _⟩ := hit
      obtain ⟨ot, hot, hct, _⟩ := pt
      rw [z, hoi] at hot
      cases hot
      rw [hci] at hct
      exact absurd (Value.type.inj hct) (by decide)
    have hlen := rv.length
    have hnone : its.toArray[i]? = none := by simp; omega
    have hty : s.TypeIs (.ref e) "enumerate" := ⟨_, he, rfl⟩
    unfold pyNext
    refine wpAny_bind (wpAny_attempt (wpAny_callSpecial?_slot (name := Str.ofString "__next__") hty F.slot_enumerate_next (wpAny_call_entry F.slot_enumerate_next hty F.entry_enumerate_next ?_ (F.args_enumerate_next_1 _))))
    show wpAny _ _ (field (.ref e) 2 >>= _) _ _ _
    refine wpAny_bind (wpAny_field he rfl (x := .ref it) rfl (wpAny_bind (RZ.nextOf_tuple_end (I.ok.hd cm) hit pt hnone fun h' xx hk hx' => ?_)))
    obtain ⟨ob, ho, hcl⟩ := hx'
    refine wpAny_bind (wpAny_isInstance (T := "StopIteration") (b := true) ⟨ob, ho, hcl⟩ isSubtype_stop ?_)
    exact wpAny_pure ⟨rfl, I.turned (t' := s.toks) (fun b u hb q => hk b u hb q) f0 f1 f3 f4 f5⟩
  self := fun A i s Q E st hq => by
    obtain ⟨⟨_, he⟩, _⟩ := st
    exact wpAny_pyIter_enum he hq
def iEnumT (K : PySem.W.Frag) (ta : TA) : TI := fun σ H R => ta σ H fun vs H1 => ∃ (a : Addr) (xs : List V), vs = [.ref a] ∧ ((SqT K H1 a xs ∧ R (IteT K a) H1) ∨ (SqL K H1 a xs ∧ R (Ite K a) H1))
theorem pi_enumT {X : Cx} {e : Expr} {ta : TA} {p pos tpos : Pos} {elts : List Expr} {kk : Nat} (gE : Gl X "enumerate") (mE : X.mg "enumerate" = none) (ha : PA X [e] ta) (hs : starEach [e] X.env = [(false, eval e X.env)] := by rfl) :
    PI X (.Tuple elts kk tpos) (.Call (.Name "enumerate" p) [e] [] pos) (iEnumT X.K ta) := by
  refine ⟨fun pins s0 σ H0 R I0 hw => ?_⟩
  refine Call_ (ld_blt I0 gE mE boot_enumerate (PyProof.Rows.callWith_type1 (thn (ha.run pos pins s0 σ H0 _ I0 hw) fun us s1 ⟨vs, H1, I1, r1, q1⟩ => ?_) hs rfl))
  obtain ⟨a, xs, rfl, q⟩ := q1
  obtain ⟨u, rfl, rx⟩ := vals1 r1
  cases rx
  have fr : ∀ b, b ∈ [s1.heap.objs.size + 1, s1.heap.objs.size] → FpOk X pins H1 b := fun b hb => by
    have z : b = s1.heap.objs.size + 1 ∨ b = s1.heap.objs.size := by simpa using hb
    have hle : s1.heap.objs.size ≤ b := by omega
    exact I1.fpOk hle (I1.hok.fresh hle)
  rcases q with ⟨hq, q⟩ | ⟨hq, q⟩
  · obtain ⟨its, rv, pt, _⟩ := I1.tuple hq
    refine enumB_call (begins_tuple a its.toArray) pt fun h' he ho hsz hk => wpAny_pyIter_enum he ?_
    exact ⟨s1.heap.objs.size + 1, [s1.heap.objs.size + 1, s1.heap.objs.size], _, _, H1, rfl, I1.kept (t' := s1.toks) hk, turn_enumT a _ _, ⟨⟨_, he⟩, ⟨_, ho, rfl, rfl⟩, Nat.succ_ne_self _⟩, fr, q⟩
  · obtain ⟨its, rv, pt, _⟩ := I1.list hq
    refine enumB_call (begins_list a its.toArray) pt.isList fun h' he ho hsz hk => wpAny_pyIter_enum he ?_
    exact ⟨s1.heap.objs.size + 1, [s1.heap.objs.size + 1, s1.heap.objs.size], _, _, H1, rfl, I1.kept (t' := s1.toks) hk, turn_enum a _ _, ⟨⟨_, he⟩, ⟨_, ho, rfl, rfl⟩, Nat.succ_ne_self _⟩, fr, q⟩
theorem walk_enumT {K : PySem.W.Frag} {a : Addr} {xs : List V} : Walk (IteT K a) xs.length (fun H => SqT K H a xs) (YPair (fun i => some (.int (i : Nat))) (fun i => xs[i]?)) := by
  refine ⟨fun i _ hi q => ⟨xs, xs[i], q, by simp [hi]⟩, fun _ q => ⟨xs, q, Nat.le_refl _⟩, fun i H v H' _ q y => ?_⟩
  obtain ⟨T, x, e1, e2, e3, e4⟩ := y
  exact ⟨T, .int (i : Nat), x, e1, e2, e3, rfl, e4 xs q⟩
end CS
namespace CS
open PySem PySem.Spec PyProof.Rows L2

section
variable {prog : Program} {w : World} {A : Around} {E : Value → Shared → Prop} {s : Shared} {z TI TO T i1 i2 : Addr} {fp1 fp2 : List Addr} {n1 n2 i : Nat} {P1 P2 : Nat → Value → Prop} {St1 St2 : Nat → Heap → Prop} {f : Bool} {oT : Obj}
/-- one more of a zip whose tuple is still held by somebody -/
theorem held_item {Q : Value → Shared → Prop} (S : ZipSep2 z TI TO i1 i2 fp1 fp2) (D1 : Draws prog w A i1 fp1 n1 P1 St1) (D2 : Draws prog w A i2 fp2 n2 P2 St2)
    (hz : IsZipHeld s.heap z TI TO T f) (hT : s.heap.get? T = some oT) (hTI : IsTupOf2 s.heap TI (.ref i1) (.ref i2)) (st1 : St1 i s.heap) (st2 : St2 i s.heap) (lt1 : i < n1) (lt2 : i < n2)
    (hq : ∀ x y h' tk, P1 i x → P2 i y → IsZipHeld h' z TI TO T true → St1 (i + 1) h' → St2 (i + 1) h' → IsTupOf2 h' s.heap.objs.size x y → h'.objs.size = s.heap.objs.size + 1 →
      (∀ c u, c ≠ z → c ≠ i1 → c ≠ i2 → s.heap.get? c = some u → h'.get? c = some u) → Q (.ref s.heap.objs.size) { s with heap := h', toks := tk }) :
    wpAny (model prog w) A (Builtin.«zip.__next__» ⟨[.ref z], []⟩) (fun fin s' => ∃ v, fin = .done (.ret v) ∧ Q v s') E s := by
  obtain ⟨hp, gn, dr, tk0, os⟩ := s
  show wpAny _ _ (field (.ref z) 2 >>= _) _ _ _
  refine wpAny_bind (wpAny_field hz rfl (x := .bool false) rfl ?_)
  show wpAny _ _ (field (.ref z) 3 >>= _) _ _ _
  refine wpAny_bind (wpAny_field hz rfl (x := .ref TI) rfl (wpAny_bind (wpAny_seqItems hTI rfl ?_)))
  show wpAny _ _ (Builtin.SmallTypes.ownedTupleIsFree (.ref z) >>= _) _ _ _
  refine wpAny_bind (wpAny_tupleHeld_zip hz hT fun g1 hz1 hs1 => ?_)
  replace hs1 : Heap.SameBut z hp g1 := hs1
  simp only [Bool.false_eq_true, if_false]
  refine wpAny_bind ?_
  rw [← Array.forIn_toList]
  simp only [List.forIn_cons, List.forIn_nil]
  refine wpAny_bind (wpAny_bind (wpAny_holding ?_))
  show wpAny _ _ (Builtin.SmallTypes.nextOf (.ref i1) >>= _) _ _ ⟨g1, gn, dr, tk0, os⟩
  refine wpAny_bind (D1.item i _ _ _ lt1 (D1.over st1 hs1 S.zf1) fun x g2 tk1 hx sn1 hs2 => wpAny_pure (wpAny_pure ?_))
  replace hs2 : Heap.SameBut i1 g1 g2 := hs2
  refine wpAny_bind (wpAny_bind (wpAny_holding ?_))
  show wpAny _ _ (Builtin.SmallTypes.nextOf (.ref i2) >>= _) _ _ ⟨g2, gn, dr, tk1, os⟩
  refine wpAny_bind (D2.item i _ _ _ lt2 (D2.over (D2.over st2 hs1 S.zf2) hs2 S.sep1_2) fun y g3 tk2 hy sn2 hs3 => wpAny_pure (wpAny_pure (wpAny_pure ?_)))
  replace hs3 : Heap.SameBut i2 g2 g3 := hs3
  show wpAny _ _ (newTuple [x, y] >>= _) _ _ ⟨g3, gn, dr, tk2, os⟩
  refine wpAny_bind (wpAny_newTuple ?_)
  have esz : g3.objs.size = hp.objs.size := by rw [hs3.1, hs2.1, hs1.1]
  have hz3 : IsZipHeld g3 z TI TO T true := hs3.extBut _ _ S.zi2 (hs2.extBut _ _ S.zi1 hz1)
  have kept : ∀ c u, c ≠ z → c ≠ i1 → c ≠ i2 → hp.get? c = some u → g3.get? c = some u := fun c u c1 c2 c3 q => hs3.extBut _ _ c3 (hs2.extBut _ _ c2 (hs1.extBut _ _ c1 q))
  have j1 : St1 (i + 1) g3 := D1.over sn1 hs3 S.sep2_1
  refine wpAny_pure ⟨_, rfl, ?_⟩
  show Q (.ref g3.objs.size) _
  have tp : IsTupOf2 (g3.push { cls := .type "tuple", data := .seq #[x, y] }) g3.objs.size x y := Heap.get?_push_size _ rfl
  have sz4 : (g3.push { cls := .type "tuple", data := .seq #[x, y] }).objs.size = g3.objs.size + 1 := Heap.size_push ..
  rw [esz] at tp sz4 ⊢
  exact hq x y _ tk2 hx hy (Heap.get?_push_of_some _ hz3) (D1.frame _ _ _ j1 fun b _ u q => Heap.get?_push_of_some _ q) (D2.frame _ _ _ sn2 fun b _ u q => Heap.get?_push_of_some _ q) tp sz4 fun c u c1 c2 c3 q => Heap.get?_push_of_some _ (kept c u c1 c2 c3 q)
theorem held_end {Q : Fin → Shared → Prop} (S : ZipSep2 z TI TO i1 i2 fp1 fp2) (D1 : Draws prog w A i1 fp1 n1 P1 St1) (D2 : Draws prog w A i2 fp2 n2 P2 St2)
    (hz : IsZipHeld s.heap z TI TO T f) (hT : s.heap.get? T = some oT) (hTI : IsTupOf2 s.heap TI (.ref i1) (.ref i2)) (st1 : St1 i s.heap) (st2 : St2 i s.heap) (le1 : i ≤ n1) (le2 : i ≤ n2) (fin : i = n1 ∨ i = n2)
    (he : ∀ h' tk e, (∀ c u, c ≠ z → c ≠ i1 → c ≠ i2 → s.heap.get? c = some u → h'.get? c = some u) → (∃ u, h'.get? e = some u ∧ u.cls = .type "StopIteration") → E (.ref e) { s with heap := h', toks := tk }) :
    wpAny (model prog w) A (Builtin.«zip.__next__» ⟨[.ref z], []⟩) Q E s := by
  obtain ⟨hp, gn, dr, tk0, os⟩ := s
  show wpAny _ _ (field (.ref z) 2 >>= _) _ _ _
  refine wpAny_bind (wpAny_field hz rfl (x := .bool false) rfl ?_)
  show wpAny _ _ (field (.ref z) 3 >>= _) _ _ _
  refine wpAny_bind (wpAny_field hz rfl (x := .ref TI) rfl (wpAny_bind (wpAny_seqItems hTI rfl ?_)))
  show wpAny _ _ (Builtin.SmallTypes.ownedTupleIsFree (.ref z) >>= _) _ _ _
  refine wpAny_bind (wpAny_tupleHeld_zip hz hT fun g1 hz1 hs1 => ?_)
  replace hs1 : Heap.SameBut z hp g1 := hs1
  simp only [Bool.false_eq_true, if_false]
  refine wpAny_bind ?_
  rw [← Array.forIn_toList]
  simp only [List.forIn_cons, List.forIn_nil]
  refine wpAny_bind (wpAny_bind (wpAny_holding ?_))
  show wpAny _ _ (Builtin.SmallTypes.nextOf (.ref i1) >>= _) _ _ ⟨g1, gn, dr, tk0, os⟩
  by_cases lt1 : i < n1
  · refine wpAny_bind (D1.item i _ _ _ lt1 (D1.over st1 hs1 S.zf1) fun x g2 tk1 hx sn1 hs2 => wpAny_pure (wpAny_pure ?_))
    replace hs2 : Heap.SameBut i1 g1 g2 := hs2
    have ei : i = n2 := by omega
    refine wpAny_bind (wpAny_bind (wpAny_holding ?_))
    show wpAny _ _ (Builtin.SmallTypes.nextOf (.ref i2) >>= _) _ _ ⟨g2, gn, dr, tk1, os⟩
    refine wpAny_bind (D2.done ⟨g2, gn, dr, tk1, os⟩ _ _ (by rw [← ei]; exact D2.over (D2.over st2 hs1 S.zf2) hs2 S.sep1_2) fun q e hq hE => ?_)
    replace hq : Heap.ExtBut i2 g2 q := hq
    exact he q tk1 e (fun c u c1 c2 c3 r => hq _ _ c3 (hs2.extBut _ _ c2 (hs1.extBut _ _ c1 r))) hE
  · have ei : i = n1 := by omega
    refine wpAny_bind (D1.done ⟨g1, gn, dr, tk0, os⟩ _ _ (by rw [← ei]; exact D1.over st1 hs1 S.zf1) fun q e hq hE => ?_)
    replace hq : Heap.ExtBut i1 g1 q := hq
    exact he q tk0 e (fun c u c1 c2 c3 r => hq _ _ c2 (hs1.extBut _ _ c1 r)) hE
/-- where a zip stands ahead of its i-th turn, if what it gave is kept -/
def ZAt (z TI TO i1 i2 : Addr) (S : Addr) (St1 St2 : Nat → Heap → Prop) (i : Nat) (h : Heap) : Prop :=
  IsTupOf2 h TI (.ref i1) (.ref i2) ∧ St1 i h ∧ St2 i h ∧ ((IsZip h z TI TO .none ∧ ∃ a b, IsTupOf2 h TO a b) ∨ ∃ T f oT, IsZipHeld h z TI TO T f ∧ h.get? T = some oT ∧ T ≠ z ∧ T ≠ i1 ∧ T ≠ i2 ∧ T ≠ S)
theorem z_item {S0 : Addr} {Q : Option Value → Shared → Prop} (S : ZipSep2 z TI TO i1 i2 fp1 fp2) (D1 : Draws prog w A.in1 i1 fp1 n1 P1 St1) (D2 : Draws prog w A.in1 i2 fp2 n2 P2 St2)
    (hz : ZAt z TI TO i1 i2 S0 St1 St2 i s.heap) (hS : S0 < s.heap.objs.size) (lt1 : i < n1) (lt2 : i < n2)
    (hq : ∀ x y h' tk, P1 i x → P2 i y → ZAt z TI TO i1 i2 S0 St1 St2 (i + 1) h' → IsTupOf2 h' s.heap.objs.size x y → h'.objs.size = s.heap.objs.size + 1 →
      (∀ c u, c ≠ z → c ≠ TO → c ≠ i1 → c ≠ i2 → s.heap.get? c = some u → h'.get? c = some u) → Q (some (.ref s.heap.objs.size)) { s with heap := h', toks := tk }) :
    wpAny (model prog w) A (pyNext (.ref z)) Q E s := by
  obtain ⟨hTI, st1, st2, q⟩ := hz
  have lti1 : i1 < s.heap.objs.size := by obtain ⟨_, q⟩ := D1.live _ _ st1; exact Heap.lt_size q
  have lti2 : i2 < s.heap.objs.size := by obtain ⟨_, q⟩ := D2.live _ _ st2; exact Heap.lt_size q
  rcases q with ⟨hz, a, b, hTO⟩ | ⟨T, f, oT, hz, hT, t1, t2, t3, t4⟩
  · have ltz : z < s.heap.objs.size := Heap.lt_size hz
    refine wpAny_pyNext_zipD2_item S D1 D2 hz hTI hTO st1 st2 lt1 lt2 fun x y h' tk p1 p2 b1 b2 d1 d2 b5 b6 b7 => hq x y h' tk p1 p2 ⟨b7 _ _ S.TIz S.TITO S.TIi1 S.TIi2 hTI, d1, d2, .inr ⟨s.heap.objs.size, false, _, b1, b5, ?_⟩⟩ b5 b6 b7
    exact ⟨Nat.ne_of_gt ltz, Nat.ne_of_gt lti1, Nat.ne_of_gt lti2, Nat.ne_of_gt hS⟩
  · have hty : s.TypeIs (.ref z) "zip" := ⟨_, hz, rfl⟩
    unfold pyNext
    exact wpAny_bind (wpAny_attempt (wpAny_callSpecial?_slot (name := Str.ofString "__next__") hty F.slot_zip_next (wpAny_call_entry F.slot_zip_next hty F.entry_zip_next
      (held_item S D1 D2 hz hT hTI st1 st2 lt1 lt2 fun x y h' tk p1 p2 b1 d1 d2 b5 b6 b7 => wpAny_pure (hq x y h' tk p1 p2
        ⟨b7 _ _ S.TIz S.TIi1 S.TIi2 hTI, d1, d2, .inr ⟨T, true, oT, b1, b7 _ _ t1 t2 t3 hT, t1, t2, t3, t4⟩⟩ b5 b6 fun c u c1 _ c3 c4 q => b7 c u c1 c3 c4 q)) (F.args_zip_next_1 _))))
theorem z_end {S0 : Addr} {Q : Option Value → Shared → Prop} (S : ZipSep2 z TI TO i1 i2 fp1 fp2) (D1 : Draws prog w A.in1 i1 fp1 n1 P1 St1) (D2 : Draws prog w A.in1 i2 fp2 n2 P2 St2)
    (hz : ZAt z TI TO i1 i2 S0 St1 St2 i s.heap) (le1 : i ≤ n1) (le2 : i ≤ n2) (fin : i = n1 ∨ i = n2)
    (hq : ∀ h' tk, (∀ c u, c ≠ z → c ≠ TO → c ≠ i1 → c ≠ i2 → s.heap.get? c = some u → h'.get? c = some u) → Q none { s with heap := h', toks := tk }) : wpAny (model prog w) A (pyNext (.ref z)) Q E s := by
  obtain ⟨hTI, st1, st2, q⟩ := hz
  rcases q with ⟨hz, a, b, hTO⟩ | ⟨T, f, oT, hz, hT, t1, t2, t3, t4⟩
  · exact wpAny_pyNext_zipD2_end S D1 D2 hz hTI hTO st1 st2 le1 le2 fin hq
  · have hty : s.TypeIs (.ref z) "zip" := ⟨_, hz, rfl⟩
    unfold pyNext
    refine wpAny_bind (wpAny_attempt (wpAny_callSpecial?_slot (name := Str.ofString "__next__") hty F.slot_zip_next (wpAny_call_entry F.slot_zip_next hty F.entry_zip_next
      (held_end S D1 D2 hz hT hTI st1 st2 le1 le2 fin fun h' tk e hk hE => ?_) (F.args_zip_next_1 _))))
    obtain ⟨u, hu, hcl⟩ := hE
    exact wpAny_bind (wpAny_isInstance (T := "StopIteration") (b := true) ⟨u, hu, hcl⟩ isSubtype_stop (wpAny_pure (hq _ _ fun c v c1 _ c3 c4 q => hk c v c1 c3 c4 q)))
theorem ZAt.through {S0 : Addr} {h h' : Heap} (S : ZipSep2 z TI TO i1 i2 fp1 fp2) (D1 : Draws prog w A i1 fp1 n1 P1 St1) (D2 : Draws prog w A i2 fp2 n2 P2 St2) (n1' : S0 ∉ fp1) (n2' : S0 ∉ fp2) (nT : TI ≠ S0) (nz : z ≠ S0) (nO : TO ≠ S0)
    (hz : ZAt z TI TO i1 i2 S0 St1 St2 i h) (k : ∀ c u, c ≠ S0 → h.get? c = some u → h'.get? c = some u) : ZAt z TI TO i1 i2 S0 St1 St2 i h' := by
  obtain ⟨hTI, st1, st2, q⟩ := hz
  refine ⟨k _ _ nT hTI, D1.frame _ _ _ st1 fun b hb u e => k _ _ (fun z => n1' (z ▸ hb)) e, D2.frame _ _ _ st2 fun b hb u e => k _ _ (fun z => n2' (z ▸ hb)) e, ?_⟩
  rcases q with ⟨hz, a, b, hTO⟩ | ⟨T, f, oT, hz, hT, t1, t2, t3, t4⟩
  · exact .inl ⟨k _ _ nz hz, a, b, k _ _ nO hTO⟩
  · exact .inr ⟨T, f, oT, k _ _ nz hz, k _ _ t4 hT, t1, t2, t3, t4⟩
end
end CS
namespace CS
open PySem PySem.Spec PyProof.Rows L2
theorem zip_nolen : typeLookup (.type "zip") "__len__" = pure none := am_miss_of_fast (by decide +kernel)
theorem zip_nohint : typeLookup (.type "zip") "__length_hint__" = pure none := am_miss_of_fast (by decide +kernel)
/-- the j-th address of as holds the pair of the j-th of xs and the j-th of ys -/
def PairsAt (xs ys : List V) (as : List Addr) (H : Hp) : Prop := ∀ (j : Nat) (a : Addr) (x y : V), as[j]? = some a → xs[j]? = some x → ys[j]? = some y → H a = some (.tup [x, y])
section
variable {X : Cx} {pins : List (Addr × Obj)} {σ : L2.St} {s : Shared} {A : Around} {z TI TO i1 i2 S0 : Addr} {fp1 fp2 : List Addr} {St1 St2 : Nat → Heap → Prop} {xs ys : List V} {its1 its2 : List Value} {n1 n2 n : Nat} {H0 : Hp}
/-- what the loop that collects a zip has reached -/
structure ZGot (X : Cx) (pins : List (Addr × Obj)) (σ : L2.St) (s : Shared) (z TO i1 i2 S0 : Addr) (xs ys : List V) (H0 : Hp) (i : Nat) (h : Heap) (tk : Nat) (Hc : Hp) (acc : Array Value) (c : Nat) (as : List Addr) : Prop where
  inv : Inv X pins σ Hc { s with heap := h, toks := tk }
  lst : h.get? S0 = some { cls := .type "list", dict := none, data := .seq acc c, slots := #[] }
  acc : acc.toList = as.map Value.ref
  len : as.length = i
  fp : ∀ b ∈ [z, TO, i1, i2, S0], FpOk X pins Hc b
  same : Same H0 Hc
  good : PairsAt xs ys as Hc
theorem z_loop {R : Result → Shared → Prop} (S : ZipSep2 z TI TO i1 i2 fp1 fp2) (rx : Vals xs its1) (ry : Vals ys its2)
    (D1 : Draws X.prog X.w A.in1.in1 i1 fp1 xs.length (fun j v => its1[j]? = some v) St1) (D2 : Draws X.prog X.w A.in1.in1 i2 fp2 ys.length (fun j v => its2[j]? = some v) St2)
    (sf1 : S0 ∉ fp1) (sf2 : S0 ∉ fp2) (nT : TI ≠ S0) (nz : z ≠ S0) (nO : TO ≠ S0) (hn : n = min xs.length ys.length) (hfit : n ≤ sizeLine) (res : Value)
    (hR : ∀ h tk Hc acc c as, ZGot X pins σ s z TO i1 i2 S0 xs ys H0 n h tk Hc acc c as → R (.ok (.ret res)) { s with heap := h, toks := tk }) :
    ∀ (k i : Nat) (h : Heap) (tk : Nat) (Hc : Hp) (acc : Array Value) (c : Nat) (as : List Addr), n - i = k → i ≤ n → ZGot X pins σ s z TO i1 i2 S0 xs ys H0 i h tk Hc acc c as → ZAt z TI TO i1 i2 S0 St1 St2 i h → (∀ b ∈ [z, TO, i1, i2, S0], b < h.objs.size) →
    codeAny (model X.prog X.w) A (.builtin "list.extend.loop" ⟨[.ref S0, .ref z, res], []⟩) R { s with heap := h, toks := tk } := by
  intro k
  induction k with
  | zero =>
    intro i h tk Hc acc c as ek hi G zat low
    have ein : i = n := by omega
    subst ein
    refine codeAny_builtin F.entry_extend_loop ?_
    rw [Around.under_plainId F.plain_extend_loop _]
    show wpAny _ A.in1 (pyNext (.ref z) >>= _) _ _ _
    refine wpAny_bind (z_end S D1 D2 zat (by omega) (by omega) (by omega) fun h' tk' hk => ?_)
    have hS : z ≠ S0 ∧ i1 ≠ S0 ∧ i2 ≠ S0 := ⟨nz, fun q => sf1 (q ▸ S.mem1), fun q => sf2 (q ▸ S.mem2)⟩
    refine wpAny_pure (hR h' tk' Hc acc c as ⟨?_, hk _ _ nz.symm nO.symm hS.2.1.symm hS.2.2.symm G.lst, G.acc, G.len, G.fp, G.same, G.good⟩)
    exact G.inv.turnedL (s := { s with heap := h, toks := tk }) (t' := tk') (ch := [z, TO, i1, i2, S0]) (fun b u hb q => hk b u (fun e => hb (by simp [e])) (fun e => hb (by simp [e])) (fun e => hb (by simp [e])) (fun e => hb (by simp [e])) q) G.fp
  | succ k ih =>
    intro i h tk Hc acc c as ek hi G zat low
    have hS : z ≠ S0 ∧ i1 ≠ S0 ∧ i2 ≠ S0 := ⟨nz, fun q => sf1 (q ▸ S.mem1), fun q => sf2 (q ▸ S.mem2)⟩
    have hSlt : S0 < h.objs.size := Heap.lt_size G.lst
    refine codeAny_builtin F.entry_extend_loop ?_
    rw [Around.under_plainId F.plain_extend_loop _]
    show wpAny _ A.in1 (pyNext (.ref z) >>= _) _ _ _
    refine wpAny_bind (z_item (s := { s with heap := h, toks := tk }) S D1 D2 zat hSlt (by omega) (by omega) fun u v h' tk' hu hv zat' tp hsz hk => ?_)
    obtain ⟨x, hx, rxu⟩ : ∃ x, xs[i]? = some x ∧ RelV x u := by
      have hlt : i < xs.length := by omega
      obtain ⟨u', e1, e2⟩ := rx.get (List.getElem?_eq_getElem hlt)
      rw [e1] at hu
      cases hu
      exact ⟨_, List.getElem?_eq_getElem hlt, e2⟩
    obtain ⟨y, hy, ryv⟩ : ∃ y, ys[i]? = some y ∧ RelV y v := by
      have hlt : i < ys.length := by omega
      obtain ⟨u', e1, e2⟩ := ry.get (List.getElem?_eq_getElem hlt)
      rw [e1] at hv
      cases hv
      exact ⟨_, List.getElem?_eq_getElem hlt, e2⟩
    have hS' := hk _ _ nz.symm nO.symm hS.2.1.symm hS.2.2.symm G.lst
    have hT0 : Hc h.objs.size = none := G.inv.hok.fresh (Nat.le_refl _)
    have nw : ObjOk X.prog X.w (upd Hc h.objs.size (.tup [x, y])) h' h.objs.size (.tup [x, y]) := ⟨by show 2 ≤ sizeLine; decide, [u, v], .cons rxu (.cons ryv .nil), ⟨_, tp, rfl, _, rfl⟩⟩
    have I1 : Inv X pins σ (upd Hc h.objs.size (.tup [x, y])) { s with heap := h', toks := tk' } :=
      G.inv.turnedNew (s := { s with heap := h, toks := tk }) (t' := tk') (ch := [z, TO, i1, i2, S0]) (fun b q hb e => hk b q (fun e => hb (by simp [e])) (fun e => hb (by simp [e])) (fun e => hb (by simp [e])) (fun e => hb (by simp [e])) e) G.fp (Nat.le_refl _) nw
    have fp2' : ∀ b ∈ [z, TO, i1, i2, S0], FpOk X pins (upd Hc h.objs.size (.tup [x, y])) b := fun b hb => by
      obtain ⟨f0, fr⟩ := G.fp b hb
      refine ⟨?_, fr⟩
      have hlt : b ≠ h.objs.size := Nat.ne_of_lt (low b hb)
      rw [upd_ne hlt]
      exact f0
    show wpAny _ A.in1 (updateSeq S0 (·.push (.ref h.objs.size)) >>= _) _ _ _
    have esz : acc.size = i := by rw [← Array.length_toList, G.acc, List.length_map, G.len]
    refine wpAny_bind (wpAny_updateSeq (s := { s with heap := h', toks := tk' }) hS' rfl (wpAny_pure ⟨plainId_quiet F.plain_extend_loop _, ?_⟩) (by rw [esz]; omega) (by show (acc.push _).size ≤ sizeLine + 1; rw [Array.size_push, esz]; omega))
    have oth : ∀ b q, b ≠ S0 → h'.get? b = some q → (h'.update S0 (Obj.mapSeq (·.push (Value.ref h.objs.size)))).get? b = some q := fun b q hb e => (Heap.get?_update_other _ _ (Ne.symm hb)).trans e
    refine ih (i + 1) _ tk' (upd Hc h.objs.size (.tup [x, y])) (acc.push (.ref h.objs.size)) _ (as ++ [h.objs.size]) (by omega) (by omega) ⟨?_, Heap.get?_update_self _ hS' rfl, ?_, ?_, fp2', ?_, ?_⟩ (ZAt.through S D1 D2 sf1 sf2 nT nz nO zat' oth) (fun b hb => by
      have q := low b hb
      rw [(Heap.SameBut.update h' S0 _).1, hsz]
      exact Nat.lt_succ_of_lt q)
    · exact I1.turnedL (s := { s with heap := h', toks := tk' }) (t' := tk') (ch := [z, TO, i1, i2, S0]) (fun b q hb e => oth b q (fun e => hb (by simp [e])) e) fp2'
    · rw [Array.toList_push, G.acc, List.map_append]
      rfl
    · rw [List.length_append, G.len]
      rfl
    · exact fun b q e => by rw [upd_ne (ne_of_none (G.same b q e) hT0)]; exact G.same b q e
    · intro j a x' y' ha hx' hy'
      by_cases hj : j < i
      · have ha' : as[j]? = some a := by rw [List.getElem?_append_left (by rw [G.len]; exact hj)] at ha; exact ha
        have q := G.good j a x' y' ha' hx' hy'
        rw [upd_ne (ne_of_none q hT0)]
        exact q
      · have ej : j = i := by
          have q := (List.getElem?_eq_some_iff.mp ha).1
          rw [List.length_append, G.len, List.length_singleton] at q
          omega
        subst ej
        rw [List.getElem?_append_right (by rw [G.len]; exact Nat.le_refl _), G.len, Nat.sub_self] at ha
        have ea : h.objs.size = a := Option.some.inj ha
        rw [hx] at hx'
        rw [hy] at hy'
        cases hx'
        cases hy'
        rw [← ea]
        exact upd_same
/-- collecting a zip -/
theorem z_collect {Q : List Value → Shared → Prop} {E : Value → Shared → Prop} (S : ZipSep2 z TI TO i1 i2 fp1 fp2) (rx : Vals xs its1) (ry : Vals ys its2)
    (D1 : Draws X.prog X.w A.in1.in1 i1 fp1 xs.length (fun j v => its1[j]? = some v) St1) (D2 : Draws X.prog X.w A.in1.in1 i2 fp2 ys.length (fun j v => its2[j]? = some v) St2)
    (hn : n = min xs.length ys.length) (hfit : n ≤ sizeLine) (I : Inv X pins σ H0 s) (hz : IsZip s.heap z TI TO .none) (hTI : IsTupOf2 s.heap TI (.ref i1) (.ref i2)) (hTO : ∃ a b, IsTupOf2 s.heap TO a b) (st1 : St1 0 s.heap) (st2 : St2 0 s.heap)
    (l1 : ∀ b ∈ fp1, b < s.heap.objs.size) (l2 : ∀ b ∈ fp2, b < s.heap.objs.size) (fp0 : ∀ b ∈ [z, TO, i1, i2], FpOk X pins H0 b)
    (hq : ∀ h tk Hc as, Inv X pins σ Hc { s with heap := h, toks := tk } → as.length = n → Same H0 Hc → PairsAt xs ys as Hc → Q (as.map Value.ref) { s with heap := h, toks := tk }) :
    wpAny (model X.prog X.w) A (collect (.ref z)) Q E s := by
  have zl : z < s.heap.objs.size := Heap.lt_size hz
  have Tl : TI < s.heap.objs.size := Heap.lt_size hTI
  have Ol : TO < s.heap.objs.size := by obtain ⟨_, _, q⟩ := hTO; exact Heap.lt_size q
  have nm : ∀ {l : List Addr}, (∀ b ∈ l, b < s.heap.objs.size) → s.heap.objs.size ∉ l := fun h q => Nat.lt_irrefl _ (h _ q)
  unfold collect
  refine wpAny_bind (wpAny_runValue (codeAny_builtin F.entry_proto_collect ?_))
  rw [Around.under_plainId F.plain_proto_collect _]
  show wpAny _ A.in1 (newList [] >>= fun l => again (.builtin "list.__iadd__" ⟨[l, .ref z], []⟩)) _ _ s
  refine wpAny_bind (wpAny_newObj_type (wpAny_pure ⟨plainId_quiet F.plain_list_iadd _, codeAny_builtin F.entry_list_iadd ?_⟩))
  rw [Around.under_plainId F.plain_list_iadd _]
  have up : ∀ b u, s.heap.get? b = some u → (s.heap.push { cls := .type "list", data := .seq ([] : List Value).toArray }).get? b = some u := fun b u e => Heap.get?_push_of_some _ e
  have hL : (s.heap.push { cls := .type "list", data := .seq ([] : List Value).toArray }).get? s.heap.objs.size = some { cls := .type "list", data := .seq #[] } := Heap.get?_push_size _ rfl
  have zty : ({ s with heap := s.heap.push { cls := .type "list", data := .seq ([] : List Value).toArray } } : Shared).TypeIs (.ref z) "zip" := ⟨_, up _ _ hz, rfl⟩
  have e1 : Builtin.List.listSameRef (.ref s.heap.objs.size) (.ref z) = false := by simp [Builtin.List.listSameRef, Nat.ne_of_gt zl]
  have e2 : (Value.type "zip" == Value.type "list") = false := by decide
  have e3 : (Value.type "zip" == Value.type "tuple") = false := by decide
  show wpAny _ A.in1 (Builtin.List.listExtendWith (.ref s.heap.objs.size) (.ref z) (.ref s.heap.objs.size)) _ _ _
  unfold Builtin.List.listExtendWith
  refine wpAny_bind (wpAny_typeOf zty ?_)
  simp only [e1, e2, e3, Bool.or_false, Bool.false_eq_true, if_false]
  refine wpAny_bind (wpAny_pyIter_zip (up _ _ hz) (wpAny_bind (wpAny_holding ?_)))
  unfold Builtin.List.listLengthHint
  refine wpAny_bind (wpAny_specialOf zty zip_nolen ?_)
  show wpAny _ A.in1 (specialOf (Value.ref z) (Str.ofString "__length_hint__") >>= _) _ _ _
  refine wpAny_bind (wpAny_specialOf zty zip_nohint (wpAny_pure ?_))
  show wpAny _ A.in1 (rule "list.extend.makes-room" >>= fun _ => Builtin.List.listTouch (.ref s.heap.objs.size) >>= fun _ =>
    again (.builtin "list.extend.loop" ⟨[.ref s.heap.objs.size, .ref z, .ref s.heap.objs.size], []⟩)) _ _ _
  refine wpAny_bind (wpAny_rule (wpAny_bind ?_))
  show wpAny _ A.in1 (updateSeq s.heap.objs.size (·.push .none) >>= fun _ => updateSeq s.heap.objs.size (·.pop)) _ _ _
  refine wpAny_bind (wpAny_updateSeq hL rfl ?_)
  have hL2 := Heap.get?_update_self (Obj.mapSeq (·.push Value.none)) hL rfl
  refine wpAny_updateSeq hL2 rfl ?_
  have hL3 := Heap.get?_update_self (Obj.mapSeq (·.pop)) hL2 rfl
  have oth : ∀ b u, b ≠ s.heap.objs.size → (s.heap.push { cls := .type "list", data := .seq ([] : List Value).toArray }).get? b = some u →
      (((s.heap.push { cls := .type "list", data := .seq ([] : List Value).toArray }).update s.heap.objs.size (Obj.mapSeq (·.push Value.none))).update s.heap.objs.size (Obj.mapSeq (·.pop))).get? b = some u :=
    fun b u hb e => (Heap.get?_update_other _ _ (Ne.symm hb)).trans ((Heap.get?_update_other _ _ (Ne.symm hb)).trans e)
  have old : ∀ b u, s.heap.get? b = some u → (((s.heap.push { cls := .type "list", data := .seq ([] : List Value).toArray }).update s.heap.objs.size (Obj.mapSeq (·.push Value.none))).update s.heap.objs.size (Obj.mapSeq (·.pop))).get? b = some u :=
    fun b u e => oth b u (Nat.ne_of_lt (Heap.lt_size e)) (up b u e)
  have esz : (((s.heap.push { cls := .type "list", data := .seq ([] : List Value).toArray }).update s.heap.objs.size (Obj.mapSeq (·.push Value.none))).update s.heap.objs.size (Obj.mapSeq (·.pop))).objs.size = s.heap.objs.size + 1 := by
    rw [(Heap.SameBut.update _ _ _).1, (Heap.SameBut.update _ _ _).1, Heap.size_push]
  refine wpAny_pure ⟨plainId_quiet F.plain_extend_loop _, z_loop (X := X) (pins := pins) (σ := σ) (s := s) (xs := xs) (ys := ys) (H0 := H0) S rx ry D1 D2 (nm l1) (nm l2) (Nat.ne_of_lt Tl) (Nat.ne_of_lt zl) (Nat.ne_of_lt Ol) hn hfit _
    (fun h tk Hc acc c as G => ?_) n 0 _ s.toks H0 #[] _ [] (Nat.sub_zero _) (Nat.zero_le _) ⟨I.kept (t' := s.toks) old, hL3, rfl, rfl, fun b hb => ?_, fun _ _ e => e, fun j a x y ha => by cases ha⟩ ⟨old _ _ hTI, D1.frame _ _ _ st1 fun b _ u e => old b u e, D2.frame _ _ _ st2 fun b _ u e => old b u e, .inl ⟨old _ _ hz, ?_⟩⟩ fun b hb => ?_⟩
  · show wpAny _ A (load s.heap.objs.size >>= _) _ _ _
    refine wpAny_bind (wpAny_load G.lst (wpAny_pure ?_))
    show Q acc.toList _
    rw [G.acc]
    exact hq h tk Hc as G.inv G.len G.same G.good
  · by_cases e : b = s.heap.objs.size
    · rw [e]
      exact I.fpOk (Nat.le_refl _) (I.hok.fresh (Nat.le_refl _))
    · exact fp0 b (by
        have q : b = z ∨ b = TO ∨ b = i1 ∨ b = i2 ∨ b = s.heap.objs.size := by simpa using hb
        rcases q with q | q | q | q | q
        · simp [q]
        · simp [q]
        · simp [q]
        · simp [q]
        · exact absurd q e)
  · obtain ⟨a, b, q⟩ := hTO
    exact ⟨a, b, old _ _ q⟩
  · rw [esz]
    have q : b = z ∨ b = TO ∨ b = i1 ∨ b = i2 ∨ b = s.heap.objs.size := by simpa using hb
    rcases q with q | q | q | q | q
    · rw [q]; exact Nat.lt_succ_of_lt zl
    · rw [q]; exact Nat.lt_succ_of_lt Ol
    · rw [q]; exact Nat.lt_succ_of_lt (l1 _ S.mem1)
    · rw [q]; exact Nat.lt_succ_of_lt (l2 _ S.mem2)
    · rw [q]; exact Nat.lt_succ_self _
end
end CS
namespace CS
open PySem PySem.Spec PyProof.Rows L2
section
variable {prog : Program} {w : World} {A : Around} {E : Value → Shared → Prop} {s : Shared}
/-- what collecting an object gives, as lists of values -/
def Coll (prog : Program) (w : World) (A : Around) (s : Shared) (z : Addr) (G : Heap → Nat → List Value → Prop) : Prop :=
  ∀ (E : Value → Shared → Prop) (Q : List Value → Shared → Prop), (∀ h tk vs, G h tk vs → Q vs { s with heap := h, toks := tk }) → wpAny (model prog w) A (collect (.ref z)) Q E s
theorem tupcoll_code {Q₁ : Value → Shared → Prop} {z : Addr} {G : Heap → Nat → List Value → Prop} (hT : s.TypeIs (.ref z) "zip") (C : Coll prog w A.in1 s z G) (hfit : ∀ h tk vs, G h tk vs → vs.length ≤ sizeLine)
    (hq : ∀ h tk vs, G h tk vs → Q₁ (.ref h.objs.size) { s with heap := h.push { cls := .type "tuple", data := .seq vs.toArray }, toks := tk }) :
    codeAny (model prog w) A (.call (.builtin "tuple.__new__") ⟨[.type "tuple", .ref z], []⟩) (wants Q₁ E) s := by
  refine codeAny_of_tree ?_
  show wpAny _ A.in1 (do checkBuiltinCall "tuple.__new__" ⟨[.type "tuple", .ref z], []⟩; again (.builtin "tuple.__new__" ⟨[.type "tuple", .ref z], []⟩)) _ _ s
  refine wpAny_bind (wpAny_of_eq (F.newCall_tuple_1 _) (wpAny_pure ⟨plainId_quiet F.plain_tuple_new _, codeAny_builtin F.entry_tuple_new ?_⟩))
  rw [Around.under_plainId F.plain_tuple_new _]
  have q1 := sub_tuple_self
  have q2 := init_tuple_lookup
  have q3 := madeHere_tuple
  have cc : ∀ {E : Value → Shared → Prop} {Q : List Value → Shared → Prop}, (∀ h tk vs, G h tk vs → Q vs { s with heap := h, toks := tk }) → wpAny (model prog w) A.in1 (collect (.ref z)) Q E s := fun h => C _ _ h
  wp_walk using wpAny_typeOf hT, cc
  intro h tk vs g
  show wpAny _ _ (Builtin.Tuple.tupleExact vs.toArray >>= fun v => ret v) _ _ _
  unfold Builtin.Tuple.tupleExact
  refine wpAny_bind (wpAny_newObj_type (wpAny_pure ?_) (by show vs.toArray.size ≤ sizeLine; rw [List.size_toArray]; exact hfit h tk vs g))
  exact hq h tk vs g
theorem tupcoll_call {Q : Value → Shared → Prop} {z : Addr} {G : Heap → Nat → List Value → Prop} (hT : s.TypeIs (.ref z) "zip") (C : Coll prog w A.in1.in1 s z G) (hfit : ∀ h tk vs, G h tk vs → vs.length ≤ sizeLine)
    (hq : ∀ h tk vs, G h tk vs → Q (.ref h.objs.size) { s with heap := h.push { cls := .type "tuple", data := .seq vs.toArray }, toks := tk }) :
    wpAny (model prog w) A (call (.type "tuple") [.ref z]) Q E s := by
  refine callType_codes (Q₁ := fun obj s₁ => s₁.TypeIs obj "tuple" ∧ Q obj s₁) F.called_tuple (F.typeCall_tuple_1 _) F.entry_object_init (tupcoll_code (A := A.in1) hT C hfit fun h tk vs g => ⟨⟨_, Heap.get?_push_size _ rfl, rfl⟩, hq h tk vs g⟩) fun obj s₁ h₁ => ?_
  exact ⟨h₁.1, F.args_object_init_2 obj _, object_init_meets F.called_tuple.init.lookup F.called_tuple.made (by decide) prog w A.in1 _ s₁ ⟨h₁.1, rfl, h₁.2⟩⟩
end
section
variable {X : Cx}
/-- tuple(zip(x, y)), x and y both lists or both tuples: a new tuple of new pairs -/
def tTupZip (K : PySem.W.Frag) (ta : TA) : TE := fun σ H Q => ta σ H fun vs H1 => ∃ (a b : Addr) (xs ys : List V), vs = [.ref a, .ref b] ∧ ((SqT K H1 a xs ∧ SqT K H1 b ys) ∨ (SqL K H1 a xs ∧ SqL K H1 b ys)) ∧
  ∀ (Hc : Hp) (p : Addr) (as : List Addr), Same H1 Hc → as.length = min xs.length ys.length → PairsAt xs ys as Hc → Hc p = none → Q (.ref p) (upd Hc p (.tup (as.map V.ref)))
theorem lt_of_tuple {s : Shared} {a : Addr} {its : Array Value} (p : IsTup s.heap a its) : a < s.heap.objs.size := by
  obtain ⟨u, hu, _⟩ := p
  exact Heap.lt_size hu
theorem lt_of_plain {s : Shared} {a : Addr} {its : Array Value} (p : PlainL s.heap a its) : a < s.heap.objs.size := p.lt
theorem pe_tupZip {e e2 : Expr} {ta : TA} {p p2 pos q2 : Pos} (gT : Gl X "tuple") (mT : X.mg "tuple" = none) (gZ : Gl X "zip") (mZ : X.mg "zip" = none) (ha : PA X [e, e2] ta) (hc : X.calm = true := by rfl)
    (na : starEach [.Call (.Name "zip" p2) [e, e2] [] q2] X.env = (false, eval (.Call (.Name "zip" p2) [e, e2] [] q2) X.env) :: starEach [] X.env := by rfl)
    (hs : starEach [e, e2] X.env = (false, eval e X.env) :: starEach [e2] X.env := by rfl) (hpl : (backTo q2 (starEach [e2] X.env)).any (·.1) = false := by rfl) :
    PE X (.Call (.Name "tuple" p) [.Call (.Name "zip" p2) [e, e2] [] q2] [] pos) (tTupZip X.K ta) := by
  refine ⟨fun pins s0 σ H0 Q I0 hw => ?_⟩
  refine Call_ (ld_blt I0 gT mT boot_tuple (PyProof.Rows.callWith_type1 (PyProof.Rows.args_cons ?_ na) na))
  refine Call_ (ld_blt I0 gZ mZ PyProof.Rows.boot_zip (PyProof.Rows.callWith_type1 (thn (ha.run q2 pins s0 σ H0 _ I0 hw) fun us s1 ⟨vs, H1, I1, r1, q1⟩ => ?_) hs hpl))
  obtain ⟨a, b, xs, ys, rfl, hsq, q⟩ := q1
  obtain ⟨u1, u2, rfl, ra, rb⟩ := vals2 r1
  cases ra
  cases rb
  have hh : X.A.handled = none := I1.ok.hd hc
  have key : ∀ (o1 o2 : Obj) (F1 F2 : Heap → Prop) (its1 its2 : List Value) (St1 St2 : Nat → Heap → Prop), Begins (.ref a) o1 F1 → Begins (.ref b) o2 F2 → F1 s1.heap → F2 s1.heap → Vals xs its1 → Vals ys its2 → xs.length ≤ sizeLine → a < s1.heap.objs.size → b < s1.heap.objs.size →
      Draws X.prog X.w X.A.in1.in1.in1.in1 s1.heap.objs.size [s1.heap.objs.size, a] xs.length (fun j v => its1[j]? = some v) St1 → Draws X.prog X.w X.A.in1.in1.in1.in1 (s1.heap.objs.size + 1) [s1.heap.objs.size + 1, b] ys.length (fun j v => its2[j]? = some v) St2 →
      (∀ h', h'.get? s1.heap.objs.size = some o1 → (∀ c u, s1.heap.get? c = some u → h'.get? c = some u) → St1 0 h') → (∀ h', h'.get? (s1.heap.objs.size + 1) = some o2 → (∀ c u, s1.heap.get? c = some u → h'.get? c = some u) → St2 0 h') →
      wpAny (model X.prog X.w) X.A (call (.type "zip") [.ref a, .ref b]) (fun v s' => wpAny (model X.prog X.w) X.A (spliced (backTo pos (starEach [] X.env))) (fun vs s'' => wpAny (model X.prog X.w) X.A (call (.type "tuple") (v :: vs)) (EP X pins σ Q) X.xe s'') X.xe s') X.xe s1 := by
    intro o1 o2 F1 F2 its1 its2 St1 St2 B1 B2 f1 f2 rx ry hz al bl D1 D2 k1 k2
    refine zip_begins2 B1 B2 f1 f2 fun h' hzp hTI hTO g1 g2 hsz hk => ?_
    refine PyProof.Rows.args_nil ?_
    have I2 : Inv X pins σ H1 { s1 with heap := h' } := I1.kept (t' := s1.toks) hk
    have S := zip_sep2 (N := s1.heap.objs.size) (fp1 := [a]) (fp2 := [b]) (fun c hc => by rw [List.mem_singleton.mp hc]; exact al) (fun c hc => by rw [List.mem_singleton.mp hc]; exact bl)
    refine tupcoll_call (s := { s1 with heap := h' }) (G := fun h tk vs => ∃ Hc as, vs = as.map Value.ref ∧ Inv X pins σ Hc { s1 with heap := h, toks := tk } ∧ as.length = min xs.length ys.length ∧ Same H1 Hc ∧ PairsAt xs ys as Hc) ⟨_, hzp, rfl⟩
      (fun E' Q' hQ' => z_collect (A := X.A.in1.in1) (s := { s1 with heap := h' }) (pins := pins) (σ := σ) (n := min xs.length ys.length) S rx ry D1 D2 rfl (by omega) I2 hzp hTI ⟨_, _, hTO⟩ (k1 h' g1 hk) (k2 h' g2 hk) ?_ ?_ ?_ fun h tk Hc as J l sm pr => hQ' h tk _ ⟨Hc, as, rfl, J, l, sm, pr⟩)
      ?_ ?_
    · intro c hc
      have hc' : c = s1.heap.objs.size ∨ c = a := by simpa using hc
      show c < h'.objs.size
      rw [hsz]
      rcases hc' with e | e
      · rw [e]; exact Nat.lt_add_of_pos_right (by decide)
      · rw [e]; exact Nat.lt_of_lt_of_le al (Nat.le_add_right _ _)
    · intro c hc
      have hc' : c = s1.heap.objs.size + 1 ∨ c = b := by simpa using hc
      show c < h'.objs.size
      rw [hsz]
      rcases hc' with e | e
      · rw [e]; exact Nat.add_lt_add_left (by decide) _
      · rw [e]; exact Nat.lt_of_lt_of_le bl (Nat.le_add_right _ _)
    · intro c hc
      have hle : s1.heap.objs.size ≤ c := by
        have hc' : c = s1.heap.objs.size + 4 ∨ c = s1.heap.objs.size + 3 ∨ c = s1.heap.objs.size ∨ c = s1.heap.objs.size + 1 := by simpa using hc
        rcases hc' with e | e | e | e
        · rw [e]; exact Nat.le_add_right _ _
        · rw [e]; exact Nat.le_add_right _ _
        · rw [e]; exact Nat.le_refl _
        · rw [e]; exact Nat.le_add_right _ _
      exact I1.fpOk hle (I1.hok.fresh hle)
    · rintro h tk vs ⟨Hc, as, rfl, _, l, _, _⟩
      rw [List.length_map, l]
      omega
    · rintro h tk vs ⟨Hc, as, rfl, J, l, sm, pr⟩
      have rvs : Vals (as.map V.ref) (as.map Value.ref) := by
        clear l pr
        induction as with
        | nil => exact .nil
        | cons x t ih => exact .cons rfl ih
      refine ⟨.ref h.objs.size, upd Hc h.objs.size (.tup (as.map V.ref)), J.laid (s := { s1 with heap := h, toks := tk }) (t' := tk) (fun c u e => Heap.get?_push_of_some _ e) (Nat.le_refl _) ?_, rfl, q Hc _ as sm l pr (J.hok.fresh (Nat.le_refl _))⟩
      exact ⟨by rw [List.length_map, l]; omega, _, rvs, IsTup.new _ _⟩
  rcases hsq with ⟨hx, hy⟩ | ⟨hx, hy⟩
  · obtain ⟨its1, rx, px, hzx⟩ := I1.tuple hx
    obtain ⟨its2, ry, py, hzy⟩ := I1.tuple hy
    have ax := lt_of_tuple px
    have ay := lt_of_tuple py
    have D1 := Draws.tuple (prog := X.prog) (w := X.w) (A := X.A.in1.in1.in1.in1) hh s1.heap.objs.size a (Nat.ne_of_lt ax) its1.toArray
    have D2 := Draws.tuple (prog := X.prog) (w := X.w) (A := X.A.in1.in1.in1.in1) hh (s1.heap.objs.size + 1) b (Nat.ne_of_lt (Nat.lt_succ_of_lt ay)) its2.toArray
    have e1 : its1.toArray.size = xs.length := by rw [List.size_toArray]; exact rx.length.symm
    have e2 : its2.toArray.size = ys.length := by rw [List.size_toArray]; exact ry.length.symm
    rw [e1] at D1
    rw [e2] at D2
    simp only [List.getElem?_toArray] at D1 D2
    exact key _ _ _ _ its1 its2 _ _ (begins_tuple a its1.toArray) (begins_tuple b its2.toArray) px py rx ry hzx ax ay D1 D2 (fun h' g k => ⟨⟨_, g, rfl, rfl⟩, (show s1.heap.IsTuple a its1.toArray from px).at fun u e => k _ u e⟩) (fun h' g k => ⟨⟨_, g, rfl, rfl⟩, (show s1.heap.IsTuple b its2.toArray from py).at fun u e => k _ u e⟩)
  · obtain ⟨its1, rx, px, hzx⟩ := I1.list hx
    obtain ⟨its2, ry, py, hzy⟩ := I1.list hy
    have ax := lt_of_plain px
    have ay := lt_of_plain py
    have D1 := Draws.list (prog := X.prog) (w := X.w) (A := X.A.in1.in1.in1.in1) hh s1.heap.objs.size a (Nat.ne_of_lt ax) its1.toArray
    have D2 := Draws.list (prog := X.prog) (w := X.w) (A := X.A.in1.in1.in1.in1) hh (s1.heap.objs.size + 1) b (Nat.ne_of_lt (Nat.lt_succ_of_lt ay)) its2.toArray
    have e1 : its1.toArray.size = xs.length := by rw [List.size_toArray]; exact rx.length.symm
    have e2 : its2.toArray.size = ys.length := by rw [List.size_toArray]; exact ry.length.symm
    rw [e1] at D1
    rw [e2] at D2
    simp only [List.getElem?_toArray] at D1 D2
    exact key _ _ _ _ its1 its2 _ _ (begins_list a its1.toArray) (begins_list b its2.toArray) px.isList py.isList rx ry hzx ax ay D1 D2 (fun h' g k => ⟨⟨_, g, rfl, rfl⟩, px.isList.at fun u e => k _ u e⟩) (fun h' g k => ⟨⟨_, g, rfl, rfl⟩, py.isList.at fun u e => k _ u e⟩)
end
end CS
/-! an error that is caught and used behind its except clause: it is tracked like any other object -/
namespace CS
open PySem PySem.Spec PyProof.Rows L2
/-- at a: an error of the class cls, its dict at d -/
def XO (cls : Value) (d : Option Addr) (a : Addr) : HO := .ext fun h => ∃ (ob : Obj) (ws : Array Value), h.get? a = some ob ∧ Zc cls d ob ∧ ob.data = .fields ws
theorem xo_put {P : Program} {w : World} {H : Hp} {h : Heap} {a : Addr} {cls : Value} {d : Option Addr} {ob : Obj} {ws : Array Value} (e : h.get? a = some ob) (z : Zc cls d ob) (q : ob.data = .fields ws) : ObjOk P w H h a (XO cls d a) :=
  ⟨⟨ob, ws, e, z, q⟩, ⟨ob, e⟩, fun _ _ hx hk => by
    obtain ⟨u, v, p, r⟩ := hx
    exact ⟨u, v, hk u p, r⟩⟩
theorem xo_take {P : Program} {w : World} {H : Hp} {h : Heap} {a : Addr} {cls : Value} {d : Option Addr} (hk : HOk P w H h) (e : H a = some (XO cls d a)) : ∃ (ob : Obj) (ws : Array Value), h.get? a = some ob ∧ Zc cls d ob ∧ ob.data = .fields ws := by
  have x : ObjOk P w H h a (.ext fun h => ∃ (ob : Obj) (ws : Array Value), h.get? a = some ob ∧ Zc cls d ob ∧ ob.data = .fields ws) := hk a _ e
  exact x.1
section
variable {X : Cx} {pins : List (Addr × Obj)} {σ : L2.St} {H : Hp} {s : Shared} {a : Addr} {ob : Obj} {cls : Value} {d : Option Addr} {ws : Array Value}
/-- an error that is pinned may be tracked, if it is new -/
theorem track (I : Inv X pins σ H s) (he : s.heap.get? a = some ob) (na : H a = none) (nl : a ≠ X.env.locals) (nf : a ∉ X.fs) (hz : Zc cls d ob) (hd : ob.data = .fields ws) (n0 : X.s_0.heap.get? a = none) (np : ∀ p ∈ X.pn ++ pins, p.1 ≠ a) : Inv X pins σ (upd H a (XO cls d a)) s := by
  have away : ∀ {b : Addr} {o : HO}, H b = some o → b ≠ a := fun hb z => by
    rw [z, na] at hb
    cases hb
  have old : ∀ {b : Addr} {o : Obj}, X.s_0.heap.get? b = some o → b ≠ a := fun hb z => by
    rw [z, n0] at hb
    cases hb
  refine ⟨I.ok, I.os, I.bare, ⟨I.base.keep, I.base.slot, ?_, I.base.there, ?_, ?_, ?_⟩, I.loc, I.cell, ?_, ?_, ?_, ?_, I.len⟩
  · intro b o hb hn hx
    rw [upd_ne (old hb)]
    exact I.base.free b o hb hn hx
  · intro b xs hb
    have z := I.base.tups b xs hb
    rw [upd_ne (away z)]
    exact z
  · intro b o u hb
    have z := I.base.frzs b o u hb
    rw [upd_ne (away z)]
    exact z
  · intro b ps hb
    obtain ⟨more, z⟩ := I.base.tbls b ps hb
    refine ⟨more, ?_⟩
    rw [upd_ne (away z)]
    exact z
  · rw [upd_ne (Ne.symm nl)]
    exact I.free
  · intro x c hc
    obtain ⟨v, o, ho, hv⟩ := I.cell x c hc
    rw [upd_ne fun z => ?_]
    · exact I.freeC x c hc
    · rw [z, he] at ho
      cases ho
      rw [hd] at hv
      cases hv
  · intro p hp
    obtain ⟨q1, q2, q3⟩ := I.pin p hp
    refine ⟨q1, ?_, q3⟩
    rw [upd_ne (np p hp)]
    exact q2
  · intro b u hb
    by_cases c : b = a
    · subst c
      rw [upd_same] at hb
      cases hb
      exact xo_put he hz hd
    · rw [upd_ne c] at hb
      exact (I.hok b u hb).stay (fun _ _ _ r => r) (fun c2 r => by rw [upd_ne (away r)]; exact r) (fun c2 xs r => by rw [upd_ne (away r)]; exact r)
end
/-- what 'except C as n' wishes of an error of the body, which the suite then holds -/
def wHold (K : PySem.W.Frag) (c : Value) (i : Nat) (ts : TS) (Wout : WX) (D : Ends) : WX := fun cls d σ H => ∃ y, PySem.W.exmOne K cls c = some y ∧
  (y = true → ∀ a, H a = none → ts { nx := fun σ1 H1 => D.nx (σ1.set i none) H1, rt := D.rt, bk := fun σ1 H1 => D.bk (σ1.set i none) H1, ct := fun σ1 H1 => D.ct (σ1.set i none) H1 } (σ.set i (some (.ref a))) (upd H a (XO cls d a))) ∧ (y = false → Wout cls d σ H)
theorem again {X : Cx} {pins : List (Addr × Obj)} {σ : L2.St} {H : Hp} {s : Shared} {a : Addr} (I : Inv X pins σ H s) : Inv (X.suite a (X.pn ++ pins)) [] σ H s :=
  ⟨I.ok.suite _ _, I.os, I.bare, I.base, I.loc, I.cell, I.free, I.freeC, fun p hp => I.pin p (by rw [List.append_nil] at hp; exact hp), I.hok, I.len⟩
theorem behind {X : Cx} {pins : List (Addr × Obj)} {σ : L2.St} {H : Hp} {s : Shared} {a : Addr} (I : Inv (X.suite a (X.pn ++ pins)) [] σ H s) (ok : X.Ok) : Inv X pins σ H s :=
  ⟨ok, I.os, I.bare, I.base, I.loc, I.cell, I.free, I.freeC, fun p hp => I.pin p (by rw [List.append_nil]; exact hp), I.hok, I.len⟩
theorem ps_try_hold {X : Cx} {x n : Str} {c : Value} {i : Nat} {body suite : List Stmt} {b1 : Stmt} {np pos pos' : Pos} {tb : WX → TS} {ts : TS} {Wout : WX} (hs : X.stack = X.env :: X.outer) (hf : X.env.frame = some X.env.locals) (hex : X.ex = []) (hN : X.N.Nodup) (hi : X.N[i]? = some n)
    (hln : X.env.kindOf n = some .local) (hc : Names X x c) (tk : Takes X Wout)
    (hb : ∀ (W : WX) (pn : List (Addr × Obj)) (xe : Value → Shared → Prop), Takes (X.tr pn xe) W → PassesOwn (model X.prog X.w) X.A X.env xe → PSs (X.tr pn xe) body (tb W))
    (hsu : ∀ (a : Addr) (pn : List (Addr × Obj)), PSs (X.suite a pn) (b1 :: suite) ts) :
    PS X (.Try body [.ExceptHandler (some (.Name x np)) (some n) (b1 :: suite) pos'] [] [] pos) (fun D σ H => tb (wHold X.K c i ts Wout D) D σ H) := by
  constructor
  intro pins s σ H D I h
  have okX := I.ok
  have frX : X.A.frames = some (X.env :: X.outer) := okX.frames.trans (by rw [hs])
  refine wpAny_Try_except (wpAny_mono ((hb (wHold X.K c i ts Wout D) (X.pn ++ pins) (fun e t1 => wpAny (model X.prog X.w) X.A (noteFrame e X.env) (fun _ t2 => wpAny (model X.prog X.w) X.A (setFlight e none) (fun _ t3 =>
    wpAny (model X.prog X.w) X.A (handleBy e X.env [.ExceptHandler (some (.Name x np)) (some n) (b1 :: suite) pos']) (SP X pins D) X.xe t3) X.xe t2) X.xe t1) (fun u t thrown => ?_) PassesOwn.looking).run [] s σ H D (I.toTry _) h) (fun f t ended => ?_) fun _ _ z => z)
  · obtain ⟨a, B, sI, pI, σI, HI, cls, d, rfl, inI, nb, up, sky, na, os, ag, y, hy, yes, no⟩ := thrown
    have J := inI.ofTry okX
    show wpAny (model X.prog X.w) X.A (noteFrame (.ref a) X.env) _ _ _
    refine Sky.land Zc.steady frX hf (B := B) (Z := Zc cls d) (by rw [← hs]; exact sky) fun h3 fl up3 => ?_
    have J3 : Inv X pins σI HI { t with heap := h3 } := J.landed nb fl.1 (up.trans up3) os ag
    obtain ⟨ob, vs, gob, zob, dob⟩ := fl.there
    have nfs : a ∉ frs (X.env :: X.outer) := fun hm => by
      obtain ⟨_, o2, g2, notF⟩ := fl.2.2.1.mem hm
      rw [gob] at g2
      cases g2
      exact notF _ dob
    have nl : a ≠ X.env.locals := fun z => nfs (List.mem_filterMap.mpr ⟨X.env, List.mem_cons_self, by rw [hf, z]⟩)
    have nf : a ∉ X.fs := fun hm => by
      obtain ⟨e, he, q⟩ := List.mem_filterMap.mp hm
      exact nfs (List.mem_filterMap.mpr ⟨e, List.mem_cons_of_mem _ he, q⟩)
    have nI : sI.heap.get? a = none := by
      cases q : sI.heap.get? a with
      | none => rfl
      | some o =>
        have z := nb a o q (by rw [hs]; exact nfs)
        rw [fl.2.1] at z
        cases z
    have n0 : X.s_0.heap.get? a = none := by
      cases q : X.s_0.heap.get? a with
      | none => rfl
      | some o =>
        obtain ⟨o2, z⟩ := J.base.there a o q (by rw [hex]; exact fun z => nomatch z)
        rw [nI] at z
        cases z
    have np' : ∀ p ∈ X.pn ++ pins, p.1 ≠ a := fun p hp z => by
      have q := (J.pin p hp).1
      rw [z, nI] at q
      cases q
    have S3 := J3.suite gob dob na nl nf
    refine wpAny_handleBy_cons (codeAny_handlers_test ?_) (by intro q; cases q)
    have asks : PySem.W.Looks (model X.prog X.w) h3 (typeOf (.ref a)) cls := fun _ _ _ _ k q => wpAny_typeOf_ref (k _ _ gob) (by rw [zob.1]; exact q)
    have named : ∀ {Q : Value → Shared → Prop} {E : Value → Shared → Prop}, Q c { t with heap := h3 } → wpAny (model X.prog X.w) (X.A.mark (some (.ref a))) (eval (.Name x np) X.env) Q E { t with heap := h3 } := by
      intro Q E q
      obtain ⟨hg, hdb, hm | ⟨hm, hv, hnn⟩⟩ := hc
      · exact ld_glob (X := X.suite a ((a, ob) :: (X.pn ++ pins))) S3 hg hm q hdb
      · exact ld_blt (X := X.suite a ((a, ob) :: (X.pn ++ pins))) S3 hg hm hv q hnn hdb
    refine named ((PySem.W.exm_one (M := model X.prog X.w) J3.kIn asks hy).here ?_)
    cases y with
    | true =>
      refine codeAny_handlers_suite_as (HandSPX.lands_againZ fl fun h4 fl4 up4 => ?_)
      have J4 : Inv X pins σI HI { t with heap := h4 } := J.landed nb fl4.1 ((up.trans up3).trans up4) os ag
      obtain ⟨ob4, vs4, gob4, zob4, dob4⟩ := fl4.there
      have T4 := again (a := a) (track J4 gob4 na nl nf zob4 dob4 n0 np')
      refine store_ok (X := X.suite a (X.pn ++ pins)) (v := .ref a) T4 hN hi (.inl hln) rfl (fun t5 T5 => ?_) (.inr hln)
      refine wpAny_mono ((hsu a (X.pn ++ pins)).run [] t5 _ _ _ T5 (yes rfl a na)) (fun f t6 r => ?_) fun _ _ z => z.elim
      have out : ∀ {σ6 : L2.St} {H6 : Hp} {Q : Shared → Prop}, Inv (X.suite a (X.pn ++ pins)) [] σ6 H6 t6 → (∀ t7, Inv X pins (σ6.set i none) H6 t7 → Q t7) → wpAny (model X.prog X.w) X.A (do bindName X.env n .none; unbindBehindTheSuite X.env n pos') (fun _ t7 => Q t7) X.xe t6 :=
        fun {σ6 H6 Q} z hq => gone_ok (behind z okX) hN hi hln hq
      cases f with
      | next =>
        obtain ⟨σ6, H6, z, q⟩ := r
        exact out z fun _ w7 => ⟨_, _, w7, q⟩
      | brk =>
        obtain ⟨σ6, H6, z, q⟩ := r
        exact out z fun _ w7 => ⟨_, _, w7, q⟩
      | cont =>
        obtain ⟨σ6, H6, z, q⟩ := r
        exact out z fun _ w7 => ⟨_, _, w7, q⟩
      | ret u =>
        obtain ⟨v6, σ6, H6, z, rv, q⟩ := r
        exact out z fun _ w7 => ⟨_, _, _, w7, rv, q⟩
    | false =>
      show wpAny _ X.A (handleBy (.ref a) X.env []) _ _ _
      refine wpAny_handleBy_nil ?_
      obtain ⟨_, _, _, ob5, vs5, T, oT, rest, g5, z5, d5, one5, _⟩ := id fl
      unfold PySem.passOn
      refine wpAny_bind (wpAny_field g5 d5 one5 ?_)
      rw [if_neg (by simp)]
      have go : wpAny (model X.prog X.w) X.A (setFlight (.ref a) X.env.frame) (fun _ t4 => wpAny (model X.prog X.w) X.A (throw (.ref a) : Sem Flow) (SP X pins D) X.xe t4) X.xe { t with heap := h3 } := by
        rw [hf]
        refine HandSPX.setFlight_upZ fl fun h4 held up4 => wpAny_throw (tk _ _ ⟨a, B, sI, pins, σI, HI, cls, d, rfl, J, nb, (up.trans up3).trans up4, .inr (.inr ?_), na, os, ag, no rfl⟩)
        rw [hs]
        exact held
      first
        | exact wpAny_bind (wpAny_pure (wpAny_bind go))
        | exact wpAny_bind go
  · cases f with
    | next =>
      obtain ⟨σ1, H1, z, q⟩ := ended
      exact wpAny_execs_nil ⟨σ1, H1, z.ofTry okX, q⟩
    | brk =>
      obtain ⟨σ1, H1, z, q⟩ := ended
      exact ⟨σ1, H1, z.ofTry okX, q⟩
    | cont =>
      obtain ⟨σ1, H1, z, q⟩ := ended
      exact ⟨σ1, H1, z.ofTry okX, q⟩
    | ret u =>
      obtain ⟨v, σ1, H1, z, rv, q⟩ := ended
      exact ⟨v, σ1, H1, z.ofTry okX, rv, q⟩
end CS
set_option maxHeartbeats 4000000
/-! isinstance and the fields of an error that is tracked -/
namespace PySem.W
open PySem PySem.Spec PySem.Calls PyProof.Rows
section
variable {prog : Program} {w : World} {A : Around} {E : Value → Shared → Prop} {s : Shared} {K : Frag} {x D : Addr} {ox : Obj} {od : Option Obj}
theorem csx_data {C : Addr} {nm : Str} {a g : Value} (h1 : (clsIn K C).isSome = true) (h2 : findIn K (.ref C) nm = some (some a)) (h3 : specialIn K a "__get__" = some (some g)) (h4 : takesIn K a = some true) : findObj K C od nm = some (.bind g a) := by
  cases e : clsIn K C with
  | none =>
    rw [e] at h1
    cases h1
  | some cd =>
    unfold findObj
    rw [e, Option.bind_some, h2, Option.bind_some]
    simp [h3, h4]
/-- what the class D says of its instances' __class__ -/
structure CsxC (K : Frag) (D : Addr) : Prop where
  hg : findIn K (.ref D) "__getattribute__" = some (some (.builtin "BaseException.__getattribute__"))
  hk : findIn K (.ref D) "__getattr__" = some none
  hs : subIn K (.ref D) (.type "BaseException") = some true
  hd : hasDictIn K D = true
  ha : findIn K (.ref D) "__class__" = some (some (.builtin "object.__class__"))
  hn : specialIn K (.builtin "object.__class__") "__get__" = some (some (.builtin "getset_descriptor.__get__"))
  ht : takesIn K (.builtin "object.__class__") = some true
  hm : mroIn K D (.type "object") = some true
theorem csx_class {Q : Option Value → Shared → Prop} (T : CsxC K D) (X : K.In s.heap) (I : InstAt s.heap x ox D od) (q : Q (some (.ref D)) { s with toks := s.toks + 1 }) : wpAny (model prog w) A (getAttr? (.ref x) "__class__") Q E s := by
  have known : (clsIn K D).isSome = true := by
    obtain ⟨cd, hc, _⟩ := any_some T.hd
    rw [hc] <;> rfl
  have found : findObj K D od "__class__" = some (.bind (.builtin "getset_descriptor.__get__") (.builtin "object.__class__")) := csx_data known T.ha T.hn T.ht
  obtain ⟨hp, gs, dr, tk, os⟩ := s
  have kind := I.type (M := model prog w)
  have way := looks_findIn (M := model prog w) X T.hg
  have hook := looks_findIn (M := model prog w) X T.hk
  have look := looks_find (M := model prog w) X I found
  have base : Looks (model prog w) hp (isInstance (.ref x) (.type "BaseException")) true := kind.andThen (looks_subIn X T.hs)
  have other : (Value.builtin "BaseException.__getattribute__" == Value.builtin "object.__getattribute__") = false := by decide +kernel
  have plain : (onTheHeap (Value.ref D) && Value.builtin "BaseException.__getattribute__" == Value.builtin "object.__getattribute__") = false := by
    rw [other]
    rfl
  unfold getAttr? getAttrBy? getAttrBy
  refine wpAny_bind (wpAny_mkText ?_)
  refine wpAny_bind (wpAny_attempt (wpAny_holding ?_))
  refine wpAny_bind (kind.at ?_)
  refine wpAny_bind (way.at ?_)
  show wpAny _ _ (if (onTheHeap (Value.ref D) && Value.builtin "BaseException.__getattribute__" == Value.builtin "object.__getattribute__") = true then _ else _) _ _ _
  rw [plain, if_neg (by decide)]
  unfold getAttrByItsOwn hookBefore
  refine wpAny_bind ?_
  rw [if_pos (show onTheHeap (Value.ref D) = true from rfl)]
  refine hook.at (wpAny_bind ?_)
  refine wpAny_attempt (wpAny_holding ?_)
  unfold callGetattribute
  rw [show (false && onTheHeap (Value.builtin "BaseException.__getattribute__")) = false from rfl, if_neg (by decide)]
  unfold boundAndCalled
  rw [PySem.F.excAttr_ValueError.ga.bind (.ref x)]
  refine wpAny_bind (wpAny_pure ?_)
  show wpAny _ _ (call (.builtin "BaseException.__getattribute__") [.ref x, .str "__class__" tk]) _ _ _
  refine wpAny_call (codeAny_call_builtin PySem.F.excAttr_ValueError.ga.plain PySem.F.entry_bexc_ga ?_)
  refine @check_slot (model prog w) _ _ ⟨hp, gs, dr, tk + 1, os⟩ "BaseException.__getattribute__" "BaseException" "__getattribute__" (.ref x) [.str "__class__" tk] [] _ (by decide +kernel) (by decide +kernel) base (PySem.F.args_bexc_ga (.ref x) (.str "__class__" tk)) ?_
  unfold Builtin.«object.__getattribute__»
  refine wpAny_bind (wpAny_of_eq (a := ((Value.ref x : Value), [Value.str "__class__" tk])) (by first | rfl | (simp only [slotArgs]; rfl)) ?_)
  refine wpAny_bind (wpAny_pure ?_)
  refine wpAny_bind (kind.at (wpAny_bind (look.at ?_)))
  show wpAny _ _ (holding [Value.builtin "object.__class__"] (call (.builtin "getset_descriptor.__get__") [.builtin "object.__class__", .ref x, .ref D]) >>= ret) _ _ _
  refine wpAny_bind (wpAny_holding (wpAny_call (class_get (s := ⟨hp, gs, dr, tk + 1, os⟩) (ox := ox) (od := od) X I T.hm ?_)))
  refine wpAny_pure ?_
  show wpAny _ _ (handedOut (.ref D)) _ _ _
  rw [handedOut_of (v := .ref D) rfl]
  first
    | exact wpAny_pure (wpAny_pure q)
    | exact wpAny_pure q
    | exact wpAny_pure (wpAny_bind (wpAny_pure (wpAny_pure q)))
theorem csx_kit (T : CsxC K D) : KitX K (.ref x) (.ref D) (fun h => InstAt h x ox D od) := by
  obtain ⟨cd, hc, _⟩ := any_some T.hd
  obtain ⟨c, d, sl, ho⟩ : ∃ c d sl, K.lookup D = some ⟨c, d, .cls cd, sl⟩ := by
    unfold clsIn at hc
    split at hc
    · cases hc
      exact ⟨_, _, _, by assumption⟩
    · cases hc
  refine ⟨fun _ _ _ I => I.type, fun M h X _ => ?_, fun h tp dd its n sl X htp => ?_, fun X I q => csx_class T X I q⟩
  · intro A Q E s k q
    unfold isType loadHead
    refine wpAny_bind (wpAny_loadPart (k _ _ (X _ _ ho)) ?_)
    exact wpAny_pure q
  · cases z : (Value.ref D == Value.ref tp) with
    | false => rfl
    | true =>
      have e : D = tp := Value.ref.inj (beq_iff_eq.mp z)
      rw [← e] at htp
      have y := (X _ _ ho).symm.trans htp
      cases y
end
end PySem.W
namespace CS
open PySem PySem.Spec PyProof.Rows L2
/-- its dict, where it has one -/
def XD (H : Hp) (d : Option Addr) : Prop := d = none ∨ ∃ dd fs, d = some dd ∧ H dd = some (.xd fs)
theorem xo_inst {X : Cx} {pins : List (Addr × Obj)} {σ : L2.St} {H : Hp} {s : Shared} {a C : Addr} {d : Option Addr} (I : Inv X pins σ H s) (e : H a = some (XO (.ref C) d a)) (ed : XD H d) : ∃ oe od, PySem.W.InstAt s.heap a oe C od := by
  obtain ⟨oe, ws, ho, hz, hw⟩ := xo_take I.hok e
  have nc : PySem.W.notCls oe := by
    unfold PySem.W.notCls
    rw [hw] <;> trivial
  rcases ed with rfl | ⟨dd, fs, rfl, ed⟩
  · exact ⟨oe, none, ho, hz.1, nc, by rw [hz.2]; trivial⟩
  · have x : ObjOk X.prog X.w H s.heap dd (.xd fs) := I.hok dd _ ed
    obtain ⟨mA, hn, _⟩ := x
    obtain ⟨od, hd, _⟩ := lookIn_ns hn
    exact ⟨oe, some od, ho, hz.1, nc, by rw [hz.2]; exact hd⟩
/-- isinstance(e, c), e a tracked error -/
def rIsX (K : PySem.W.Frag) : List V → Hp → VK → Prop := fun xs H Q => ∃ (a C : Addr) (d : Option Addr) (c : V) (cv : Value) (b : Bool), xs = [.ref a, c] ∧ H a = some (XO (.ref C) d a) ∧ XD H d ∧ PySem.W.CsxC K C ∧ (∀ u, RelV c u → u = cv) ∧ PySem.W.kitOne K (.ref C) cv = some b ∧ Q (.bl b) H
theorem call_isX {X : Cx} : CallR X (.builtin "isinstance") (rIsX X.K) := by
  intro pins s σ H xs us Q I r h
  obtain ⟨a, C, d, c, cv, b, rfl, ea, ed, T, hcv, e, q⟩ := h
  cases r with
  | cons r1 rr =>
    cases rr with
    | cons r2 rr =>
      cases rr
      cases r1
      have ec := hcv _ r2
      subst ec
      obtain ⟨oe, od, J⟩ := xo_inst I ea ed
      exact PySem.W.kia_one (PySem.W.csx_kit T) I.kIn J e (fun z => nomatch z) fun tk => ⟨.bl b, H, I.kept (t' := tk) fun _ _ z => z, rfl, q⟩
/-- e.f, e a tracked error -/
def tXoF (K : PySem.W.Frag) (f : Str) (te : TE) : TE := fun σ H Q => te σ H fun x H1 => ∃ (a C dd : Addr) (fs : List (Str × V)) (v : V), x = .ref a ∧ H1 a = some (XO (.ref C) (some dd) a) ∧ H1 dd = some (.xd fs) ∧ XfC K C ∧ PySem.W.findIn K (.ref C) f = some none ∧ fs.lookup f = some v ∧ Q v H1
theorem pe_xof {X : Cx} {e : Expr} {te : TE} {pos : Pos} {f : Str} (he : PE X e te) (hb : attributeBase e f X.env (eval e X.env) = eval e X.env := by rfl) : PE X (.Attribute e f pos) (tXoF X.K f te) := by
  constructor
  intro pins s σ H Q I h
  refine attr_of hb (thn (he.run pins s σ H _ I h) fun u t r => ?_)
  obtain ⟨x, H1, J, rx, a, C, dd, fs, v, rfl, ea, ed, T, no, lk, q⟩ := r
  cases rx
  obtain ⟨oe, ws, ho, hz, hw⟩ := xo_take J.hok ea
  have x : ObjOk X.prog X.w H1 t.heap dd (.xd fs) := J.hok dd _ ed
  obtain ⟨mA, hn, hr⟩ := x
  obtain ⟨od, hd, look⟩ := lookIn_ns hn
  obtain ⟨y, hy, ry⟩ := RelO.some_of (v := v) (o := mA f) (by rw [← lk]; exact hr f)
  have at_ : PySem.W.InstAt t.heap a oe C (some od) := ⟨ho, hz.1, by unfold PySem.W.notCls; rw [hw] <;> trivial, by rw [hz.2]; exact hd⟩
  exact HandSPX.exc_get J.kIn at_ T.ga T.gg T.exC (PySem.W.findObj_own T.hdC no rfl (by rw [look, hy])) (handed_of ry) ⟨v, H1, J.tok _, ry, q⟩
end CS
/-! except (A, B, ..) as n: an error that is used behind the clause -/
namespace CS
open PySem PySem.Spec PyProof.Rows L2
theorem flyZ_keeps {B : Heap} {l : List Env} {e : Addr} {Z : Obj → Prop} {h h' : Heap} (x : HandSPX.FlyingZ B l e Z h) (k : ∀ b o, h.get? b = some o → h'.get? b = some o) : HandSPX.FlyingZ B l e Z h' := by
  obtain ⟨f1, f2, f3, oe, vs, T, oT, ts, he, hz, hd, h1, hn, hne, hT, hdT, h3⟩ := x
  exact ⟨fun b o q => k b o (f1 b o q), f2, f3.of_keeps fun b o q _ => ⟨o, k b o q, rfl⟩, oe, vs, T, oT, ts, k _ _ he, hz, hd, h1, hn, hne, k _ _ hT, hdT, h3⟩
/-- how the classes of a clause are asked -/
def Tst (X : Cx) (te : Expr) (cs : List Value) : Prop := ∀ (a : Addr) (pn : List (Addr × Obj)) (σ : L2.St) (H : Hp) (t : Shared) (cls : Value) (y : Bool) (Q : Bool → Shared → Prop) (E : Value → Shared → Prop), Inv (X.suite a pn) [] σ H t → PySem.W.Looks (model X.prog X.w) t.heap (typeOf (.ref a)) cls → PySem.W.exmAny X.K cls cs = some y →
  (∀ h', (∀ b o, t.heap.get? b = some o → h'.get? b = some o) → Q y { t with heap := h' }) → wpAny (model X.prog X.w) (X.A.mark (some (.ref a))) (eval te X.env) (fun c s1 => wpAny (model X.prog X.w) (X.A.mark (some (.ref a))) (excMatches (.ref a) c) Q E s1) E t
theorem nameV {X : Cx} {x : Str} {c : Value} {np : Pos} {a : Addr} {pn : List (Addr × Obj)} {σ : L2.St} {H : Hp} {t : Shared} {Q : Value → Shared → Prop} {E : Value → Shared → Prop} (hc : Names X x c) (I : Inv (X.suite a pn) [] σ H t) (q : Q c t) : wpAny (model X.prog X.w) (X.A.mark (some (.ref a))) (eval (.Name x np) X.env) Q E t := by
  obtain ⟨hg, hdb, hm | ⟨hm, hv, hnn⟩⟩ := hc
  · exact ld_glob (X := X.suite a pn) I hg hm q hdb
  · exact ld_blt (X := X.suite a pn) I hg hm hv q hnn hdb
theorem tst4 {X : Cx} {x1 x2 x3 x4 : Str} {c1 c2 c3 c4 : Value} {p1 p2 p3 p4 tp : Pos} {kk} (n1 : Names X x1 c1) (n2 : Names X x2 c2) (n3 : Names X x3 c3) (n4 : Names X x4 c4) : Tst X (.Tuple [.Name x1 p1, .Name x2 p2, .Name x3 p3, .Name x4 p4] kk tp) [c1, c2, c3, c4] := by
  intro a pn σ H t cls y Q E I L e q
  have up : ∀ b o, t.heap.get? b = some o → (t.heap.push { cls := .type "tuple", data := .seq [c1, c2, c3, c4].toArray }).get? b = some o := fun _ _ z => Heap.get?_push_of_some _ z
  exact wpAny_Tuple (wpAny_items_cons (nameV n1 I (wpAny_items_cons (nameV n2 I (wpAny_items_cons (nameV n3 I (wpAny_items_cons (nameV n4 I (wpAny_items_nil ⟨by size_fits, (PySem.W.exm_tup4 (I.kIn.keeps up) (L.keeps up) (Heap.get?_push_size t.heap rfl) e).here (q _ up)⟩)))))))))
theorem tst1 {X : Cx} {x1 : Str} {c1 : Value} {p1 : Pos} (n1 : Names X x1 c1) : Tst X (.Name x1 p1) [c1] := by
  intro a pn σ H t cls y Q E I L e q
  obtain ⟨b1, d1, e1, e2, rfl⟩ := PySem.W.exmAny_cons e
  cases (show some false = some d1 from e2)
  rw [Bool.or_false] at q
  exact nameV n1 I ((PySem.W.exm_one I.kIn L e1).here (q t.heap fun _ _ z => z))
theorem tst2 {X : Cx} {x1 x2 : Str} {c1 c2 : Value} {p1 p2 tp : Pos} {kk} (n1 : Names X x1 c1) (n2 : Names X x2 c2) : Tst X (.Tuple [.Name x1 p1, .Name x2 p2] kk tp) [c1, c2] := by
  intro a pn σ H t cls y Q E I L e q
  have up : ∀ b o, t.heap.get? b = some o → (t.heap.push { cls := .type "tuple", data := .seq [c1, c2].toArray }).get? b = some o := fun _ _ z => Heap.get?_push_of_some _ z
  exact wpAny_Tuple (wpAny_items_cons (nameV n1 I (wpAny_items_cons (nameV n2 I (wpAny_items_nil ⟨by size_fits, (PySem.W.exm_tup2 (I.kIn.keeps up) (L.keeps up) (Heap.get?_push_size t.heap rfl) e).here (q _ up)⟩)))))
/-- what 'except (..) as n' wishes of an error of the body, which the suite then holds -/
def wHoldT (K : PySem.W.Frag) (cs : List Value) (i : Nat) (ts : TS) (Wout : WX) (D : Ends) : WX := fun cls d σ H => ∃ y, PySem.W.exmAny K cls cs = some y ∧
  (y = true → ∀ a, H a = none → ts { nx := fun σ1 H1 => D.nx (σ1.set i none) H1, rt := D.rt, bk := fun σ1 H1 => D.bk (σ1.set i none) H1, ct := fun σ1 H1 => D.ct (σ1.set i none) H1 } (σ.set i (some (.ref a))) (upd H a (XO cls d a))) ∧ (y = false → Wout cls d σ H)
theorem ps_try_test {X : Cx} {n : Str} {te : Expr} {cs : List Value} {i : Nat} {body suite : List Stmt} {b1 : Stmt} {pos pos' : Pos} {tb : WX → TS} {ts : TS} {Wout : WX} (hs : X.stack = X.env :: X.outer) (hf : X.env.frame = some X.env.locals) (hex : X.ex = []) (hN : X.N.Nodup) (hi : X.N[i]? = some n)
    (hln : X.env.kindOf n = some .local) (hc : Tst X te cs) (tk : Takes X Wout)
    (hb : ∀ (W : WX) (pn : List (Addr × Obj)) (xe : Value → Shared → Prop), Takes (X.tr pn xe) W → PassesOwn (model X.prog X.w) X.A X.env xe → PSs (X.tr pn xe) body (tb W))
    (hsu : ∀ (a : Addr) (pn : List (Addr × Obj)), PSs (X.suite a pn) (b1 :: suite) ts) :
    PS X (.Try body [.ExceptHandler (some te) (some n) (b1 :: suite) pos'] [] [] pos) (fun D σ H => tb (wHoldT X.K cs i ts Wout D) D σ H) := by
  constructor
  intro pins s σ H D I h
  have okX := I.ok
  have frX : X.A.frames = some (X.env :: X.outer) := okX.frames.trans (by rw [hs])
  refine wpAny_Try_except (wpAny_mono ((hb (wHoldT X.K cs i ts Wout D) (X.pn ++ pins) (fun e t1 => wpAny (model X.prog X.w) X.A (noteFrame e X.env) (fun _ t2 => wpAny (model X.prog X.w) X.A (setFlight e none) (fun _ t3 =>
    wpAny (model X.prog X.w) X.A (handleBy e X.env [.ExceptHandler (some te) (some n) (b1 :: suite) pos']) (SP X pins D) X.xe t3) X.xe t2) X.xe t1) (fun u t thrown => ?_) PassesOwn.looking).run [] s σ H D (I.toTry _) h) (fun f t ended => ?_) fun _ _ z => z)
  · obtain ⟨a, B, sI, pI, σI, HI, cls, d, rfl, inI, nb, up, sky, na, os, ag, y, hy, yes, no⟩ := thrown
    have J := inI.ofTry okX
    show wpAny (model X.prog X.w) X.A (noteFrame (.ref a) X.env) _ _ _
    refine Sky.land Zc.steady frX hf (B := B) (Z := Zc cls d) (by rw [← hs]; exact sky) fun h3 fl up3 => ?_
    have J3 : Inv X pins σI HI { t with heap := h3 } := J.landed nb fl.1 (up.trans up3) os ag
    obtain ⟨ob, vs, gob, zob, dob⟩ := fl.there
    have nfs : a ∉ frs (X.env :: X.outer) := fun hm => by
      obtain ⟨_, o2, g2, notF⟩ := fl.2.2.1.mem hm
      rw [gob] at g2
      cases g2
      exact notF _ dob
    have nl : a ≠ X.env.locals := fun z => nfs (List.mem_filterMap.mpr ⟨X.env, List.mem_cons_self, by rw [hf, z]⟩)
    have nf : a ∉ X.fs := fun hm => by
      obtain ⟨e, he, q⟩ := List.mem_filterMap.mp hm
      exact nfs (List.mem_filterMap.mpr ⟨e, List.mem_cons_of_mem _ he, q⟩)
    have nI : sI.heap.get? a = none := by
      cases q : sI.heap.get? a with
      | none => rfl
      | some o =>
        have z := nb a o q (by rw [hs]; exact nfs)
        rw [fl.2.1] at z
        cases z
    have n0 : X.s_0.heap.get? a = none := by
      cases q : X.s_0.heap.get? a with
      | none => rfl
      | some o =>
        obtain ⟨o2, z⟩ := J.base.there a o q (by rw [hex]; exact fun z => nomatch z)
        rw [nI] at z
        cases z
    have np' : ∀ p ∈ X.pn ++ pins, p.1 ≠ a := fun p hp z => by
      have q := (J.pin p hp).1
      rw [z, nI] at q
      cases q
    have S3 := J3.suite gob dob na nl nf
    refine wpAny_handleBy_cons (codeAny_handlers_test ?_) (by intro q; cases q)
    have asks : PySem.W.Looks (model X.prog X.w) h3 (typeOf (.ref a)) cls := fun _ _ _ _ k q => wpAny_typeOf_ref (k _ _ gob) (by rw [zob.1]; exact q)
    refine hc a ((a, ob) :: (X.pn ++ pins)) σI HI _ cls y _ _ S3 asks hy fun h5 k5 => ?_
    have fl5 := flyZ_keeps fl k5
    have up5 := up3.trans (Heap.UpToSlots.of_keeps k5)
    have J5 : Inv X pins σI HI { t with heap := h5 } := J.landed nb fl5.1 (up.trans up5) os ag
    cases y with
    | true =>
      refine codeAny_handlers_suite_as (HandSPX.lands_againZ fl5 fun h4 fl4 up4 => ?_)
      have J4 : Inv X pins σI HI { t with heap := h4 } := J.landed nb fl4.1 ((up.trans up5).trans up4) os ag
      obtain ⟨ob4, vs4, gob4, zob4, dob4⟩ := fl4.there
      have T4 := again (a := a) (track J4 gob4 na nl nf zob4 dob4 n0 np')
      refine store_ok (X := X.suite a (X.pn ++ pins)) (v := .ref a) T4 hN hi (.inl hln) rfl (fun t5 T5 => ?_) (.inr hln)
      refine wpAny_mono ((hsu a (X.pn ++ pins)).run [] t5 _ _ _ T5 (yes rfl a na)) (fun f t6 r => ?_) fun _ _ z => z.elim
      have out : ∀ {σ6 : L2.St} {H6 : Hp} {Q : Shared → Prop}, Inv (X.suite a (X.pn ++ pins)) [] σ6 H6 t6 → (∀ t7, Inv X pins (σ6.set i none) H6 t7 → Q t7) → wpAny (model X.prog X.w) X.A (do bindName X.env n .none; unbindBehindTheSuite X.env n pos') (fun _ t7 => Q t7) X.xe t6 :=
        fun {σ6 H6 Q} z hq => gone_ok (behind z okX) hN hi hln hq
      cases f with
      | next =>
        obtain ⟨σ6, H6, z, q⟩ := r
        exact out z fun _ w7 => ⟨_, _, w7, q⟩
      | brk =>
        obtain ⟨σ6, H6, z, q⟩ := r
        exact out z fun _ w7 => ⟨_, _, w7, q⟩
      | cont =>
        obtain ⟨σ6, H6, z, q⟩ := r
        exact out z fun _ w7 => ⟨_, _, w7, q⟩
      | ret u =>
        obtain ⟨v6, σ6, H6, z, rv, q⟩ := r
        exact out z fun _ w7 => ⟨_, _, _, w7, rv, q⟩
    | false =>
      show wpAny _ X.A (handleBy (.ref a) X.env []) _ _ _
      refine wpAny_handleBy_nil ?_
      obtain ⟨_, _, _, ob5, vs5, T, oT, rest, g5, z5, d5, one5, _⟩ := id fl5
      unfold PySem.passOn
      refine wpAny_bind (wpAny_field g5 d5 one5 ?_)
      rw [if_neg (by simp)]
      have go : wpAny (model X.prog X.w) X.A (setFlight (.ref a) X.env.frame) (fun _ t4 => wpAny (model X.prog X.w) X.A (throw (.ref a) : Sem Flow) (SP X pins D) X.xe t4) X.xe { t with heap := h5 } := by
        rw [hf]
        refine HandSPX.setFlight_upZ fl5 fun h4 held up4 => wpAny_throw (tk _ _ ⟨a, B, sI, pins, σI, HI, cls, d, rfl, J, nb, (up.trans up5).trans up4, .inr (.inr ?_), na, os, ag, no rfl⟩)
        rw [hs]
        exact held
      first
        | exact wpAny_bind (wpAny_pure (wpAny_bind go))
        | exact wpAny_bind go
  · cases f with
    | next =>
      obtain ⟨σ1, H1, z, q⟩ := ended
      exact wpAny_execs_nil ⟨σ1, H1, z.ofTry okX, q⟩
    | brk =>
      obtain ⟨σ1, H1, z, q⟩ := ended
      exact ⟨σ1, H1, z.ofTry okX, q⟩
    | cont =>
      obtain ⟨σ1, H1, z, q⟩ := ended
      exact ⟨σ1, H1, z.ofTry okX, q⟩
    | ret u =>
      obtain ⟨v, σ1, H1, z, rv, q⟩ := ended
      exact ⟨v, σ1, H1, z.ofTry okX, rv, q⟩
end CS
set_option maxHeartbeats 4000000
/-! an own error class called by keywords alone -/
namespace PySem
namespace CSE
open PySem.W PySem.Calls PyProof.Rows PySem.HandSPX
section
variable {prog : Program} {w : World} {A : Around} {E : Value → Shared → Prop} {R : Result → Shared → Prop} {h : Heap} {g : Array GenState} {d : Drawn} {t : Nat} {os : OsState}
variable {nm q : Str} {C N : Addr} {bs bm : List Value} {hdct : Bool} {sn : List Str} {sub : List Value} {ab : Bool} {col : Option Bool} {dd : Option Addr} {k0 k1 k2 k3 k5 : Option Value} {B newId initId : String}
theorem kw_check {M : Model} (F : ExcBaseFacts B newId initId bm) {kw : List (Str × Value)} {Q : Unit → Shared → Prop} (hC : h.get? C = some (excClassObj nm q C N bs bm hdct sn sub ab col dd k0 k1 k2 k3 k5 newId)) (fin : Q () ⟨h, g, d, t, os⟩) :
    wpAny M A (checkBuiltinCall newId ⟨[.ref C], kw⟩) Q E ⟨h, g, d, t, os⟩ := by
  have inB : (Value.ref C :: bm).contains (.type B) = true := by
    rw [List.contains_cons, F.hasB, Bool.or_true]
  have noStar := F.noStar
  simp only [checkBuiltinCall, F.newKind, F.newSplit, F.newRow]
  repeat (first | wp_step | refine wpAny_loadPart_at hC ?_ | (refine wpAny_isSubtype_exc hC ?_; rw [inB]) | refine wpAny_madeBy_exc hC ?_ | refine wpAny_staticBase_exc hC ?_ | simp only [Bool.false_eq_true, bne_self_eq_false, if_false])
  exact fin
theorem kw_new (F : ExcBaseFacts B newId initId bm) {kw : List (Str × Value)} (hC : h.get? C = some (excClassObj nm q C N bs bm hdct sn sub ab col dd k0 k1 k2 k3 k5 newId))
    (fin : R (.ok (.ret (.ref (h.objs.size + 1)))) ⟨(h.push (W.kdv_tup [])).push (excO C h.objs.size), g, d, t, os⟩) : codeAny (model prog w) A (.builtin newId ⟨[.ref C], kw⟩) R ⟨h, g, d, t, os⟩ := by
  have ends := F.ends
  have inB : (Value.ref C :: bm).contains (.type B) = true := by
    rw [List.contains_cons, F.hasB, Bool.or_true]
  have notA : (Value.ref C :: bm).contains (.type "AttributeError") = false := by
    rw [List.contains_cons, F.noAttr]
    rfl
  have notN : (Value.ref C :: bm).contains (.type "NameError") = false := by
    rw [List.contains_cons, F.noName]
    rfl
  have few : ([] : List Value).length ≤ sizeLine := Nat.zero_le _
  refine codeAny_builtinAt F.entry ?_
  unfold Builtin.«BaseException.__new__»
  refine wpAt_bind ?_
  show wpAt _ _ _ (stack >>= _) _ _ _
  refine wpAt_bind (wpAt_stack fun p below => wpAt_of_wpAny ?_)
  wp_walk
  refine wpAt_of_wpAny ?_
  rw [F.owner]
  repeat (first | with_reducible refine wpAny_loadPart_at hC ?_ | with_reducible refine wpAny_madeHere_exc F.canon hC ?_ | (with_reducible refine wpAny_isSubtype_exc hC ?_; first | rw [notA] | rw [notN] | rw [inB]) | wp_step)
  show R _ _
  rw [Heap.size_push]
  exact fin
theorem kw_type (F : ExcBaseFacts B newId initId bm) {kw : List (Str × Value)} {fI : Addr} {Q : Fin → Shared → Prop} (hC : h.get? C = some (excClassObj nm q C N bs bm hdct sn sub ab col dd k0 k1 k2 k3 k5 newId))
    (look : W.Looks (model prog w) h (typeLookup (.ref C) "__init__") (some (.ref fI))) (binds : ∀ self, W.Looks (model prog w) h (bindSpecial (.ref fI) self) (.ref fI, [self]))
    (run : codeAny (model prog w) A (.call (.ref fI) ⟨[.ref (h.objs.size + 1)], kw⟩) (fun r s' => match r with | .ok (.ret v) => v = .none ∧ Q (.done (.ret (.ref (h.objs.size + 1)))) s' | .ok _ => False | .error e => E e s')
      ⟨(h.push (W.kdv_tup [])).push (excO C h.objs.size), g, d, t, os⟩) : wpAny (model prog w) A (Builtin.«type.__call__» ⟨[.ref C], kw⟩) Q E ⟨h, g, d, t, os⟩ := by
  repeat (first | with_reducible refine wpAny_madeBy_exc hC ?_ | with_reducible refine wpAny_loadPart_at hC ?_ | wp_step)
  refine codeAny_call_builtin_code (Code.quiet_builtin _ F.quiet) (kw_check F hC (kw_new F hC ?_))
  show wpAny _ _ _ _ _ _
  have more : ∀ b o, h.get? b = some o → ((h.push (W.kdv_tup [])).push (excO C h.objs.size)).get? b = some o := fun b o e => Heap.get?_push_of_some _ (Heap.get?_push_of_some _ e)
  have hC2 := more _ _ hC
  have made : ((h.push (W.kdv_tup [])).push (excO C h.objs.size)).get? (h.objs.size + 1) = some (excO C h.objs.size) := by heap_get
  have own : (Value.ref C :: bm).contains (.ref C) = true := by simp
  have look2 := look.keeps more
  have binds2 := (binds (.ref (h.objs.size + 1))).keeps more
  unfold isInstance
  repeat (first | with_reducible refine wpAny_loadPart_at made ?_ | (with_reducible refine wpAny_isSubtype_exc hC2 ?_; rw [own]) | wp_step)
  show wpAny _ _ (typeLookup (.ref C) _) _ _ _
  refine look2.at (wpAny_holding (wpAny_bind (binds2.at ?_)))
  refine wpAny_bind (wpAny_call (codeAny_mono run fun r s' z => ?_))
  rcases r with e | (v | _ | _ | _) <;> first | exact z | exact z.elim | skip
  obtain ⟨rfl, z⟩ := z
  first
    | exact wpAny_pure (wpAny_pure z)
    | (wp_walk; exact z)
theorem kw_call (F : ExcBaseFacts B newId initId bm) {kw : List (Str × Value)} {fI : Addr} (hC : h.get? C = some (excClassObj nm q C N bs bm hdct sn sub ab col dd k0 k1 k2 k3 k5 newId))
    (look : W.Looks (model prog w) h (typeLookup (.ref C) "__init__") (some (.ref fI))) (binds : ∀ self, W.Looks (model prog w) h (bindSpecial (.ref fI) self) (.ref fI, [self]))
    (run : codeAny (model prog w) (A.under (.builtin "type.__call__" ⟨[.ref C], kw⟩)) (.call (.ref fI) ⟨[.ref (h.objs.size + 1)], kw⟩) (W.InitBack (h.objs.size + 1) R) ⟨(h.push (W.kdv_tup [])).push (excO C h.objs.size), g, d, t, os⟩) :
    codeAny (model prog w) A (.call (.ref C) ⟨[], kw⟩) R ⟨h, g, d, t, os⟩ := by
  have f1 := tc_lookup
  have f2 := tc_bind (.ref C)
  have isType : (⟨h, g, d, t, os⟩ : Shared).TypeIs (.ref C) "type" := ⟨_, hC, rfl⟩
  refine codeAny_of_tree ?_
  show wpAny _ _ (callAny (.ref C) _) _ _ _
  repeat (any_goals (first | with_reducible refine wpAny_loadPart_at hC ?_ | assumption | wp_step))
  refine ⟨rfl, ?_⟩
  refine codeAny_call_builtin_at (Code.quiet_builtin _ (by decide +kernel)) entry_typeCall (wpAny_check_type_call_sub hC (kw_type F hC look binds ?_))
  refine codeAny_mono run fun r s' z => ?_
  rcases r with e | (v | _ | _ | _) <;> exact z
end
end CSE
end PySem
set_option maxHeartbeats 4000000
/-! own errors whose __init__ stores fields, as values; over ValueError or LookupError -/
namespace PySem
namespace CSE
open PySem.W PySem.Calls PyProof.Rows PySem.HandSPX
section
open Builtin Builtin.ObjectAttr
variable {prog : Program} {w : World} {A : Around} {E : Value → Shared → Prop} {R : Result → Shared → Prop} {hp : Heap} {g : Array GenState} {d : Drawn} {t : Nat} {os : OsState} {K : W.Frag} {B : String} {bm : List Value}
theorem taker_none {C : Addr} {nm : Str} (h : W.findIn K (.ref C) nm = some none) : W.takerIn K C nm = some none := by
  unfold W.takerIn
  rw [h]
  rfl
theorem first_store {nm : Str} {tk : Tok} {v : Value} {x C : Addr} {fv : Array Value} (SF : StoreFacts B bm "object.__setattr__" "object") (X : K.In hp) (hx : hp.get? x = some { cls := .ref C, data := .fields fv }) (over : W.excOver K C bm = true) (hh : W.hasDictIn K C = true) (no : W.findIn K (.ref C) nm = some none)
    (fin : ∀ h' tk' dx, (∀ b o, b ≠ x → hp.get? b = some o → h'.get? b = some o) → hp.objs.size ≤ dx → dx ≠ x → h'.get? x = some { cls := .ref C, dict := some dx, data := .fields fv } → h'.Ns1 dx (fun y => if y = nm then some v else none) → R (.ok (.ret .none)) ⟨h', g, d, tk', os⟩) :
    codeAny (model prog w) A (.call (.builtin "object.__setattr__") ⟨[.ref x, .str nm tk, v], []⟩) R ⟨hp, g, d, t, os⟩ := by
  have inst : W.InstAt hp x { cls := .ref C, data := .fields fv } C none := ⟨hx, rfl, rfl, trivial⟩
  refine W.osa_openX (s := ⟨hp, g, d, t, os⟩) SF X inst over (taker_none no) fun b => ?_
  obtain ⟨cd, hc, hd⟩ := any_some hh
  have known : W.Looks (model prog w) hp (classData C) cd := W.looks_clsIn X hc
  have far : x ≠ hp.objs.size := Nat.ne_of_lt (Heap.lt_size hx)
  show wpAny _ _ (storeInOwnDict (.ref x) (.ref C) (.str nm tk) nm v b) _ _ _
  obtain ⟨n1, n2, n3, n4, n5, has, n6, n7, n8, n9, n0⟩ := cd
  dsimp only at hd
  subst hd
  unfold storeInOwnDict ownDictForStores
  repeat (first | with_reducible refine HandSPX.store_in_new ?_ ?_ | with_reducible refine known.at ?_ | with_reducible refine wpAny_loadPart_at hx ?_ | wp_step)
  · exact ⟨_, #[], _, (Heap.get?_update_ne _ _ _ _ far.symm).trans (Heap.get?_push_at rfl rfl), rfl, fun e he => absurd he (by simp), fun _ => rfl⟩
  · intro h' tk' named same
    have here : (hp.push { cls := .type "dict", data := .dict #[] }).get? x = some { cls := .ref C, data := .fields fv } := Heap.get?_push_of_some _ hx
    refine fin h' tk' hp.objs.size (fun b o hb ho => ?_) (Nat.le_refl _) far.symm ((same.2 x far).trans (Heap.get?_update_self _ here rfl)) named
    have old : b ≠ hp.objs.size := Nat.ne_of_lt (Heap.lt_size ho)
    exact (same.2 b old).trans ((Heap.get?_update_ne _ _ _ _ hb).trans (Heap.get?_push_of_some _ ho))
theorem next_store {nm : Str} {tk : Tok} {v : Value} {x C dx : Addr} {fv : Array Value} {m0 : Str → Option Value} {nl : List Str} (SF : StoreFacts B bm "object.__setattr__" "object") (X : K.In hp) (hx : hp.get? x = some { cls := .ref C, dict := some dx, data := .fields fv }) (hn : hp.Ns1 dx m0) (hw : Within m0 nl) (hz : nl.length ≤ 1000)
    (over : W.excOver K C bm = true) (hh : W.hasDictIn K C = true) (no : W.findIn K (.ref C) nm = some none) (fin : ∀ h' tk', (∀ b o, b ≠ dx → hp.get? b = some o → h'.get? b = some o) → h'.Ns1 dx (fun y => if y = nm then some v else m0 y) → R (.ok (.ret .none)) ⟨h', g, d, tk', os⟩) :
    codeAny (model prog w) A (.call (.builtin "object.__setattr__") ⟨[.ref x, .str nm tk, v], []⟩) R ⟨hp, g, d, t, os⟩ := by
  obtain ⟨oD, _, _, hoD, _, _⟩ := hn.count hw
  have inst : W.InstAt hp x { cls := .ref C, dict := some dx, data := .fields fv } C (some oD) := ⟨hx, rfl, rfl, hoD⟩
  refine W.osa_openX (s := ⟨hp, g, d, t, os⟩) SF X inst over (taker_none no) fun b => ?_
  obtain ⟨cd, hc, hd⟩ := any_some hh
  have known : W.Looks (model prog w) hp (classData C) cd := W.looks_clsIn X hc
  show wpAny _ _ (storeInOwnDict (.ref x) (.ref C) (.str nm tk) nm v b) _ _ _
  obtain ⟨n1, n2, n3, n4, n5, has, n6, n7, n8, n9, n0⟩ := cd
  dsimp only at hd
  subst hd
  unfold storeInOwnDict ownDictForStores
  repeat (first | with_reducible refine PySem.OEX.store_in_old hn hw hz ?_ | with_reducible refine known.at ?_ | with_reducible refine wpAny_loadPart_at hx ?_ | wp_step)
  intro h' tk' named same
  exact fin h' tk' (fun b o hb ho => (same.2 b hb).trans ho) named
end
end CSE
end PySem
namespace CS
open PySem PySem.Spec PyProof.Rows L2
/-- what the written part says of an own error class whose __init__ stores fields -/
structure OxC (K : PySem.W.Frag) (C fI : Addr) : Prop where
  base : ∃ (B newId initId : String) (bm : List Value), ExcBaseFacts B newId initId bm ∧ StoreFacts B bm "object.__setattr__" "object" ∧ PySem.W.excOver K C bm = true ∧ ∃ nm q N bs sn sub ab col dd k0 k1 k2 k3 k5, K.lookup C = some (excClassObj nm q C N bs bm true sn sub ab col dd k0 k1 k2 k3 k5 newId)
  sa : PySem.W.findIn K (.ref C) "__setattr__" = some (some (.builtin "object.__setattr__"))
  hd : PySem.W.hasDictIn K C = true
  kC : PySem.W.keepIn K (.ref C) = true
  iC : PySem.W.findIn K (.ref C) "__init__" = some (some (.ref fI))
  tI : PySem.W.typeIn K (.ref fI) = some (.type "function")
section
variable {X : Cx} {pins : List (Addr × Obj)} {σ : L2.St} {H : Hp} {s : Shared} {a C fI dx : Addr} {f : Str} {y : V} {u : Value} {fs : List (Str × V)} {Q : Unit → Shared → Prop} {E : Value → Shared → Prop} {A : Around}
theorem ox_new (T : OxC X.K C fI) (I : Inv X pins σ H s) (e : H a = some (exo a C none)) (no : PySem.W.findIn X.K (.ref C) f = some none) (ry : RelV y u)
    (k : ∀ dx s', H dx = none → dx ≠ a → Inv X pins σ (upd (upd H dx (exd dx [(f, y)])) a (exo a C (some dx))) s' → Q () s') : wpAny (model X.prog X.w) A (setAttr (.ref a) f u) Q E s := by
  obtain ⟨B, newId, initId, bm, _, SF, over, _⟩ := T.base
  obtain ⟨t1, ho⟩ := exo_at I.hok e
  obtain ⟨hp, g, d, t, os⟩ := s
  refine PySem.W.set_plain I.kIn (ox := { cls := .ref C, dict := none, data := .fields #[.ref t1, .none, .none, .none, .bool false, .none] }) (od := none) ⟨ho, rfl, rfl, trivial⟩ T.sa ?_
  refine PySem.CSE.first_store SF I.kIn ho over T.hd no fun h' tk' dx keep beyond apart hx named => ?_
  have fresh : H dx = none := I.hok.fresh beyond
  have older : ∀ {b : Addr} {o : Obj}, hp.get? b = some o → b ≠ dx := fun {b o} z => Nat.ne_of_lt (Nat.lt_of_lt_of_le (Heap.lt_size z) beyond)
  have notA : ∀ {b : Addr}, H b = none → b ≠ a := fun {b} n z => by
    rw [z, e] at n
    cases n
  refine k dx _ fresh apart (I.un (t' := tk') ⟨fun b o z n _ _ => keep b o (notA n) z, fun b o z n _ _ => ⟨o.slots, keep b o (notA n) z⟩, fun b o z n _ => ?_, fun b o z _ => ?_, fun b xs z => ?_, fun b o v z => ?_, fun b ps z => ⟨#[], ?_⟩⟩ fun b o z => ?_)
  · rw [upd_ne (notA n), upd_ne (older z)]
    exact n
  · by_cases c : b = a
    · rw [c]
      exact ⟨_, hx⟩
    · exact ⟨o, keep b o c z⟩
  · rw [upd_ne (at_ne e z exo_tup), upd_ne (ne_of_none z fresh)]
    exact z
  · rw [upd_ne (at_ne e z exo_frz), upd_ne (ne_of_none z fresh)]
    exact z
  · rw [upd_ne (at_ne e z exo_tbl), upd_ne (ne_of_none z fresh), z]
    simp
  · by_cases c : b = a
    · subst c
      rw [upd_same] at z
      cases z
      exact exo_ok hx
    · rw [upd_ne c] at z
      by_cases c2 : b = dx
      · subst c2
        rw [upd_same] at z
        cases z
        exact exd_ok named (relO_put (fs := []) ry fun _ => True.intro)
      · rw [upd_ne c2] at z
        refine (I.hok b o z).stay (fun c3 v hc r => keep c3 v ?_ r) (fun c3 hc => ?_) fun c3 xs hc => ?_
        · rcases hc with hc | hc
          · rw [hc]
            exact c
          · exact at_ne e hc exo_own
        · rw [upd_ne (at_ne e hc exo_own), upd_ne (ne_of_none hc fresh)]
          exact hc
        · rw [upd_ne (at_ne e hc exo_tup), upd_ne (ne_of_none hc fresh)]
          exact hc
theorem ox_old (T : OxC X.K C fI) (I : Inv X pins σ H s) (e : H a = some (exo a C (some dx))) (ed : H dx = some (exd dx fs)) (hl : fs.length ≤ 900) (no : PySem.W.findIn X.K (.ref C) f = some none) (ry : RelV y u)
    (k : ∀ s', Inv X pins σ (upd H dx (exd dx ((f, y) :: fs))) s' → Q () s') : wpAny (model X.prog X.w) A (setAttr (.ref a) f u) Q E s := by
  obtain ⟨B, newId, initId, bm, _, SF, over, _⟩ := T.base
  obtain ⟨t1, ho⟩ := exo_at I.hok e
  obtain ⟨mA, named, rel⟩ := exd_at I.hok ed
  have inside := within_of rel
  obtain ⟨hp, g, d, t, os⟩ := s
  obtain ⟨oD, _, _, hoD, _, _⟩ := named.count inside
  refine PySem.W.set_plain I.kIn (ox := { cls := .ref C, dict := some dx, data := .fields #[.ref t1, .none, .none, .none, .bool false, .none] }) (od := some oD) ⟨ho, rfl, rfl, hoD⟩ T.sa ?_
  refine PySem.CSE.next_store SF I.kIn ho named inside (by rw [List.length_map]; omega) over T.hd no fun h' tk' keep named' => ?_
  have there : ∃ o, h'.get? dx = some o := by
    obtain ⟨o, _, _, z, _⟩ := named'
    exact ⟨o, z⟩
  exact k _ (I.write (t' := tk') (x := dx) (e := dx) (o := exd dx ((f, y) :: fs)) (by rw [ed]; exact True.intro) (.inl rfl) keep there (exd_ok named' (relO_put ry rel)))
/-- self.f = e -/
def tOx (K : PySem.W.Frag) (f : Str) (to te : TE) : TS := fun D σ H => te σ H fun y H1 => to σ H1 fun x H2 => ∃ a C fI : Addr, x = .ref a ∧ OxC K C fI ∧ PySem.W.findIn K (.ref C) f = some none ∧
  ((H2 a = some (exo a C none) ∧ ∀ dx, H2 dx = none → dx ≠ a → D.nx σ (upd (upd H2 dx (exd dx [(f, y)])) a (exo a C (some dx)))) ∨ ∃ (dx : Addr) (fs : List (Str × V)), H2 a = some (exo a C (some dx)) ∧ H2 dx = some (exd dx fs) ∧ fs.length ≤ 900 ∧ D.nx σ (upd H2 dx (exd dx ((f, y) :: fs))))
theorem ps_ox {o e : Expr} {to te : TE} {p' pos : Pos} (ho : PE X o to) (he : PE X e te) (hs : swapsWith e (some (.Attribute o f p')) pos.line X.env = pure false := by rfl) : PS X (.Assign [.Attribute o f p'] e pos) (tOx X.K f to te) := by
  constructor
  intro pins s σ H D I h
  refine plainObj_wpAny_Assign_Attribute (thn (he.run pins s σ H _ I h) (fun v t ⟨y, H1, J1, ry, q1⟩ => ?_)) hs
  refine thn (ho.run pins t σ H1 _ J1 q1) fun w t2 ⟨x, H2, J2, rx, a, C, fI, ex, T, no, way⟩ => ?_
  subst ex
  cases rx
  rcases way with ⟨ea, q⟩ | ⟨dx, fs, ea, ed, hl, q⟩
  · exact ox_new T J2 ea no ry fun dx t3 n ne J => ⟨σ, _, J, q dx n ne⟩
  · exact ox_old T J2 ea ed hl no ry fun t3 J => ⟨σ, _, J, q⟩
end
/-- an error made: at a the object, at d its dict -/
def made (H : Hp) (a d C : Addr) (fs : List (Str × V)) : Hp := upd (upd H a (XO (.ref C) (some d) a)) d (.xd fs)
section
variable {X : Cx} {pins : List (Addr × Obj)} {σ : L2.St} {H : Hp} {s : Shared}
theorem as_made {a d C : Addr} {fs : List (Str × V)} (I : Inv X pins σ H s) (ea : H a = some (exo a C (some d))) (ed : H d = some (exd d fs)) : Inv X pins σ (made H a d C fs) s := by
  obtain ⟨t0, ho⟩ := exo_at I.hok ea
  obtain ⟨mA, named, rel⟩ := exd_at I.hok ed
  have ne : d ≠ a := fun z => by
    obtain ⟨o, es, ep, e1, e2, _⟩ := named
    rw [z, ho] at e1
    cases e1
    cases e2
  have J : Inv X pins σ (upd H a (XO (.ref C) (some d) a)) { s with heap := s.heap, toks := s.toks } := I.write (x := a) (e := a) (o := XO (.ref C) (some d) a) (by rw [ea]; exact True.intro) (.inl rfl) (fun _ _ _ z => z) ⟨_, ho⟩ (xo_put ho ⟨rfl, rfl⟩ rfl)
  have ed2 : (upd H a (XO (.ref C) (some d) a)) d = some (exd d fs) := by
    rw [upd_ne ne]
    exact ed
  obtain ⟨od, hod⟩ : ∃ o, s.heap.get? d = some o := by
    obtain ⟨o, _, _, z, _⟩ := named
    exact ⟨o, z⟩
  exact J.write (t' := s.toks) (h' := s.heap) (x := d) (e := d) (o := .xd fs) (by rw [ed2]; exact True.intro) (.inl rfl) (fun _ _ _ z => z) ⟨od, hod⟩ ⟨mA, named, rel⟩
end
end CS
set_option maxHeartbeats 4000000
namespace CS
open PySem PySem.Spec PyProof.Rows L2
/-! ### C(e, ..), C(k = e, ..): an error as a value -/
/-- what C's __init__ leaves -/
def Kept (a C : Addr) (Q : VK) : V → Hp → Prop := fun v H2 => v = .non ∧ ∃ (d : Addr) (fs : List (Str × V)), H2 a = some (exo a C (some d)) ∧ H2 d = some (exd d fs) ∧ Q (.ref a) (made H2 a d C fs)
def tMkX (C : Addr) (sp : Sp) (ta : TA) : TE := fun σ H Q => ta σ H fun vs H1 => vs.length ≤ 1000 ∧ ∀ a, H1 a = none → sp (.ref a :: vs) (upd H1 a (exo a C none)) (Kept a C Q) (fun _ _ _ => False)
def tMkXK (C : Addr) (n : Nat) (sp : Sp) (gV : List V → List V → List V) (tk : TA) : TE := fun σ H Q => tk σ H fun zs H1 => zs.length = n ∧ ∀ a, H1 a = none → sp (gV [.ref a] zs) (upd H1 a (exo a C none)) (Kept a C Q) (fun _ _ _ => False)
section
variable {X : Cx} {CX : CXT} {x : Str} {C fI : Addr} {k : Nat} {fd : FuncData} {ps ks : List Str} {sp : Sp} {e : Expr} {es : List Expr} {ta tk : TA} {p pos : Pos} {kws : List Keyword} {g : List Value → List Value → List Value} {gV : List V → List V → List V}
theorem kept_ep {pins : List (Addr × Obj)} {σ : L2.St} {H1 : Hp} {s s' : Shared} {a : Addr} {Q : VK} {r : Result} (I2 : Inv X pins σ (upd H1 a (exo a C none)) s) (px : Passes CX X (fun _ _ _ => False))
    (z : (match r with | .ok (.ret u) => CE X.stack X.prog X.w (upd H1 a (exo a C none)) s (Kept a C Q) u s' | .ok _ => False | .error er => CX X.stack (upd H1 a (exo a C none)) s (fun _ _ _ => False) er s')) :
    (match r with | .ok (.ret v) => v = .none ∧ EP X pins σ Q (.ref a) s' | .ok _ => False | .error er => X.xe er s') := by
  cases r with
  | error er => exact px pins σ _ _ er s' I2 z
  | ok fl =>
    cases fl with
    | ret u =>
      obtain ⟨v, H2, I3, rv, ev, d, fs, ea, ed, q⟩ := I2.after z
      subst ev
      exact ⟨rv, .ref a, _, as_made I3 ea ed, rfl, q⟩
    | next => exact z.elim
    | brk => exact z.elim
    | cont => exact z.elim
theorem pe_ox (T : OxC X.K C fI) (F1 : FnOk X.prog X.w X.K X.mg X.base CX k fI fd ps sp) (hr : Room (k + 1) X.A) (hb : Binds X.K fd ps []) (px : Passes CX X (fun _ _ _ => False)) (hg : Gl X x) (hm : X.mg x = some (.ref C)) (ha : PA X (e :: es) ta)
    (hdb : (x == ("__debug__" : Str)) = false := by decide) (he : starEach (e :: es) X.env = (false, eval e X.env) :: starEach es X.env := by rfl) (hpl : (backTo pos (starEach es X.env)).any (·.1) = false := by rfl) : PE X (.Call (.Name x p) (e :: es) [] pos) (tMkX C sp ta) := by
  constructor
  intro pins s σ H Q I h
  obtain ⟨B, newId, initId, bm, F, _, _, nm, q, N, bs, sn, sub, ab, col, dd, k0, k1, k2, k3, k5, hC⟩ := T.base
  refine wpAny_Call_Name_kw (ld_glob I hg hm ?_ hdb)
  refine PySem.W.callWith_K (h₀ := X.base) I.ok.mod.kin T.kC (thn (ha.run pos pins s σ H _ I h) fun us t r => ?_) he hpl
  obtain ⟨vs, H1, I1, r1, hz, q1⟩ := r
  refine ⟨I1.kIn, ?_⟩
  show wpAny _ _ (call (.ref C) us) _ _ _
  obtain ⟨hp, gs, dr, tok, os⟩ := t
  have beyond : hp.objs.size ≤ hp.objs.size + 1 := Nat.le_succ _
  have want := q1 (hp.objs.size + 1) (I1.hok.fresh beyond)
  have more : ∀ b o, hp.get? b = some o → ((hp.push (PySem.W.kdv_tup us)).push (PySem.HandSPX.excO C hp.objs.size)).get? b = some o := fun b o z => Heap.get?_push_of_some _ (Heap.get?_push_of_some _ z)
  have here : ((hp.push (PySem.W.kdv_tup us)).push (PySem.HandSPX.excO C hp.objs.size)).get? (hp.objs.size + 1) = some (PySem.HandSPX.excO C hp.objs.size) := by heap_get
  have I2 : Inv X pins σ (upd H1 (hp.objs.size + 1) (exo (hp.objs.size + 1) C none)) ⟨(hp.push (PySem.W.kdv_tup us)).push (PySem.HandSPX.excO C hp.objs.size), gs, dr, tok, os⟩ := I1.laid (t' := tok) (a := hp.objs.size + 1) (o := exo (hp.objs.size + 1) C none) more beyond (exo_ok here)
  have r2 : Vals (V.ref (hp.objs.size + 1) :: vs) (Value.ref (hp.objs.size + 1) :: us) := .cons rfl r1
  have len : (Value.ref (hp.objs.size + 1) :: us).length = ps.length := r2.length.symm.trans (F1.len _ _ _ _ want)
  have small : us.length ≤ sizeLine := by
    rw [← Paired.length r1, sizeLine_eq]
    omega
  refine wpAny_call (PySem.HandSPX.call_own F (fun _ => rfl) (I1.kIn _ _ hC) (PySem.W.looks_findIn I1.kIn T.iC) (fun self => PySem.W.bind_fn I1.kIn self T.tI) small ?_)
  refine codeAny_mono (F1.run _ X.stack _ _ ⟨Value.ref (hp.objs.size + 1) :: us, []⟩ (Value.ref (hp.objs.size + 1) :: us) _ _ (fun _ _ _ => False) (hr.make C us []) (I2.env0.make C us []) ?_ r2 want) fun r s' z => ?_
  · have w := hb _ (Value.ref (hp.objs.size + 1) :: us) I2.kIn (by rw [List.append_nil]; exact len)
    rw [List.append_nil] at w
    exact w
  · have y := kept_ep (r := r) I2 px z
    cases r with
    | error er => exact y
    | ok fl => cases fl <;> exact y
theorem pe_oxK (T : OxC X.K C fI) (F1 : FnOk X.prog X.w X.K X.mg X.base CX k fI fd ps sp) (hr : Room (k + 1) X.A) (hb : KBn X.K fd ps 1 ks g gV) (px : Passes CX X (fun _ _ _ => False)) (hg : Gl X x) (hm : X.mg x = some (.ref C)) (hkw : PK X kws tk)
    (hall : (backToKw pos (keywordEach kws X.env)).all (·.1.isSome) = true := by rfl) (hks : (backToKw pos (keywordEach kws X.env)).filterMap (·.1) = ks := by rfl) (hdb : (x == ("__debug__" : Str)) = false := by decide)
    (hpl : ((backTo pos (starEach [] X.env)).any (·.1) || (backToKw pos (keywordEach kws X.env)).any (·.1.isNone)) = false := by rfl) : PE X (.Call (.Name x p) [] kws pos) (tMkXK C ks.length sp gV tk) := by
  constructor
  intro pins s σ H Q I h
  obtain ⟨B, newId, initId, bm, F, _, _, nm, q, N, bs, sn, sub, ab, col, dd, k0, k1, k2, k3, k5, hC⟩ := T.base
  refine wpAny_Call_Name_kw (ld_glob I hg hm ?_ hdb)
  refine PySem.W.callWith_KW0 (h₀ := X.base) I.ok.mod.kin T.kC hall ?_ hpl
  refine thn (hkw.run pos pins s σ H _ I h) fun ws t r => ?_
  obtain ⟨zs, H1, I1, rz, lz, q1⟩ := r
  refine ⟨I1.kIn, ?_⟩
  rw [hks]
  show wpAny _ _ (call (.ref C) [] (ks.zip ws)) _ _ _
  obtain ⟨hp, gs, dr, tok, os⟩ := t
  have beyond : hp.objs.size ≤ hp.objs.size + 1 := Nat.le_succ _
  have want := q1 (hp.objs.size + 1) (I1.hok.fresh beyond)
  have more : ∀ b o, hp.get? b = some o → ((hp.push (PySem.W.kdv_tup [])).push (PySem.HandSPX.excO C hp.objs.size)).get? b = some o := fun b o z => Heap.get?_push_of_some _ (Heap.get?_push_of_some _ z)
  have here : ((hp.push (PySem.W.kdv_tup [])).push (PySem.HandSPX.excO C hp.objs.size)).get? (hp.objs.size + 1) = some (PySem.HandSPX.excO C hp.objs.size) := by heap_get
  have I2 : Inv X pins σ (upd H1 (hp.objs.size + 1) (exo (hp.objs.size + 1) C none)) ⟨(hp.push (PySem.W.kdv_tup [])).push (PySem.HandSPX.excO C hp.objs.size), gs, dr, tok, os⟩ := I1.laid (t' := tok) (a := hp.objs.size + 1) (o := exo (hp.objs.size + 1) C none) more beyond (exo_ok here)
  have one : Vals [V.ref (hp.objs.size + 1)] [Value.ref (hp.objs.size + 1)] := .cons rfl .nil
  refine wpAny_call (PySem.CSE.kw_call F (I1.kIn _ _ hC) (PySem.W.looks_findIn I1.kIn T.iC) (fun self => PySem.W.bind_fn I1.kIn self T.tI) ?_)
  refine codeAny_mono (F1.run _ X.stack _ _ ⟨[Value.ref (hp.objs.size + 1)], ks.zip ws⟩ (g [Value.ref (hp.objs.size + 1)] ws) _ _ (fun _ _ _ => False) (hr.make C [] (ks.zip ws)) (I2.env0.make C [] (ks.zip ws)) (hb.to _ [Value.ref (hp.objs.size + 1)] ws I2.kIn rfl (rz.length.symm.trans lz)) (hb.rel one rz) want) fun r s' z => ?_
  have y := kept_ep (r := r) I2 px z
  cases r with
  | error er => exact y
  | ok fl => cases fl <;> exact y
/-- C(), C an own error class without __init__ -/
theorem pe_ox0 {bmB : List Value} {B newId initId : String} (F : ExcBaseFacts B newId initId bmB) (q : PySem.W.excIn X.K C bmB newId = true) (hm : X.mg x = some (.ref C)) (kC : PySem.W.keepIn X.K (.ref C) = true) (hg : Gl X x) (hdb : (x == ("__debug__" : Str)) = false := by decide) :
    PE X (.Call (.Name x p) [] [] pos) (fun σ H Q => ∀ a, H a = none → Q (.ref a) (upd H a (XO (.ref C) none a))) := by
  constructor
  intro pins s σ H Q I h
  refine wpAny_Call_Name_kw (ld_glob I hg hm ?_ hdb)
  refine PySem.W.callWith_K0 I.kIn kC ?_
  show wpAny _ _ (call (.ref C) []) _ _ _
  obtain ⟨bm, N, nm, qn, bs, hdct, sn, sub, ab, col, dd, k0, k1, k2, k3, k5, mN, hC, hN, hni, T⟩ := exc_obj I.kIn q
  refine wpAny_call_exc_subT F T hC hN hni (fun h' a hm => ?_) (Nat.zero_le _)
  have hn : H a = none := I.hok.gone hm.new
  obtain ⟨t, ht, _, _⟩ := hm.there
  exact ⟨.ref a, upd H a (XO (.ref C) none a), I.laidN hm.keeps hm.new hn (xo_put ht ⟨rfl, rfl⟩ rfl), rfl, h a hn⟩
/-- isinstance(e, (C, ..)), e a tracked error, own classes -/
def rIsXT (K : PySem.W.Frag) : List V → Hp → VK → Prop := fun xs H Q => ∃ (a C tp : Addr) (d : Option Addr) (cs : List Addr) (b : Bool), xs = [.ref a, .ref tp] ∧ H a = some (XO (.ref C) d a) ∧ XD H d ∧ PySem.W.CsxC K C ∧ SqT K H tp (cs.map V.ref) ∧ PySem.W.kitAny K (.ref C) (cs.map Value.ref) = some b ∧ Q (.bl b) H
theorem call_isXT : CallR X (.builtin "isinstance") (rIsXT X.K) := by
  intro pins s σ H xs us Q I r h
  obtain ⟨a, C, tp, d, cs, b, rfl, ea, ed, T, ht, e, q⟩ := h
  cases r with
  | cons r1 rr =>
    cases rr with
    | cons r2 rr =>
      cases rr
      cases r1
      cases r2
      obtain ⟨oe, od, J⟩ := xo_inst I ea ed
      obtain ⟨its, rv, ⟨o, ho, hc, n, hd⟩, _⟩ := I.tuple ht
      have ei := refs_at rv
      subst ei
      obtain ⟨c0, d0, data, sl⟩ := o
      dsimp only at hc hd
      subst hc hd
      exact PySem.W.kia_tup (PySem.W.csx_kit T) I.kIn J ho e (fun z => nomatch z) fun tk => ⟨.bl b, H, I.kept (t' := tk) fun _ _ z => z, rfl, q⟩
/-- l.count(True), l a list of truth values -/
def isT : Value → Bool := fun v => match v with | .bool b => b == true | _ => false
theorem isT_all : ∀ {us : List Value} {bs : List Bool}, Vals (bs.map V.bl) us → us.countP isT = bs.count true ∧ ∀ y ∈ us, ∃ b, y = .bool b
  | _, [], .nil => ⟨rfl, fun y hy => by cases hy⟩
  | _, b :: bs, .cons r rr => by
    obtain ⟨h1, h2⟩ := isT_all rr
    cases r
    refine ⟨?_, fun y hy => ?_⟩
    · rw [List.countP_cons, List.count_cons, h1]
      cases b <;> rfl
    · rcases List.mem_cons.mp hy with e | e
      · exact ⟨b, e⟩
      · exact h2 y e
def rCntT (K : PySem.W.Frag) : V → List V → Hp → VK → Prop := fun x xs H Q => ∃ (p : Addr) (bs : List Bool), x = .ref p ∧ xs = [.bl true] ∧ SqL K H p (bs.map V.bl) ∧ Q (.int (bs.count true : Nat)) H
theorem mt_countT : MtR X "list.count" (rCntT X.K) := by
  intro pins s σ H x xs v us Q I rx rxs h
  obtain ⟨p, bs, rfl, rfl, hs, q⟩ := h
  cases rx
  obtain ⟨u, rfl, ru⟩ := rxs.one
  cases ru
  obtain ⟨its, rv, ⟨⟨cls, dd, data, sl⟩, n, ho, hc, hdn, hd⟩, hlen⟩ := I.list hs
  dsimp only at hc hd
  subst hc hd
  obtain ⟨h1, h2⟩ := isT_all rv
  refine call_meets PySem.F.slot_list_count ⟨_, ho, rfl⟩ PySem.F.entry_list_count (PySem.F.args_list_count_2 _ _) (SeqAt.list_countAt p its.toArray n dd sl (.bool true) isT) ⟨ho, fun y hy => ?_, ?_⟩
  · obtain ⟨b, rfl⟩ := h2 y (by simpa using hy)
    exact SeqAt.EqAt.bool_bool b true
  · refine ⟨.int (bs.count true : Nat), H, I.tok _, ⟨s.toks, ?_⟩, q⟩
    show Value.int ((its.toArray.toList.countP isT : Nat) : Int) s.toks = _
    rw [← h1]
end
end CS
namespace CS
open PySem PySem.Spec PySem.Calls PyProof.Rows
/-! ### sorted of a tuple -/
section
variable {prog : Program} {w : World} {A : Around} {E : Value → Shared → Prop} {s : Shared}
theorem gather_tup {q : Addr} {ws : List Value} {o : Obj} {n : Nat} {R : List Value → Shared → Prop} (e1 : s.heap.get? q = some o) (e2 : o.cls = .type "tuple") (e3 : o.data = .seq ws.toArray n) (hz : ws.length ≤ sizeLine)
    (k : R ws { s with heap := (s.heap.push (seqObj "list" #[] 0)).update s.heap.objs.size (Obj.mapSeq (· ++ ws.toArray)) }) : wpAny (model prog w) A (collect (.ref q)) R E s := by
  have f1 : (s.heap.push (seqObj "list" #[] 0)).get? q = some o := Heap.get?_push_of_some _ e1
  have f2 : (s.heap.push (seqObj "list" #[] 0)).get? s.heap.objs.size = some (seqObj "list" #[] 0) := Heap.get?_push_size _ rfl
  unfold collect
  refine wpAny_bind (wpAny_runValue (codeAny_builtin entry_proto_collect' ?_))
  show wpAny _ _ (newList [] >>= fun l => PySem.again (.builtin "list.__iadd__" ⟨[l, .ref q], []⟩)) _ _ s
  refine wpAny_bind (wpAny_newList ?_)
  refine wpAny_pure ⟨Code.quiet_builtin _ (by decide +kernel), codeAny_builtin entry_list_iadd' ?_⟩
  show wpAny _ _ (Builtin.List.listExtendWith (.ref s.heap.objs.size) (.ref q) (.ref s.heap.objs.size)) _ _ { s with heap := s.heap.push (seqObj "list" #[] 0) }
  unfold Builtin.List.listExtendWith
  refine wpAny_bind (wpAny_typeOf (T := "tuple") ⟨o, f1, e2⟩ ?_)
  have tt : (Value.type "tuple" == Value.type "tuple") = true := by rfl
  rw [if_pos (by rw [tt]; simp)]
  refine wpAny_bind (listItems_at f1 e3 ?_)
  refine wpAny_bind (listItems_at (xs := #[]) (n := 0) f2 rfl ?_)
  rw [if_neg (by simp)]
  refine wpAny_bind (listUpdate_at (xs := #[]) (n := 0) f2 rfl ?_ (Nat.zero_le _) ?_)
  · refine wpAny_pure ?_
    refine wpAny_bind (wpAny_load (get?_update_seq f2 _) ?_)
    show wpAny _ _ (pure ((#[] : Array Value) ++ ws.toArray).toList) R E _
    have e : ((#[] : Array Value) ++ ws.toArray).toList = ws := by simp
    rw [e]
    exact wpAny_pure k
  · show (#[] ++ ws.toArray).size ≤ sizeLine + 1
    simp only [Array.size_append, List.size_toArray, List.length_nil]
    omega
theorem sorted_tup_by {q : Addr} {ws : List Value} {o : Obj} {n : Nat} {R : Value → Shared → Prop} (e1 : s.heap.get? q = some o) (e2 : o.cls = .type "tuple") (e3 : o.data = .seq ws.toArray n) (hz : ws.length ≤ sizeLine)
    (inner : ∀ E' : Value → Shared → Prop, wpAny (model prog w) A.in1.in1 (Builtin.«list.sort» ⟨[.ref (s.heap.objs.size + 1)], []⟩) (fun f s' => f = .done (.ret .none) ∧ R (.ref (s.heap.objs.size + 1)) s') E' { s with heap := PySem.W.copyHeap s.heap ws }) :
    wpAny (model prog w) A (call (.builtin "sorted") [.ref q]) R E s := by
  refine call_function_entry kind_sorted plain_sorted entry_sorted (args_sorted1 _) ?_
  unfold Builtin.«sorted»
  refine wpAny_bind (m := checkCount "sorted" 1 1 _) (wpAny_pure ?_)
  refine wpAny_bind (gather_tup e1 e2 e3 hz ?_)
  refine wpAny_bind (wpAny_newList ?_ hz)
  have sz : ((s.heap.push (seqObj "list" #[] 0)).update s.heap.objs.size (Obj.mapSeq (· ++ ws.toArray))).objs.size = s.heap.objs.size + 1 := by
    rw [Heap.size_update, size_push']
  show wpAny _ _ _ _ _ { s with heap := PySem.W.copyHeap s.heap ws }
  rw [sz]
  refine wpAny_bind (wpAny_holding (wpAny_call_entry slot_list_sort ⟨_, PySem.W.copyHeap_at s.heap ws, rfl⟩ entry_list_sort ?g (args_list_sort _)))
  case g =>
    show wpAny (model prog w) A.in1.in1 (Builtin.«list.sort» ⟨[.ref (s.heap.objs.size + 1)], []⟩) _ _ _
    refine wpAny_mono (inner _) (fun f s' hf => ?_) fun _ _ e => e
    obtain ⟨rfl, hq⟩ := hf
    exact ⟨_, rfl, wpAny_pure ⟨_, rfl, hq⟩⟩
theorem sorted_tup_data {β : Type} {q : Addr} {ws : List Value} {o : Obj} {n : Nat} {bs : List β} {enc : β → PyData} {T : Value → β → Prop} {R : Value → Shared → Prop} (e1 : s.heap.get? q = some o) (e2 : o.cls = .type "tuple") (e3 : o.data = .seq ws.toArray n)
    (e : PySem.W.EachIs T ws bs) (er : PySem.W.EachIs (fun v b => ∃ as, Reads s.heap v (enc b) as) ws bs) (hal : PySem.W.AllAlike (bs.map enc)) (hk : PySem.W.Sortable (bs.map enc)) (hL : bs.length ≤ sizeLine) (hu : ∀ b, b ∈ bs → A.units + 2 + (enc b).depth < cLine)
    (k : ∀ out, out.length = bs.length → PySem.W.EachIs T out (bs.mergeSort (PySem.W.dataLe false enc)) → R (.ref (s.heap.objs.size + 1)) { s with heap := sortedAll s.heap ws (List.toArray out) }) :
    wpAny (model prog w) A (call (.builtin "sorted") [.ref q]) R E s := by
  have hL2 : ws.length ≤ sizeLine := by
    rw [e.length]
    exact hL
  have er2 : PySem.W.EachIs (fun v b => ∃ as, Reads (PySem.W.sortingHeap (PySem.W.copyHeap s.heap ws) (s.heap.objs.size + 1) ws) v (enc b) as) ws bs := er.mono fun _ _ h => by
    obtain ⟨as, r⟩ := h
    exact ⟨as, PyProof.Rows.Reads.keeps (fun _ _ => PySem.W.sorting_copy_old) r⟩
  have S := PySem.W.SortsAt.data (prog := prog) (w := w) (A := A.in1.in1) (s := { s with heap := PySem.W.sortingHeap (PySem.W.copyHeap s.heap ws) (s.heap.objs.size + 1) ws }) (PySem.W.each_map (R := fun v d => ∃ as, Reads (PySem.W.sortingHeap (PySem.W.copyHeap s.heap ws) (s.heap.objs.size + 1) ws) v d as) enc er2) hal hk (PySem.W.bound_map hu)
  refine sorted_tup_by e1 e2 e3 hL2 fun E' => ?_
  refine PySem.W.list_sort_vals (s := { s with heap := PySem.W.copyHeap s.heap ws }) (PySem.W.copyHeap_at s.heap ws) S hL2 ⟨rfl, ?_⟩
  exact k _ (by rw [PySem.W.sortVals_length false rfl]; exact e.length) (PySem.W.sortVals_data false e er2 hal)
end
end CS
namespace CS
open PySem PySem.Spec PyProof.Rows L2
/-! ### sorted of a list of data -/
def ordD (z y : V × PyData) : Bool := PySem.W.dataLe false (fun b : V × PyData => b.2) z y
def rSortedD (K : PySem.W.Frag) : List V → Hp → VK → Prop := fun vs H Q => ∃ (a : Addr) (zs : List (V × PyData)), vs = [V.ref a] ∧ (SqL K H a (zs.map Prod.fst) ∨ SqT K H a (zs.map Prod.fst)) ∧ (∀ z ∈ zs, Dp K H z.1 z.2) ∧ PySem.W.AllAlike (zs.map Prod.snd) ∧ PySem.W.Sortable (zs.map Prod.snd) ∧ (∀ z ∈ zs, z.2.depth ≤ 60) ∧
  ∀ p, H p = none → Q (.ref p) (upd H p (.lst ((zs.mergeSort ordD).map Prod.fst)))
theorem each_of_vals {α β : Type} {R : Value → α → Prop} (f : α → V) (hR : ∀ b u, RelV (f b) u → R u b) : ∀ {bs : List α} {us : List Value}, Vals (bs.map f) us → PySem.W.EachIs R us bs
  | [], [], .nil => .nil
  | b :: bs, u :: us, .cons h t => .cons (hR b u h) (each_of_vals (β := β) f hR t)
theorem vals_of_each {α : Type} (f : α → V) : ∀ {bs : List α} {us : List Value}, PySem.W.EachIs (fun u b => RelV (f b) u) us bs → Vals (bs.map f) us
  | [], [], .nil => .nil
  | _ :: _, _ :: _, .cons h t => .cons h (vals_of_each f t)
section
variable {X : Cx}
theorem cr_sortedDt (hu : X.A.units + 64 < cLine) : CallR X (.builtin "sorted") (rSortedD X.K) := by
  intro pins s σ H vs us Q I r h
  obtain ⟨a, zs, rfl, hs, hd, hal, hso, hdp, q⟩ := h
  obtain ⟨u, rfl, ru⟩ := vals1 r
  obtain rfl : u = Value.ref a := ru
  have each : ∀ its : List Value, Vals (zs.map Prod.fst) its → PySem.W.EachIs (fun u (b : V × PyData) => RelV b.1 u) its zs ∧ PySem.W.EachIs (fun u (b : V × PyData) => ∃ as, Reads s.heap u b.2 as) its zs := by
    intro its rv
    have e1 : PySem.W.EachIs (fun u (b : V × PyData) => RelV b.1 u) its zs := each_of_vals (β := Unit) Prod.fst (fun b u h => h) rv
    have aux : ∀ (zs : List (V × PyData)) (its : List Value), (∀ z ∈ zs, Dp X.K H z.1 z.2) → PySem.W.EachIs (fun u (b : V × PyData) => RelV b.1 u) its zs → PySem.W.EachIs (fun u (b : V × PyData) => ∃ as, Reads s.heap u b.2 as) its zs := by
      intro zs
      induction zs with
      | nil =>
        intro its _ e
        cases e
        exact .nil
      | cons z zs ih =>
        intro its hd e
        cases e with
        | cons h t => exact .cons (Dp.reads I _ _ _ (hd z (List.mem_cons_self ..)) h) (ih _ (fun y hy => hd y (List.mem_cons_of_mem _ hy)) t)
    exact ⟨e1, aux zs its hd e1⟩
  have fin : ∀ its out : List Value, zs.length ≤ sizeLine → PySem.W.EachIs (fun u (b : V × PyData) => RelV b.1 u) out (zs.mergeSort (PySem.W.dataLe false fun b : V × PyData => b.2)) → EP X pins σ Q (.ref (s.heap.objs.size + 1)) { s with heap := sortedAll s.heap its (List.toArray out) } := by
    intro its out hL eo
    obtain ⟨n, hn⟩ := sortedAll_at s.heap its (List.toArray out)
    have nf : H (s.heap.objs.size + 1) = none := I.hok.fresh (Nat.le_succ _)
    have hv : Vals ((zs.mergeSort ordD).map Prod.fst) out := vals_of_each Prod.fst eo
    refine ⟨.ref (s.heap.objs.size + 1), upd H (s.heap.objs.size + 1) (.lst ((zs.mergeSort ordD).map Prod.fst)), I.laid (t' := s.toks) (fun b o e => sortedAll_old e) (Nat.le_succ _) ⟨?_, out, n, hv, hn⟩, rfl, q _ nf⟩
    rw [List.length_map, List.length_mergeSort]
    exact hL
  rcases hs with hs | hs
  · obtain ⟨its, rv, hl, hz⟩ := I.list hs
    obtain ⟨e1, e2⟩ := each its rv
    have hL : zs.length ≤ sizeLine := by
      rw [← e1.length, ← rv.length]
      exact hz
    refine PySem.W.sorted_data (enc := fun b : V × PyData => b.2) hl.isList e1 e2 hal hso hL (fun b hb => ?_) fun out ho eo => fin its out hL eo
    have := hdp b hb
    omega
  · obtain ⟨its, rv, pl, hz⟩ := I.tuple hs
    obtain ⟨e1, e2⟩ := each its rv
    obtain ⟨o, g1, g2, n, g3⟩ := pl
    have hL : zs.length ≤ sizeLine := by
      rw [← e1.length, ← rv.length]
      exact hz
    refine sorted_tup_data (enc := fun b : V × PyData => b.2) g1 g2 g3 e1 e2 hal hso hL (fun b hb => ?_) fun out ho eo => fin its out hL eo
    have := hdp b hb
    omega
end
/-! ### pairs of texts -/
def tx (p : Str × Str) : PyData := .tuple [.str p.1, .str p.2]
theorem tx_alike (l : List (Str × Str)) : PySem.W.AllAlike (l.map tx) := PySem.W.AllAlike.of fun b b' => by
  simp [tx, PySem.W.alike, PySem.W.alikeAll]
theorem tx_sortable (l : List (Str × Str)) : PySem.W.Sortable (l.map tx) := PySem.W.Sortable.tuples fun b => ⟨_, _, rfl⟩
theorem tx_depth (p : Str × Str) : (tx p).depth ≤ 60 := by
  simp [tx, PyData.depth, PyData.depthAll]
def leP (p q : Str × Str) : Bool := PySem.W.dataLe false tx p q
theorem leP_total : PySem.W.TotalLe leP := PySem.W.sortLe_total (listOrd itemOrd) false fun b => PySem.W.keyToks (tx b)
theorem eqv_str (a b : Str) : PyData.eqv (.str a) (.str b) = decide (a = b) := by
  simp only [PyData.eqv]
  exact Bool.beq_eq_decide_eq a b
theorem lt_str_anti {a b : Str} (h1 : PySem.W.dataLt (.str a) (.str b) = false) (h2 : PySem.W.dataLt (.str b) (.str a) = false) : a = b := by
  rw [PySem.W.dataLt_str, decide_eq_false_iff_not] at h1 h2
  exact PySem.W.str_of_cps (List.le_antisymm (List.not_lt.mp h2) (List.not_lt.mp h1))
theorem leP_anti {p q : Str × Str} (h1 : leP p q = true) (h2 : leP q p = true) : p = q := by
  obtain ⟨a, b⟩ := p
  obtain ⟨c, d⟩ := q
  have g1 : PySem.W.dataLt (tx (c, d)) (tx (a, b)) = false := by
    have : (!PySem.W.dataLt (tx (c, d)) (tx (a, b))) = true := h1
    simpa using this
  have g2 : PySem.W.dataLt (tx (a, b)) (tx (c, d)) = false := by
    have : (!PySem.W.dataLt (tx (a, b)) (tx (c, d))) = true := h2
    simpa using this
  have al : ∀ x y : Str, PySem.W.alike (.str x) (.str y) = true := fun x y => by simp [PySem.W.alike]
  unfold tx at g1 g2
  rw [PySem.W.dataLt_pair (al _ _) (al _ _), eqv_str, eqv_str] at g1 g2
  by_cases e1 : a = c
  · subst e1
    rw [if_pos (decide_eq_true rfl)] at g1 g2
    by_cases e2 : b = d
    · rw [e2]
    · rw [if_neg (by simpa using fun z => e2 z.symm)] at g1
      rw [if_neg (by simpa using e2)] at g2
      exact absurd (lt_str_anti g2 g1) e2
  · rw [if_neg (by simpa using fun z => e1 z.symm)] at g1
    rw [if_neg (by simpa using e1)] at g2
    exact absurd (lt_str_anti g2 g1) e1
/-- what is sorted, as texts -/
theorem sort_tx {zs : List (V × PyData)} {l : List (Str × Str)} (h : zs.map Prod.snd = l.map tx) : (zs.mergeSort ordD).map Prod.snd = (l.mergeSort leP).map tx := by
  rw [PySem.W.sort_maps (r := ordD) (s := PySem.W.dataLe false (fun d : PyData => d)) Prod.snd (fun a _ b _ => rfl), h]
  exact (PySem.W.sort_maps (r := leP) tx (fun a _ b _ => rfl)).symm
theorem sort_perm {l m : List (Str × Str)} (h : l.Perm m) : l.mergeSort leP = m.mergeSort leP :=
  List.Perm.eq_of_pairwise (fun a b _ _ x y => leP_anti x y) (PySem.W.sort_pairwise leP_total l) (PySem.W.sort_pairwise leP_total m) (((List.mergeSort_perm l leP).trans h).trans (List.mergeSort_perm m leP).symm)
end CS
namespace RM
open PySem PySem.Spec PyProof.Rows L2 CS RZ
/-! ### values as data: dicts, objects, errors and the box of draws are marked dicts -/
abbrev D := PyData
def boxD : D := .dict [(.none, .none)]
def dK (kvs : List (D × D)) : D := .dict ((.none, .bool false) :: kvs)
def dT (kvs : List (D × D)) : D := .dict ((.none, .bool true) :: kvs)
def obj (c : Nat) (fs : List (D × D)) : D := .dict ((.none, .int (c : Nat)) :: fs)
def exc (c : Nat) (fs : List (D × D)) : D := .dict ((.none, .list [.int (c : Nat)]) :: fs)
def kD : L2.Key → D
  | .inl i => .int i
  | .inr s => .str s
/-- the program's classes, by number; the box -/
structure Tab where
  K : PySem.W.Frag
  cls : Nat → Addr
  bx : Option Addr
mutual
inductive Is (T : Tab) (H : Hp) : V → D → Prop
  | non : Is T H .non .none
  | bl (b : Bool) : Is T H (.bl b) (.bool b)
  | int (i : Int) : Is T H (.int i) (.int i)
  | str (x : Str) : Is T H (.str x) (.str x)
  | lst {a : Addr} {xs : List V} {ds : List D} : H a = some (.lst xs) → IsL T H xs ds → Is T H (.ref a) (.list ds)
  | tup {a : Addr} {xs : List V} {ds : List D} : SqT T.K H a xs → IsL T H xs ds → Is T H (.ref a) (.tuple ds)
  | box {a : Addr} : T.bx = some a → Is T H (.ref a) (.dict [(.none, .none)])
  | dk {a : Addr} {kvs : List (L2.Key × V)} {ks : List (D × D)} : Rd H a (.dK kvs) → IsK T H kvs ks → Is T H (.ref a) (.dict ((.none, .bool false) :: ks))
  | dt {a : Addr} {kvs : List (List L2.Key × V)} {ks : List (D × D)} : Rd H a (.dT kvs) → IsT T H kvs ks → Is T H (.ref a) (.dict ((.none, .bool true) :: ks))
  | obj {a dx : Addr} {c : Nat} {us : List (Str × V)} {fs : List (D × D)} : H a = some (.ins (T.cls c) dx us) → H dx = some (.own a) → IsF T H us fs → Is T H (.ref a) (.dict ((.none, .int (c : Nat)) :: fs))
  | exc {a dd : Addr} {c : Nat} {us : List (Str × V)} {fs : List (D × D)} : H a = some (XO (.ref (T.cls c)) (some dd) a) → H dd = some (.xd us) → IsF T H us fs → Is T H (.ref a) (.dict ((.none, .list [.int (c : Nat)]) :: fs))
  | exn {a : Addr} {c : Nat} : H a = some (XO (.ref (T.cls c)) none a) → Is T H (.ref a) (.dict ((.none, .list [.int (c : Nat)]) :: []))
inductive IsL (T : Tab) (H : Hp) : List V → List D → Prop
  | nil : IsL T H [] []
  | cons {v : V} {vs : List V} {d : D} {ds : List D} : Is T H v d → IsL T H vs ds → IsL T H (v :: vs) (d :: ds)
inductive IsK (T : Tab) (H : Hp) : List (L2.Key × V) → List (D × D) → Prop
  | nil : IsK T H [] []
  | cons {k : L2.Key} {v : V} {vs : List (L2.Key × V)} {d : D} {ds : List (D × D)} : Is T H v d → IsK T H vs ds → IsK T H ((k, v) :: vs) ((kD k, d) :: ds)
inductive IsT (T : Tab) (H : Hp) : List (List L2.Key × V) → List (D × D) → Prop
  | nil : IsT T H [] []
  | cons {k : List L2.Key} {v : V} {vs : List (List L2.Key × V)} {d : D} {ds : List (D × D)} : Is T H v d → IsT T H vs ds → IsT T H ((k, v) :: vs) ((.tuple (k.map kD), d) :: ds)
inductive IsF (T : Tab) (H : Hp) : List (Str × V) → List (D × D) → Prop
  | nil : IsF T H [] []
  | cons {f : Str} {v : V} {vs : List (Str × V)} {d : D} {ds : List (D × D)} : Is T H v d → IsF T H vs ds → IsF T H ((f, v) :: vs) ((.str f, d) :: ds)
end
section
variable {T : Tab} {H H' : Hp}
theorem rd_same {a : Addr} {u : HO} (s : Same H H') (h : Rd H a u) : Rd H' a u := by
  rcases h with h | ⟨o, h⟩
  · exact .inl (s _ _ h)
  · exact .inr ⟨o, s _ _ h⟩
theorem sqt_same {K : PySem.W.Frag} {a : Addr} {xs : List V} (e : Same H H') (h : SqT K H a xs) : SqT K H' a xs := by
  rcases h with h | h
  · exact .inl (rd_same e h)
  · exact .inr h
theorem sql_same {K : PySem.W.Frag} {a : Addr} {xs : List V} (e : Same H H') (h : SqL K H a xs) : SqL K H' a xs := by
  rcases h with h | h
  · exact .inl (rd_same e h)
  · exact .inr h
mutual
theorem Is.same (s : Same H H') : ∀ {v : V} {d : D}, Is T H v d → Is T H' v d
  | _, _, .non => .non
  | _, _, .bl b => .bl b
  | _, _, .int i => .int i
  | _, _, .str x => .str x
  | _, _, .lst h r => .lst (s _ _ h) (IsL.same s r)
  | _, _, .tup h r => .tup (sqt_same s h) (IsL.same s r)
  | _, _, .box h => .box h
  | _, _, .dk h r => .dk (rd_same s h) (IsK.same s r)
  | _, _, .dt h r => .dt (rd_same s h) (IsT.same s r)
  | _, _, .obj h1 h2 r => .obj (s _ _ h1) (s _ _ h2) (IsF.same s r)
  | _, _, .exc h1 h2 r => .exc (s _ _ h1) (s _ _ h2) (IsF.same s r)
  | _, _, .exn h => .exn (s _ _ h)
theorem IsL.same (s : Same H H') : ∀ {v : List V} {d : List D}, IsL T H v d → IsL T H' v d
  | _, _, .nil => .nil
  | _, _, .cons h r => .cons (Is.same s h) (IsL.same s r)
theorem IsK.same (s : Same H H') : ∀ {v : List (L2.Key × V)} {d : List (D × D)}, IsK T H v d → IsK T H' v d
  | _, _, .nil => .nil
  | _, _, .cons h r => .cons (Is.same s h) (IsK.same s r)
theorem IsT.same (s : Same H H') : ∀ {v : List (List L2.Key × V)} {d : List (D × D)}, IsT T H v d → IsT T H' v d
  | _, _, .nil => .nil
  | _, _, .cons h r => .cons (Is.same s h) (IsT.same s r)
theorem IsF.same (s : Same H H') : ∀ {v : List (Str × V)} {d : List (D × D)}, IsF T H v d → IsF T H' v d
  | _, _, .nil => .nil
  | _, _, .cons h r => .cons (Is.same s h) (IsF.same s r)
end
/-! data without marked dicts -/
mutual
def plain : D → Bool
  | .list ds => plains ds
  | .tuple ds => plains ds
  | .dict _ => false
  | _ => true
def plains : List D → Bool
  | [] => true
  | d :: ds => plain d && plains ds
end
mutual
theorem Is.dp : ∀ {v : V} {d : D}, Is T H v d → plain d = true → Dp T.K H v d
  | _, _, .non, _ => .non
  | _, _, .bl b, _ => .bl b
  | _, _, .int i, _ => .int i
  | _, _, .str x, _ => .str x
  | _, _, .lst h r, p => .lst (SqL.of h) (IsL.dp r p)
  | _, _, .tup h r, p => .tup h (IsL.dp r p)
  | _, _, .box _, p => by cases p
  | _, _, .dk _ _, p => by cases p
  | _, _, .dt _ _, p => by cases p
  | _, _, .obj _ _ _, p => by cases p
  | _, _, .exc _ _ _, p => by cases p
  | _, _, .exn _, p => by cases p
theorem IsL.dp : ∀ {v : List V} {d : List D}, IsL T H v d → plains d = true → DpAll T.K H v d
  | _, _, .nil, _ => .nil
  | _, _, .cons h r, p => .cons (Is.dp h (Bool.and_eq_true_iff.mp p).1) (IsL.dp r (Bool.and_eq_true_iff.mp p).2)
end
theorem IsL.length : ∀ {v : List V} {d : List D}, IsL T H v d → v.length = d.length
  | _, _, .nil => rfl
  | _, _, .cons _ r => by rw [List.length_cons, List.length_cons, r.length]
theorem IsL.get : ∀ {v : List V} {d : List D}, IsL T H v d → ∀ {i : Nat} {x : D}, d[i]? = some x → ∃ y, v[i]? = some y ∧ Is T H y x
  | _, _, .nil, _, _, e => by cases e
  | _, _, .cons h r, 0, _, e => by cases e; exact ⟨_, rfl, h⟩
  | _, _, .cons h r, i + 1, x, e => by
    obtain ⟨y, e1, e2⟩ := r.get (i := i) (x := x) e
    exact ⟨y, e1, e2⟩
theorem IsL.getV : ∀ {v : List V} {d : List D}, IsL T H v d → ∀ {i : Nat} {y : V}, v[i]? = some y → ∃ x, d[i]? = some x ∧ Is T H y x
  | _, _, .nil, _, _, e => by cases e
  | _, _, .cons h r, 0, _, e => by cases e; exact ⟨_, rfl, h⟩
  | _, _, .cons h r, i + 1, x, e => by
    obtain ⟨y, e1, e2⟩ := r.getV (i := i) (y := x) e
    exact ⟨y, e1, e2⟩
theorem IsL.append : ∀ {v w : List V} {d e : List D}, IsL T H v d → IsL T H w e → IsL T H (v ++ w) (d ++ e)
  | _, _, _, _, .nil, s => s
  | _, _, _, _, .cons h r, s => .cons h (r.append s)
theorem IsL.take : ∀ {v : List V} {d : List D} (n : Nat), IsL T H v d → IsL T H (v.take n) (d.take n)
  | _, _, 0, _ => .nil
  | _, _, _ + 1, .nil => .nil
  | _, _, n + 1, .cons h r => .cons h (r.take n)
theorem IsL.drop : ∀ {v : List V} {d : List D} (n : Nat), IsL T H v d → IsL T H (v.drop n) (d.drop n)
  | _, _, 0, r => r
  | _, _, _ + 1, .nil => .nil
  | _, _, n + 1, .cons _ r => r.drop n
theorem IsL.set {x : V} {y : D} (hx : Is T H x y) : ∀ {v : List V} {d : List D} (n : Nat), IsL T H v d → IsL T H (v.set n x) (d.set n y)
  | _, _, _, .nil => .nil
  | _, _, 0, .cons _ t => .cons hx t
  | _, _, i + 1, .cons q t => .cons q (IsL.set hx i t)
theorem IsL.eraseIdx : ∀ {v : List V} {d : List D} (n : Nat), IsL T H v d → IsL T H (v.eraseIdx n) (d.eraseIdx n)
  | _, _, _, .nil => .nil
  | _, _, 0, .cons _ t => t
  | _, _, i + 1, .cons q t => .cons q (IsL.eraseIdx i t)
theorem IsL.reverse : ∀ {v : List V} {d : List D}, IsL T H v d → IsL T H v.reverse d.reverse
  | _, _, .nil => .nil
  | _, _, .cons h r => by
    rw [List.reverse_cons, List.reverse_cons]
    exact (IsL.reverse r).append (.cons h .nil)
end
end RM
namespace RM
open PySem PySem.Spec PyProof.Rows L2 CS RZ
/-- the box of draws at b: what is left of the number, the seed, how often it was asked -/
def BoxAt (H : Hp) (b : Addr) (n : Nat) : Prop := ∃ A B C : Int, H b = some (.lst [.int A, .int B, .int C]) ∧ 0 ≤ A ∧ 0 ≤ B ∧ B < 2 ^ 62 ∧ 0 ≤ C ∧ C ≤ n
/-- a def's activation: the classes and the box, the addresses hidden from its values, the heap at its entry -/
structure Ctx where
  T : Tab
  Z : Addr → Prop
  H0 : Hp
  slf : Option Addr := none
  B : Hp := fun _ => none
/-- a marked object -/
def isObjD : D → Bool
  | .dict ((.none, .int _) :: _) => true
  | _ => false
/-- a slot: a value, or a list, a dict, an object that this frame alone knows -/
inductive Sl where
  | v (d : D)
  | own (d : D)
abbrev En := List (Option Sl)
abbrev Ow := Nat → Option Addr
def now : Ow := fun _ => none
open Classical in
noncomputable def hid (C : Ctx) (O : Ow) (H : Hp) : Hp := fun a => if C.Z a ∨ ∃ i, O i = some a then none else H a
inductive OwnAt (T : Tab) (Hh H : Hp) (p : Addr) : D → Prop
  | lst {xs : List V} {ds : List D} : H p = some (.lst xs) → IsL T Hh xs ds → OwnAt T Hh H p (.list ds)
  | dk {kvs : List (L2.Key × V)} {ks : List (D × D)} : H p = some (.dK kvs) → IsK T Hh kvs ks → OwnAt T Hh H p (.dict ((.none, .bool false) :: ks))
  | dt {kvs : List (List L2.Key × V)} {ks : List (D × D)} : H p = some (.dT kvs) → IsT T Hh kvs ks → OwnAt T Hh H p (.dict ((.none, .bool true) :: ks))
  | obj {dx : Addr} {c : Nat} {us : List (Str × V)} {fs : List (D × D)} : H p = some (.ins (T.cls c) dx us) → Hh dx = some (.own p) → IsF T Hh us fs → OwnAt T Hh H p (.dict ((.none, .int (c : Nat)) :: fs))
theorem OwnAt.some {T : Tab} {Hh H : Hp} {p : Addr} {d : D} (h : OwnAt T Hh H p d) : ∃ o, H p = some o := by
  cases h with
  | lst h _ => exact ⟨_, h⟩
  | dk h _ => exact ⟨_, h⟩
  | dt h _ => exact ⟨_, h⟩
  | obj h _ _ => exact ⟨_, h⟩
theorem OwnAt.same {T : Tab} {Hh H Hh' H' : Hp} {p : Addr} {d : D} (h : OwnAt T Hh H p d) (s : Same Hh Hh') (e : H' p = H p) : OwnAt T Hh' H' p d := by
  cases h with
  | lst h r => exact .lst (e.trans h) (r.same s)
  | dk h r => exact .dk (e.trans h) (r.same s)
  | dt h r => exact .dt (e.trans h) (r.same s)
  | obj h h2 r => exact .obj (e.trans h) (s _ _ h2) (r.same s)
theorem OwnAt.notup {T : Tab} {Hh H : Hp} {p : Addr} {d : D} (h : OwnAt T Hh H p d) (xs : List V) : H p ≠ Option.some (HO.tup xs) := fun z => by
  cases h with
  | lst h _ => rw [h] at z; cases z
  | dk h _ => rw [h] at z; cases z
  | dt h _ => rw [h] at z; cases z
  | obj h _ _ => rw [h] at z; cases z
structure Ev (C : Ctx) (ρ : En) (n : Nat) (σ : L2.St) (H : Hp) (O : Ow) : Prop where
  len : ρ.length = σ.length
  val : ∀ (i : Nat) (d : D), ρ[i]? = some (some (Sl.v d)) → ∃ v, σ[i]? = some (some v) ∧ Is C.T (hid C O H) v d
  own : ∀ (i : Nat) (d : D), ρ[i]? = some (some (Sl.own d)) → ∃ p, O i = some p ∧ σ[i]? = some (some (.ref p)) ∧ OwnAt C.T (hid C O H) H p d
  only : ∀ (i : Nat) (p : Addr), O i = some p → (∃ d, ρ[i]? = some (some (Sl.own d))) ∧ C.H0 p = none
  inj : ∀ (i j : Nat) (p : Addr), O i = some p → O j = some p → i = j
  zs : ∀ a, C.Z a → ∃ o, C.H0 a = some o
  zt : ∀ a xs, C.Z a → C.H0 a ≠ some (.tup xs)
  keep : ∀ a o, C.H0 a = some o → C.T.bx ≠ some a → H a = some o
  box : ∀ b, C.T.bx = some b → C.Z b ∧ BoxAt H b n
  slf : ∀ (p : Addr), C.slf = some p → ∀ (i : Nat) (q : Addr) (d : D), O i = some q → ρ[i]? = some (some (Sl.own d)) → isObjD d = true → q = p
  vis : Same C.B (hid C O H)
section
variable {C : Ctx} {ρ : En} {n : Nat} {σ : L2.St} {H H' : Hp} {O : Ow}
theorem hid_some {a : Addr} {o : HO} (h : hid C O H a = some o) : H a = some o ∧ ¬ C.Z a ∧ ∀ i, O i ≠ some a := by
  unfold hid at h
  split at h
  · cases h
  · rename_i q
    exact ⟨h, fun z => q (.inl z), fun i z => q (.inr ⟨i, z⟩)⟩
theorem hid_of {a : Addr} {o : HO} (h : H a = some o) (z : ¬ C.Z a) (q : ∀ i, O i ≠ some a) : hid C O H a = some o := by
  unfold hid
  rw [if_neg]
  · exact h
  · rintro (w | ⟨i, w⟩)
    · exact z w
    · exact q i w
theorem hid_le : Same (hid C O H) H := fun a o h => (hid_some h).1
theorem hid_same (s : Same H H') : Same (hid C O H) (hid C O H') := fun a o h => by
  obtain ⟨h1, h2, h3⟩ := hid_some h
  exact hid_of (s _ _ h1) h2 h3
/-- all but the box is kept -/
def Kb (T : Tab) (H H' : Hp) : Prop := ∀ a o, H a = some o → T.bx ≠ some a → H' a = some o
theorem Kb.of_same {T : Tab} (s : Same H H') : Kb T H H' := fun a o h _ => s a o h
theorem Kb.refl {T : Tab} : Kb T H H := fun a o h _ => h
theorem Kb.trans {T : Tab} {H1 H2 H3 : Hp} (a : Kb T H1 H2) (b : Kb T H2 H3) : Kb T H1 H3 := fun x o h n => b x o (a x o h n) n
theorem Ev.nbx (E : Ev C ρ n σ H O) {i : Nat} {p : Addr} (h : O i = some p) : C.T.bx ≠ some p := fun z => by
  have h1 := (E.only i p h).2
  obtain ⟨o, h2⟩ := E.zs p (E.box p z).1
  rw [h1] at h2
  cases h2
theorem Ev.hidKb (E : Ev C ρ n σ H O) (s : Kb C.T H H') : Same (hid C O H) (hid C O H') := fun a o h => by
  obtain ⟨h1, h2, h3⟩ := hid_some h
  exact hid_of (s _ _ h1 fun z => h2 (E.box a z).1) h2 h3
theorem Ev.extB {n' : Nat} (E : Ev C ρ n σ H O) (s : Kb C.T H H') (hb : ∀ b, C.T.bx = some b → BoxAt H' b n') : Ev C ρ n' σ H' O where
  len := E.len
  val := fun i d e => let ⟨v, h1, h2⟩ := E.val i d e; ⟨v, h1, h2.same (E.hidKb s)⟩
  own := fun i d e => by
    obtain ⟨p, h1, h2, h3⟩ := E.own i d e
    obtain ⟨o, ho⟩ := h3.some
    exact ⟨p, h1, h2, h3.same (E.hidKb s) ((s _ _ ho (E.nbx h1)).trans ho.symm)⟩
  only := E.only
  inj := E.inj
  zs := E.zs
  zt := E.zt
  keep := fun a o h z => s _ _ (E.keep a o h z) z
  box := fun b h => ⟨(E.box b h).1, hb b h⟩
  slf := E.slf
  vis := E.vis.trans (E.hidKb s)
theorem BoxAt.same {b : Addr} (h : BoxAt H b n) (s : Same H H') : BoxAt H' b n := let ⟨A, B, C, e, r⟩ := h; ⟨A, B, C, s _ _ e, r⟩
theorem Ev.ext (E : Ev C ρ n σ H O) (s : Same H H') : Ev C ρ n σ H' O := E.extB (Kb.of_same s) fun b h => (E.box b h).2.same s
/-- a new address is nobody's -/
theorem Ev.fresh (E : Ev C ρ n σ H O) {p : Addr} (h : H p = none) : ¬ C.Z p ∧ (∀ i, O i ≠ some p) ∧ C.H0 p = none ∧ C.T.bx ≠ some p := by
  have h3 : C.T.bx ≠ some p := fun z => by
    obtain ⟨_, A, B, D, e, _⟩ := E.box p z
    rw [h] at e
    cases e
  have h4 : C.H0 p = none := by
    cases q : C.H0 p with
    | none => rfl
    | some o =>
      have := E.keep p o q h3
      rw [h] at this
      cases this
  refine ⟨fun z => ?_, fun i z => ?_, h4, h3⟩
  · obtain ⟨o, e⟩ := E.zs p z
    rw [h4] at e
    cases e
  · obtain ⟨⟨d, e⟩, _⟩ := E.only i p z
    obtain ⟨q, h1, _, h5⟩ := E.own i d e
    rw [z] at h1
    cases h1
    obtain ⟨o, ho⟩ := h5.some
    rw [h] at ho
    cases ho
theorem same_new {p : Addr} {o : HO} (h : H p = none) : Same H (upd H p o) := fun b x e => by
  rw [upd_ne (ne_of_none e h)]
  exact e
theorem Ev.new (E : Ev C ρ n σ H O) {p : Addr} {o : HO} (h : H p = none) : Ev C ρ n σ (upd H p o) O ∧ Same (hid C O H) (hid C O (upd H p o)) ∧ hid C O (upd H p o) p = some o := by
  have s := same_new (o := o) h
  obtain ⟨h1, h2, _⟩ := E.fresh h
  exact ⟨E.ext s, hid_same s, hid_of upd_same h1 h2⟩
/-- the slots of values -/
theorem lt_of_get {α : Type} {l : List α} {i : Nat} {x : α} (e : l[i]? = some x) : i < l.length := (List.getElem?_eq_some_iff.mp e).1
open Classical in
noncomputable def cutO (O : Ow) (i : Nat) : Ow := fun j => if j = i then none else O j
theorem cutO_some {i j : Nat} {p : Addr} (h : cutO O i j = some p) : j ≠ i ∧ O j = some p := by
  unfold cutO at h
  split at h
  · cases h
  · rename_i q
    exact ⟨q, h⟩
theorem hid_cut {i : Nat} : Same (hid C O H) (hid C (cutO O i) H) := fun a o h => by
  obtain ⟨h1, h2, h3⟩ := hid_some h
  exact hid_of h1 h2 fun j z => h3 j (cutO_some z).2
/-- a value is stored -/
theorem Ev.set (E : Ev C ρ n σ H O) {i : Nat} {v : V} {d : D} (hd : Is C.T (hid C O H) v d) : Ev C (ρ.set i (some (Sl.v d))) n (σ.set i (some v)) H (cutO O i) ∧ Same (hid C O H) (hid C (cutO O i) H) := by
  refine ⟨⟨?_, ?_, ?_, ?_, ?_, E.zs, E.zt, E.keep, E.box, fun p hp j q d h1 h2 h3 => (by
    obtain ⟨c, h1⟩ := cutO_some h1
    rw [List.getElem?_set_ne (Ne.symm c)] at h2
    exact E.slf p hp j q d h1 h2 h3), E.vis.trans hid_cut⟩, hid_cut⟩
  · rw [List.length_set, List.length_set, E.len]
  · intro j e h
    by_cases c : j = i
    · subst c
      have hl := lt_of_get h
      rw [List.length_set] at hl
      rw [List.getElem?_set_self hl] at h
      cases h
      rw [List.getElem?_set_self (by rw [← E.len]; exact hl)]
      exact ⟨v, rfl, hd.same hid_cut⟩
    · rw [List.getElem?_set_ne (Ne.symm c)] at h ⊢
      obtain ⟨u, h1, h2⟩ := E.val j e h
      exact ⟨u, h1, h2.same hid_cut⟩
  · intro j e h
    by_cases c : j = i
    · subst c
      have hl := lt_of_get h
      rw [List.length_set] at hl
      rw [List.getElem?_set_self hl] at h
      cases h
    · rw [List.getElem?_set_ne (Ne.symm c)] at h ⊢
      obtain ⟨p, h1, h2, h3⟩ := E.own j e h
      refine ⟨p, ?_, h2, h3.same hid_cut rfl⟩
      unfold cutO
      rw [if_neg c]
      exact h1
  · intro j p h
    obtain ⟨c, h⟩ := cutO_some h
    rw [List.getElem?_set_ne (Ne.symm c)]
    exact E.only j p h
  · intro j k p h1 h2
    exact E.inj j k p (cutO_some h1).2 (cutO_some h2).2
/-- a slot is forgotten -/
theorem Ev.wipe1 (E : Ev C ρ n σ H O) (i : Nat) : Ev C (ρ.set i none) n (σ.set i none) H (cutO O i) := by
  refine ⟨?_, ?_, ?_, ?_, ?_, E.zs, E.zt, E.keep, E.box, fun p hp j q d h1 h2 h3 => (by
    obtain ⟨c, h1⟩ := cutO_some h1
    rw [List.getElem?_set_ne (Ne.symm c)] at h2
    exact E.slf p hp j q d h1 h2 h3), E.vis.trans hid_cut⟩
  · rw [List.length_set, List.length_set, E.len]
  · intro j e h
    by_cases c : j = i
    · subst c
      have hl := lt_of_get h
      rw [List.length_set] at hl
      rw [List.getElem?_set_self hl] at h
      cases h
    · rw [List.getElem?_set_ne (Ne.symm c)] at h ⊢
      obtain ⟨u, h1, h2⟩ := E.val j e h
      exact ⟨u, h1, h2.same hid_cut⟩
  · intro j e h
    by_cases c : j = i
    · subst c
      have hl := lt_of_get h
      rw [List.length_set] at hl
      rw [List.getElem?_set_self hl] at h
      cases h
    · rw [List.getElem?_set_ne (Ne.symm c)] at h ⊢
      obtain ⟨p, h1, h2, h3⟩ := E.own j e h
      refine ⟨p, ?_, h2, h3.same hid_cut rfl⟩
      unfold cutO
      rw [if_neg c]
      exact h1
  · intro j p h
    obtain ⟨c, h⟩ := cutO_some h
    rw [List.getElem?_set_ne (Ne.symm c)]
    exact E.only j p h
  · intro j k p h1 h2
    exact E.inj j k p (cutO_some h1).2 (cutO_some h2).2
open Classical in
noncomputable def putO (O : Ow) (i : Nat) (p : Addr) : Ow := fun j => if j = i then some p else O j
theorem putO_some {i j : Nat} {p q : Addr} (h : putO O i p j = some q) : (j = i ∧ q = p) ∨ (j ≠ i ∧ O j = some q) := by
  unfold putO at h
  split at h
  · rename_i c
    exact .inl ⟨c, (Option.some.inj h).symm⟩
  · rename_i c
    exact .inr ⟨c, h⟩
theorem fresh_hid (E : Ev C ρ n σ H O) {p : Addr} {i : Nat} (h : H p = none) (s : Same H H') : Same (hid C O H) (hid C (putO O i p) H') := fun a o e => by
  obtain ⟨h1, h2, h3⟩ := hid_some e
  refine hid_of (s _ _ h1) h2 fun j z => ?_
  rcases putO_some z with ⟨_, e⟩ | ⟨_, e⟩
  · rw [e, h] at h1
    cases h1
  · exact h3 j e
/-- a new thing that this slot alone knows -/
theorem Ev.setOwn (E : Ev C ρ n σ H O) {i : Nat} {p : Addr} {d : D} (hi : i < ρ.length) (hn : H p = none) (s : Same H H') (hd : OwnAt C.T (hid C O H) H' p d) (no : isObjD d = false) :
    Ev C (ρ.set i (some (Sl.own d))) n (σ.set i (some (.ref p))) H' (putO O i p) ∧ Same (hid C O H) (hid C (putO O i p) H') := by
  have S := fresh_hid (i := i) E hn s
  obtain ⟨f1, f2, f3, f4⟩ := E.fresh hn
  refine ⟨⟨?_, ?_, ?_, ?_, ?_, E.zs, E.zt, fun a o h z => s _ _ (E.keep a o h z), fun b h => ⟨(E.box b h).1, (E.box b h).2.same s⟩, fun p' hp j q d' h1 h2 h3 => ?_, E.vis.trans S⟩, S⟩
  · rw [List.length_set, List.length_set, E.len]
  · intro j e h
    by_cases c : j = i
    · subst c
      rw [List.getElem?_set_self hi] at h
      cases h
    · rw [List.getElem?_set_ne (Ne.symm c)] at h ⊢
      obtain ⟨u, h1, h2⟩ := E.val j e h
      exact ⟨u, h1, h2.same S⟩
  · intro j e h
    by_cases c : j = i
    · subst c
      rw [List.getElem?_set_self hi] at h
      cases h
      rw [List.getElem?_set_self (by rw [← E.len]; exact hi)]
      refine ⟨p, ?_, rfl, hd.same S rfl⟩
      unfold putO
      rw [if_pos rfl]
    · rw [List.getElem?_set_ne (Ne.symm c)] at h ⊢
      obtain ⟨q, h1, h2, h3⟩ := E.own j e h
      obtain ⟨o, ho⟩ := h3.some
      refine ⟨q, ?_, h2, h3.same S ((s _ _ ho).trans ho.symm)⟩
      unfold putO
      rw [if_neg c]
      exact h1
  · intro j q h
    rcases putO_some h with ⟨rfl, rfl⟩ | ⟨c, h⟩
    · rw [List.getElem?_set_self hi]
      exact ⟨⟨d, rfl⟩, f3⟩
    · rw [List.getElem?_set_ne (Ne.symm c)]
      exact E.only j q h
  · intro j k q h1 h2
    rcases putO_some h1 with ⟨a1, a2⟩ | ⟨c, a1⟩
    · rcases putO_some h2 with ⟨b1, _⟩ | ⟨_, b1⟩
      · rw [a1, b1]
      · exact absurd (a2 ▸ b1) (f2 k)
    · rcases putO_some h2 with ⟨_, b2⟩ | ⟨_, b1⟩
      · exact absurd (b2 ▸ a1) (f2 j)
      · exact E.inj j k q a1 b1
  · rcases putO_some h1 with ⟨rfl, rfl⟩ | ⟨c, h1⟩
    · rw [List.getElem?_set_self hi] at h2
      cases h2
      rw [no] at h3
      cases h3
    · rw [List.getElem?_set_ne (Ne.symm c)] at h2
      exact E.slf p' hp j q d' h1 h2 h3
/-- the thing of an own slot changes -/
theorem Ev.chg (E : Ev C ρ n σ H O) {i : Nat} {p : Addr} {d : D} {o : HO} (hi : i < ρ.length) (hO : O i = some p) (hd : OwnAt C.T (hid C O H) (upd H p o) p d) (ho : isObjD d = true → ∃ d0, ρ[i]? = some (some (Sl.own d0)) ∧ isObjD d0 = true := by exact fun h => nomatch h) :
    Ev C (ρ.set i (some (Sl.own d))) n σ (upd H p o) O ∧ Same (hid C O H) (hid C O (upd H p o)) := by
  have S : Same (hid C O H) (hid C O (upd H p o)) := fun a u e => by
    obtain ⟨h1, h2, h3⟩ := hid_some e
    refine hid_of ?_ h2 h3
    rw [upd_ne fun z => h3 i (by rw [z]; exact hO)]
    exact h1
  have hs : σ[i]? = some (some (.ref p)) := by
    obtain ⟨d', e⟩ := (E.only i p hO).1
    obtain ⟨q, h1, h2, _⟩ := E.own i d' e
    rw [hO] at h1
    cases h1
    exact h2
  refine ⟨⟨?_, ?_, ?_, ?_, E.inj, E.zs, E.zt, fun a u h z => ?_, fun b h => ⟨(E.box b h).1, ?_⟩, fun p' hp j q d' h1 h2 h3 => ?_, E.vis.trans S⟩, S⟩
  · rw [List.length_set, E.len]
  · intro j e h
    by_cases c : j = i
    · subst c
      rw [List.getElem?_set_self hi] at h
      cases h
    · rw [List.getElem?_set_ne (Ne.symm c)] at h
      obtain ⟨u, h1, h2⟩ := E.val j e h
      exact ⟨u, h1, h2.same S⟩
  · intro j e h
    by_cases c : j = i
    · subst c
      rw [List.getElem?_set_self hi] at h
      cases h
      exact ⟨p, hO, hs, hd.same S rfl⟩
    · rw [List.getElem?_set_ne (Ne.symm c)] at h
      obtain ⟨q, h1, h2, h3⟩ := E.own j e h
      refine ⟨q, h1, h2, h3.same S (upd_ne fun z => c (E.inj j i p (z ▸ h1) hO))⟩
  · intro j q h
    by_cases c : j = i
    · subst c
      rw [List.getElem?_set_self hi]
      exact ⟨⟨d, rfl⟩, (E.only j q h).2⟩
    · rw [List.getElem?_set_ne (Ne.symm c)]
      exact E.only j q h
  · rw [upd_ne fun q => ?_]
    · exact E.keep a u h z
    · rw [q, (E.only i p hO).2] at h
      cases h
  · obtain ⟨A, B, D, e, r⟩ := (E.box b h).2
    refine ⟨A, B, D, ?_, r⟩
    rw [upd_ne fun z => E.nbx hO (h.trans (congrArg some z))]
    exact e
  · by_cases c : j = i
    · subst c
      rw [List.getElem?_set_self hi] at h2
      cases h2
      obtain ⟨d0, e0, e1⟩ := ho h3
      exact E.slf p' hp j q d0 h1 e0 e1
    · rw [List.getElem?_set_ne (Ne.symm c)] at h2
      exact E.slf p' hp j q d' h1 h2 h3
/-- an own slot becomes a value: its list -/
theorem Ev.frz (E : Ev C ρ n σ H O) {i : Nat} {v : V} {d : D} (hi : i < ρ.length) (hs : σ[i]? = some (some v)) (hd : Is C.T (hid C (cutO O i) H) v d) : Ev C (ρ.set i (some (Sl.v d))) n σ H (cutO O i) := by
  refine ⟨?_, ?_, ?_, ?_, ?_, E.zs, E.zt, E.keep, E.box, fun p hp j q d h1 h2 h3 => (by
    obtain ⟨c, h1⟩ := cutO_some h1
    rw [List.getElem?_set_ne (Ne.symm c)] at h2
    exact E.slf p hp j q d h1 h2 h3), E.vis.trans hid_cut⟩
  · rw [List.length_set, E.len]
  · intro j e h
    by_cases c : j = i
    · subst c
      rw [List.getElem?_set_self hi] at h
      cases h
      exact ⟨v, hs, hd⟩
    · rw [List.getElem?_set_ne (Ne.symm c)] at h
      obtain ⟨u, h1, h2⟩ := E.val j e h
      exact ⟨u, h1, h2.same hid_cut⟩
  · intro j e h
    by_cases c : j = i
    · subst c
      rw [List.getElem?_set_self hi] at h
      cases h
    · rw [List.getElem?_set_ne (Ne.symm c)] at h
      obtain ⟨p, h1, h2, h3⟩ := E.own j e h
      refine ⟨p, ?_, h2, h3.same hid_cut rfl⟩
      unfold cutO
      rw [if_neg c]
      exact h1
  · intro j p h
    obtain ⟨c, h⟩ := cutO_some h
    rw [List.getElem?_set_ne (Ne.symm c)]
    exact E.only j p h
  · intro j k p h1 h2
    exact E.inj j k p (cutO_some h1).2 (cutO_some h2).2
/-- a tuple is hidden from nobody -/
theorem Ev.tup (E : Ev C ρ n σ H O) {a : Addr} {xs : List V} (h : H a = some (.tup xs)) : hid C O H a = some (.tup xs) := by
  refine hid_of h (fun z => ?_) fun i z => ?_
  · by_cases c : C.T.bx = some a
    · obtain ⟨A, B, F, e, _⟩ := (E.box a c).2
      rw [h] at e
      cases e
    · obtain ⟨o, ho⟩ := E.zs a z
      have := E.keep a o ho c
      rw [h] at this
      cases this
      exact E.zt a xs z ho
  · obtain ⟨⟨d, e⟩, _⟩ := E.only i a z
    obtain ⟨p, h1, _, h3⟩ := E.own i d e
    rw [z] at h1
    cases h1
    exact h3.notup xs h
end
end RM
namespace RM
open PySem PySem.Spec PyProof.Rows L2 CS RZ
/-! ### readings over data -/
abbrev Xv := Nat × List (D × D)
abbrev KE := Xv → En → Nat → Prop
abbrev CE := En → Nat → (D → En → Nat → Prop) → KE → Prop
abbrev CA := En → Nat → (List D → En → Nat → Prop) → KE → Prop
abbrev CT := En → Nat → (Bool → En → Nat → Prop) → KE → Prop
def XIs (T : Tab) (Hh : Hp) (dd : Option Addr) (fs : List (D × D)) : Prop := (dd = none ∧ fs = []) ∨ ∃ a us, dd = some a ∧ Hh a = some (.xd us) ∧ IsF T Hh us fs
theorem XIs.same {T : Tab} {H H' : Hp} {dd : Option Addr} {fs : List (D × D)} (h : XIs T H dd fs) (s : Same H H') : XIs T H' dd fs := by
  rcases h with h | ⟨a, us, e, h1, h2⟩
  · exact .inl h
  · exact .inr ⟨a, us, e, s _ _ h1, h2.same s⟩
def XL (C : Ctx) (xk : WX) (ke : KE) : Prop := ∀ (c : Nat) (fs : List (D × D)) (ρ : En) (n : Nat) (σ : L2.St) (H : Hp) (O : Ow) (dd : Option Addr), ke (c, fs) ρ n → Ev C ρ n σ H O → XIs C.T (hid C O H) dd fs → xk (.ref (C.T.cls c)) dd σ H
/-- the written part and the classes by number -/
structure Glob where
  K : PySem.W.Frag
  cls : Nat → Addr
def Ctx.On (C : Ctx) (g : Glob) : Prop := C.T.K = g.K ∧ C.T.cls = g.cls
def xF : WX := fun _ _ _ _ => False
def lift (g : Glob) (xk : WX) (td : CE) : TE := fun σ H Q => ∃ (C : Ctx) (ρ : En) (n : Nat) (O : Ow) (k : D → En → Nat → Prop) (ke : KE), C.On g ∧ Ev C ρ n σ H O ∧ td ρ n k ke ∧ XL C xk ke ∧
  ∀ (d : D) (ρ' : En) (n' : Nat) (v : V) (H' : Hp) (O' : Ow), k d ρ' n' → Ev C ρ' n' σ H' O' → Same (hid C O H) (hid C O' H') → Is C.T (hid C O' H') v d → Q v H'
def liftT (g : Glob) (xk : WX) (td : CT) : TT := fun σ H Q => ∃ (C : Ctx) (ρ : En) (n : Nat) (O : Ow) (k : Bool → En → Nat → Prop) (ke : KE), C.On g ∧ Ev C ρ n σ H O ∧ td ρ n k ke ∧ XL C xk ke ∧
  ∀ (b : Bool) (ρ' : En) (n' : Nat) (H' : Hp) (O' : Ow), k b ρ' n' → Ev C ρ' n' σ H' O' → Same (hid C O H) (hid C O' H') → Q b H'
def liftA (g : Glob) (xk : WX) (td : CA) : TA := fun σ H Q => ∃ (C : Ctx) (ρ : En) (n : Nat) (O : Ow) (k : List D → En → Nat → Prop) (ke : KE), C.On g ∧ Ev C ρ n σ H O ∧ td ρ n k ke ∧ XL C xk ke ∧
  ∀ (ds : List D) (ρ' : En) (n' : Nat) (vs : List V) (H' : Hp) (O' : Ow), k ds ρ' n' → Ev C ρ' n' σ H' O' → Same (hid C O H) (hid C O' H') → IsL C.T (hid C O' H') vs ds → Q vs H'
/-- a new thing at p, of which nobody else knows -/
def liftF (g : Glob) (xk : WX) (td : CE) : TE := fun σ H Q => ∃ (C : Ctx) (ρ : En) (n : Nat) (O : Ow) (k : D → En → Nat → Prop) (ke : KE), C.On g ∧ Ev C ρ n σ H O ∧ td ρ n k ke ∧ XL C xk ke ∧
  ∀ (d : D) (ρ' : En) (n' : Nat) (p : Addr) (H1 H' : Hp) (O' : Ow), k d ρ' n' → Ev C ρ' n' σ H1 O' → Same (hid C O H) (hid C O' H1) → H1 p = none → Same H1 H' → OwnAt C.T (hid C O' H1) H' p d → isObjD d = false → Q (.ref p) H'
structure Good (X : Cx) (g : Glob) : Prop where
  K : g.K = X.K
structure PD (X : Cx) (g : Glob) (xk : WX) (e : Expr) (td : CE) : Prop where
  pe : PE X e (lift g xk td)
structure PDT (X : Cx) (g : Glob) (xk : WX) (e : Expr) (td : CT) : Prop where
  pt : PT X e (liftT g xk td)
structure PDA (X : Cx) (g : Glob) (xk : WX) (es : List Expr) (td : CA) : Prop where
  pa : PA X es (liftA g xk td)
structure PDF (X : Cx) (g : Glob) (xk : WX) (e : Expr) (td : CE) : Prop where
  pe : PE X e (liftF g xk td)
theorem PE.imp {X : Cx} {e : Expr} {t t' : TE} (h : PE X e t) (q : ∀ σ H Q, t' σ H Q → t σ H Q) : PE X e t' := ⟨fun pins s σ H Q I r => h.run pins s σ H Q I (q _ _ _ r)⟩
theorem PT.imp {X : Cx} {e : Expr} {t t' : TT} (h : PT X e t) (q : ∀ σ H Q, t' σ H Q → t σ H Q) : PT X e t' := ⟨fun pins s σ H Q I r => h.run pins s σ H Q I (q _ _ _ r)⟩
theorem PA.imp {X : Cx} {e : List Expr} {t t' : TA} (h : PA X e t) (q : ∀ σ H Q, t' σ H Q → t σ H Q) : PA X e t' := ⟨fun pos pins s σ H Q I r => h.run pos pins s σ H Q I (q _ _ _ r)⟩
theorem Dp.len {K : PySem.W.Frag} {H : Hp} : True := trivial
def lim : Nat := 100000
theorem lim_le {n : Nat} (h : n ≤ lim) : n ≤ sizeLine := Nat.le_trans h (by decide)
theorem lim_lt {n : Nat} (h : n < lim) : n < sizeLine := Nat.lt_of_lt_of_le h (by decide)
section
variable {X : Cx} {g : Glob} {C : Ctx} {xk : WX} {pos : Pos}
/-! ### names -/
def cVar (i : Nat) : CE := fun ρ n k _ => match ρ[i]? with
  | some (some (Sl.v d)) => k d ρ n
  | some (some (Sl.own d)) => k d (ρ.set i (some (Sl.v d))) n
  | _ => False
theorem same_at {ρ : En} {n : Nat} {σ : L2.St} {H : Hp} {O : Ow} {i : Nat} {p : Addr} {u : HO} (E : Ev C ρ n σ H O) (hO : O i = some p) : Same (hid C O H) (hid C O (upd H p u)) := fun a o w => by
  obtain ⟨w1, w2, w3⟩ := hid_some w
  have ne : a ≠ p := fun z => w3 i (z ▸ hO)
  refine hid_of ?_ w2 w3
  rw [upd_ne ne]
  exact w1
theorem melt2 {ρ : En} {n : Nat} {σ : L2.St} {H : Hp} {O : Ow} {i : Nat} {p : Addr} {d d0 : D} {u : HO} (E : Ev C ρ n σ H O) (e : ρ[i]? = some (some (Sl.own d0))) (hO : O i = some p) (hs : σ[i]? = some (some (.ref p))) (is : Is C.T (hid C (cutO O i) (upd H p u)) (.ref p) d) :
    Ev C (ρ.set i (some (Sl.v d))) n σ (upd H p u) (cutO O i) ∧ Same (hid C O H) (hid C (cutO O i) (upd H p u)) := by
  have hi := lt_of_get e
  have S1 := same_at (u := u) E hO
  refine ⟨⟨?_, ?_, ?_, ?_, ?_, E.zs, E.zt, ?_, ?_, fun p hp j q d h1 h2 h3 => (by
    obtain ⟨c, h1⟩ := cutO_some h1
    rw [List.getElem?_set_ne (Ne.symm c)] at h2
    exact E.slf p hp j q d h1 h2 h3), E.vis.trans (S1.trans hid_cut)⟩, S1.trans hid_cut⟩
  · rw [List.length_set, E.len]
  · intro j d' h
    by_cases c : j = i
    · subst c
      rw [List.getElem?_set_self hi] at h
      cases h
      exact ⟨_, hs, is⟩
    · rw [List.getElem?_set_ne (Ne.symm c)] at h
      obtain ⟨v, a1, a2⟩ := E.val j d' h
      exact ⟨v, a1, (a2.same S1).same hid_cut⟩
  · intro j d' h
    by_cases c : j = i
    · subst c
      rw [List.getElem?_set_self hi] at h
      cases h
    · rw [List.getElem?_set_ne (Ne.symm c)] at h
      obtain ⟨q, a1, a2, a3⟩ := E.own j d' h
      have ne : q ≠ p := fun z => c (E.inj j i p (z ▸ a1) hO)
      refine ⟨q, ?_, a2, (a3.same S1 (upd_ne ne)).same hid_cut rfl⟩
      unfold cutO
      rw [if_neg c]
      exact a1
  · intro j q h
    obtain ⟨c, h⟩ := cutO_some h
    rw [List.getElem?_set_ne (Ne.symm c)]
    exact E.only j q h
  · intro j k q h1 h2
    exact E.inj j k q (cutO_some h1).2 (cutO_some h2).2
  · intro a o h z
    have ne : a ≠ p := fun q => by
      rw [q, (E.only i p hO).2] at h
      cases h
    rw [upd_ne ne]
    exact E.keep a o h z
  · intro b h
    obtain ⟨A, B, F, e', r'⟩ := (E.box b h).2
    have ne : b ≠ p := fun q => E.nbx hO (h.trans (congrArg some q))
    exact ⟨(E.box b h).1, A, B, F, by rw [upd_ne ne]; exact e', r'⟩
/-- what was a frame's own turns into a value: dicts are locked -/
theorem melt {pins : List (Addr × Obj)} {ρ : En} {n : Nat} {σ : L2.St} {H : Hp} {O : Ow} {s : Shared} {i : Nat} {p : Addr} {d : D} (E : Ev C ρ n σ H O) (I : Inv X pins σ H s) (e : ρ[i]? = some (some (Sl.own d))) (hO : O i = some p) :
    ∃ H', Inv X pins σ H' s ∧ Ev C (ρ.set i (some (Sl.v d))) n σ H' (cutO O i) ∧ Same (hid C O H) (hid C (cutO O i) H') ∧ Is C.T (hid C (cutO O i) H') (.ref p) d ∧ σ[i]? = some (some (.ref p)) := by
  obtain ⟨q, h1, h2, h3⟩ := E.own i d e
  rw [hO] at h1
  cases h1
  have hi := lt_of_get e
  have pz : ¬ C.Z p := fun z => by
    obtain ⟨o, u⟩ := E.zs p z
    rw [(E.only i p hO).2] at u
    cases u
  have pn : ∀ j, cutO O i j ≠ some p := fun j z => by
    obtain ⟨c, z⟩ := cutO_some z
    exact c (E.inj j i p z hO)
  cases h3 with
  | lst g r =>
    have is : Is C.T (hid C (cutO O i) H) (.ref p) (.list _) := .lst (hid_of g pz pn) (r.same hid_cut)
    exact ⟨H, I, E.frz hi h2 is, hid_cut, is, h2⟩
  | @obj dx c us fs g g2 r =>
    have is : Is C.T (hid C (cutO O i) H) (.ref p) (.dict ((.none, .int (c : Nat)) :: fs)) := .obj (hid_of g pz pn) (hid_cut _ _ g2) (r.same hid_cut)
    exact ⟨H, I, E.frz hi h2 is, hid_cut, is, h2⟩
  | @dk kvs ks g r =>
    obtain ⟨od, J⟩ := I.lock g trivial
    have is : Is C.T (hid C (cutO O i) (upd H p (.frz od (.dK kvs)))) (.ref p) (.dict ((.none, .bool false) :: ks)) := .dk (.inr ⟨od, hid_of upd_same pz pn⟩) ((r.same (same_at E hO)).same hid_cut)
    obtain ⟨a, b⟩ := melt2 E e hO h2 is
    exact ⟨_, J, a, b, is, h2⟩
  | @dt kvs ks g r =>
    obtain ⟨od, J⟩ := I.lock g trivial
    have is : Is C.T (hid C (cutO O i) (upd H p (.frz od (.dT kvs)))) (.ref p) (.dict ((.none, .bool true) :: ks)) := .dt (.inr ⟨od, hid_of upd_same pz pn⟩) ((r.same (same_at E hO)).same hid_cut)
    obtain ⟨a, b⟩ := melt2 E e hO h2 is
    exact ⟨_, J, a, b, is, h2⟩
theorem pd_var (i : Nat) {x : Str} (hN : X.N[i]? = some x := by rfl) (hv : Vis X.env.scope x := by first | exact Or.inl rfl | exact Or.inr (Or.inl rfl) | exact Or.inr (Or.inr rfl)) (hd : (x == ("__debug__" : Str)) = false := by decide)
    (hcd : (x == ("__classdict__" : Str)) = false := by decide) : PD X g xk (.Name x pos) (cVar i) := by
  refine ⟨⟨fun pins s σ H Q I h => ?_⟩⟩
  obtain ⟨C, ρ, n, O, k, ke, hK, E, t, _, q⟩ := h
  unfold cVar at t
  split at t
  · rename_i d e
    obtain ⟨v, h1, h2⟩ := E.val i d e
    exact (pe_var hN hv hd hcd).run pins s σ H Q I ⟨v, h1, q _ _ _ _ _ _ t E (Same.refl _) h2⟩
  · rename_i d e
    obtain ⟨p, h1, _⟩ := E.own i d e
    obtain ⟨H', J, E', S, is, hs⟩ := melt E I e h1
    exact (pe_var hN hv hd hcd).run pins s σ H' Q J ⟨_, hs, q _ _ _ _ _ _ t E' S is⟩
  · exact t.elim
/-! ### constants -/
def cC (d : D) : CE := fun ρ n k _ => k d ρ n
theorem pd_c {e : Expr} {v : V} {d : D} (h : PE X e (tC v)) (hd : ∀ T H, Is T H v d) : PD X g xk e (cC d) := ⟨PE.imp h fun σ H Q ⟨C, ρ, n, O, k, ke, hK, E, t, _, q⟩ => q _ _ _ _ _ _ t E (Same.refl _) (hd _ _)⟩
theorem pd_int {i : Int} {j} : PD X g xk (.Constant (.int i) j pos) (cC (.int i)) := pd_c pe_int fun _ _ => .int i
theorem pd_str {i : Str} {j} : PD X g xk (.Constant (.str i) j pos) (cC (.str i)) := pd_c pe_str fun _ _ => .str i
theorem pd_bl {i : Bool} {j} : PD X g xk (.Constant (.bool i) j pos) (cC (.bool i)) := pd_c pe_bl fun _ _ => .bl i
theorem pd_non {j} : PD X g xk (.Constant .none j pos) (cC .none) := pd_c pe_non fun _ _ => .non
/-! ### lists of expressions, displays -/
def cNil : CA := fun ρ n k _ => k [] ρ n
def cCons (t : CE) (u : CA) : CA := fun ρ n k ke => t ρ n (fun d ρ1 n1 => u ρ1 n1 (fun ds ρ2 n2 => k (d :: ds) ρ2 n2) ke) ke
theorem pda_nil : PDA X g xk [] cNil := ⟨PA.imp pa_nil fun σ H Q ⟨C, ρ, n, O, k, ke, hK, E, t, _, q⟩ => q _ _ _ _ _ _ t E (Same.refl _) .nil⟩
theorem pda_cons {e : Expr} {es : List Expr} {t : CE} {u : CA} (ha : PD X g xk e t) (hr : PDA X g xk es u) (hs : starEach (e :: es) X.env = (false, eval e X.env) :: starEach es X.env := by rfl) : PDA X g xk (e :: es) (cCons t u) :=
  ⟨PA.imp (pa_cons ha.pe hr.pa hs) fun σ H Q ⟨C, ρ, n, O, k, ke, hK, E, t, x, q⟩ => ⟨C, ρ, n, O, _, ke, hK, E, t, x, fun d ρ1 n1 v H1 O1 k1 E1 S1 i1 => ⟨C, ρ1, n1, O1, _, ke, hK, E1, k1, x, fun ds ρ2 n2 vs H2 O2 k2 E2 S2 i2 =>
    q _ _ _ _ _ _ k2 E2 (S1.trans S2) (.cons (i1.same S2) i2)⟩⟩⟩
def cTup (ta : CA) : CE := fun ρ n k ke => ta ρ n (fun ds ρ' n' => ds.length ≤ lim ∧ k (.tuple ds) ρ' n') ke
def cLst (ta : CA) : CE := fun ρ n k ke => ta ρ n (fun ds ρ' n' => ds.length ≤ lim ∧ k (.list ds) ρ' n') ke
theorem pd_tup {es : List Expr} {ta : CA} {x1} (h : PDA X g xk es ta) : PD X g xk (.Tuple es x1 pos) (cTup ta) :=
  ⟨PE.imp (pe_tup h.pa) fun σ H Q ⟨C, ρ, n, O, k, ke, hK, E, t, x, q⟩ => ⟨C, ρ, n, O, _, ke, hK, E, t, x, fun ds ρ1 n1 vs H1 O1 k1 E1 S1 i1 => ⟨by rw [i1.length]; exact lim_le k1.1, fun p hp => by
    obtain ⟨a, b, c⟩ := E1.new (o := .tup vs) hp
    exact q _ _ _ _ _ _ k1.2 a (S1.trans b) (.tup (.inl (.inl c)) (i1.same b))⟩⟩⟩
theorem pf_lst {es : List Expr} {ta : CA} (h : PDA X g xk es ta) : PDF X g xk (.List es pos) (cLst ta) :=
  ⟨PE.imp (pe_lst h.pa) fun σ H Q ⟨C, ρ, n, O, k, ke, hK, E, t, x, q⟩ => ⟨C, ρ, n, O, _, ke, hK, E, t, x, fun ds ρ1 n1 vs H1 O1 k1 E1 S1 i1 => ⟨by rw [i1.length]; exact lim_le k1.1, fun p hp =>
    q _ _ _ _ _ _ _ k1.2 E1 S1 hp (same_new hp) (.lst upd_same i1) rfl⟩⟩⟩
/-- a new thing used as a value -/
theorem PDF.pd {e : Expr} {td : CE} (h : PDF X g xk e td) (nd : True := trivial) : PD X g xk e td := by
  refine ⟨⟨fun pins s σ H Q I r => ?_⟩⟩
  obtain ⟨C, ρ, n, O, k, ke, hK, E, t, x, q⟩ := r
  refine thn (h.pe.run pins s σ H (fun v H' => ∃ (d : D) (ρ' : En) (n' : Nat) (p : Addr) (H1 : Hp) (O' : Ow), v = .ref p ∧ k d ρ' n' ∧ Ev C ρ' n' σ H1 O' ∧ Same (hid C O H) (hid C O' H1) ∧ H1 p = none ∧ Same H1 H' ∧ OwnAt C.T (hid C O' H1) H' p d) I
    ⟨C, ρ, n, O, k, ke, hK, E, t, x, fun d ρ' n' p H1 H' O' a b c d' e f _ => ⟨d, ρ', n', p, H1, O', rfl, a, b, c, d', e, f⟩⟩) fun u s' ⟨v, H', J, rv, d, ρ', n', p, H1, O', ev, kk, E', S, hn, s1, ow⟩ => ?_
  subst ev
  obtain ⟨f1, f2, _, _⟩ := E'.fresh hn
  cases ow with
  | lst g r => exact ⟨_, _, J, rv, q _ _ _ _ _ _ kk (E'.ext s1) (S.trans (hid_same s1)) (.lst (hid_of g f1 f2) (r.same (hid_same s1)))⟩
  | obj g g2 r => exact ⟨_, _, J, rv, q _ _ _ _ _ _ kk (E'.ext s1) (S.trans (hid_same s1)) (.obj (hid_of g f1 f2) (hid_same s1 _ _ g2) (r.same (hid_same s1)))⟩
  | @dk kvs ks g r =>
    obtain ⟨od, J2⟩ := J.lock g trivial
    have s2 : Same H1 (upd H' p (.frz od (.dK kvs))) := fun b o w => by
      rw [upd_ne (ne_of_none w hn)]
      exact s1 _ _ w
    exact ⟨_, _, J2, rv, q _ _ _ _ _ _ kk (E'.ext s2) (S.trans (hid_same s2)) (.dk (.inr ⟨od, hid_of upd_same f1 f2⟩) (r.same (hid_same s2)))⟩
  | @dt kvs ks g r =>
    obtain ⟨od, J2⟩ := J.lock g trivial
    have s2 : Same H1 (upd H' p (.frz od (.dT kvs))) := fun b o w => by
      rw [upd_ne (ne_of_none w hn)]
      exact s1 _ _ w
    exact ⟨_, _, J2, rv, q _ _ _ _ _ _ kk (E'.ext s2) (S.trans (hid_same s2)) (.dt (.inr ⟨od, hid_of upd_same f1 f2⟩) (r.same (hid_same s2)))⟩
theorem pd_lst {es : List Expr} {ta : CA} (h : PDA X g xk es ta) : PD X g xk (.List es pos) (cLst ta) := (pf_lst h).pd
/-! ### operators -/
/-- the result's own objects are new -/
def NewQ (T : Tab) (Hh H : Hp) (z : D) (Q : VK) : Prop := ∀ (v : V) (H' : Hp), Same H H' → (∀ Hx, Same Hh Hx → (∀ a o, H' a = some o → H a = none → Hx a = some o) → Is T Hx v z) → Q v H'
theorem NewQ.flat {T : Tab} {Hh H : Hp} {z : D} {Q : VK} {v : V} (h : NewQ T Hh H z Q) (i : ∀ Hx, Is T Hx v z) : Q v H := h v H (Same.refl _) fun Hx _ _ => i Hx
def OpD (X : Cx) (f : Value → Value → Sem Value) (g : D → D → Option D) : Prop := ∃ r, OpR X f r ∧ ∀ (T : Tab) (Hh H : Hp) (x y : V) (dx dy z : D) (Q : VK), T.K = X.K → Same Hh H → Is T Hh x dx → Is T Hh y dy → g dx dy = some z → NewQ T Hh H z Q → r x y H Q
def cOp (g : D → D → Option D) (ta tb : CE) : CE := fun ρ n k ke => ta ρ n (fun x ρ1 n1 => tb ρ1 n1 (fun y ρ2 n2 => ∃ z, g x y = some z ∧ k z ρ2 n2) ke) ke
theorem newq {ρ : En} {n : Nat} {σ : L2.St} {H : Hp} {O : Ow} {z : D} {Q : VK} (E : Ev C ρ n σ H O) (h : ∀ (v : V) (H' : Hp), Ev C ρ n σ H' O → Same (hid C O H) (hid C O H') → Is C.T (hid C O H') v z → Q v H') : NewQ C.T (hid C O H) H z Q := fun v H' s i =>
  h v H' (E.ext s) (hid_same s) (i _ (hid_same s) fun a o e1 e2 => let ⟨f1, f2, _, _⟩ := E.fresh e2; hid_of e1 f1 f2)
theorem op_use {f : Value → Value → Sem Value} {u : D → D → Option D} {ta tb : CE} {r : R2} (G : Good X g) (hg : ∀ (T : Tab) (Hh H : Hp) (x y : V) (dx dy z : D) (Q : VK), T.K = X.K → Same Hh H → Is T Hh x dx → Is T Hh y dy → u dx dy = some z → NewQ T Hh H z Q → r x y H Q)
    {σ : L2.St} {H : Hp} {Q : VK} (h : lift g xk (cOp u ta tb) σ H Q) : tOp r (lift g xk ta) (lift g xk tb) σ H Q := by
  obtain ⟨C, ρ, n, O, k, ke, hK, E, t, x, q⟩ := h
  refine ⟨C, ρ, n, O, _, ke, hK, E, t, x, fun d ρ1 n1 v H1 O1 k1 E1 S1 i1 => ⟨C, ρ1, n1, O1, _, ke, hK, E1, k1, x, fun d2 ρ2 n2 v2 H2 O2 k2 E2 S2 i2 => ?_⟩⟩
  obtain ⟨z, hz, k2⟩ := k2
  exact hg C.T (hid C O2 H2) H2 v v2 d d2 z Q (hK.1.trans G.K) hid_le (i1.same S2) i2 hz (newq E2 fun v3 H3 E3 S3 i3 => q _ _ _ _ _ _ k2 E3 ((S1.trans S2).trans S3) i3)
theorem pd_op {op : Operator} {u : D → D → Option D} {a b : Expr} {ta tb : CE} (ho : OpD X (binaryOp op) u) (G : Good X g) (ha : PD X g xk a ta) (hb : PD X g xk b tb) : PD X g xk (.BinOp a op b pos) (cOp u ta tb) := by
  obtain ⟨r, hr, hg⟩ := ho
  exact ⟨PE.imp (pe_op hr ha.pe hb.pe) fun σ H Q h => op_use (f := binaryOp op) G hg h⟩
theorem pd_cmp {op : CmpOp} {u : D → D → Option D} {a b : Expr} {ta tb : CE} (ho : OpD X (compareOp op) u) (G : Good X g) (ha : PD X g xk a ta) (hb : PD X g xk b tb) (hm : behindInMarks op b = false) : PD X g xk (.Compare a [op] [b] pos) (cOp u ta tb) := by
  obtain ⟨r, hr, hg⟩ := ho
  exact ⟨PE.imp (pe_cmpR hr ha.pe hb.pe hm) fun σ H Q h => op_use (f := compareOp op) G hg h⟩
/-! ### tests -/
def isB : D → Option Bool
  | .bool b => some b
  | _ => none
/-- the truth of a value -/
def cB (t : CE) : CT := fun ρ n k ke => t ρ n (fun d ρ' n' => ∃ b, d = .bool b ∧ k b ρ' n') ke
theorem isBl {T : Tab} {H : Hp} {v : V} {b : Bool} (h : Is T H v (.bool b)) : v = .bl b := by
  cases h
  rfl
theorem pdt_cmp {op : CmpOp} {u : D → D → Option D} {a b : Expr} {ta tb : CE} (ho : OpD X (compareOp op) u) (G : Good X g) (ha : PD X g xk a ta) (hb : PD X g xk b tb) (hm : behindInMarks op b = false) : PDT X g xk (.Compare a [op] [b] pos) (cB (cOp u ta tb)) := by
  obtain ⟨r, hr, hg⟩ := ho
  refine ⟨PT.imp (pt_cmpR hr ha.pe hb.pe hm) fun σ H Q h => ?_⟩
  obtain ⟨C, ρ, n, O, k, ke, hK, E, t, x, q⟩ := h
  refine op_use (f := compareOp op) G hg ⟨C, ρ, n, O, _, ke, hK, E, t, x, fun d ρ1 n1 v H1 O1 k1 E1 S1 i1 => ?_⟩
  obtain ⟨b, rfl, k1⟩ := k1
  exact ⟨b, isBl i1, q _ _ _ _ _ k1 E1 S1⟩
theorem pdt_val {e : Expr} {t : CE} (h : PD X g xk e t) (he : ∀ whole, isTrue e X.env whole = (do let v ← whole; standAt e.pos; holding [v] (truthy v)) := by intro _; rfl) : PDT X g xk e (cB t) := by
  refine ⟨PT.imp (pt_val h.pe he) fun σ H Q r => ?_⟩
  obtain ⟨C, ρ, n, O, k, ke, hK, E, t, x, q⟩ := r
  refine ⟨C, ρ, n, O, _, ke, hK, E, t, x, fun d ρ1 n1 v H1 O1 k1 E1 S1 i1 => ?_⟩
  obtain ⟨b, rfl, k1⟩ := k1
  have e := isBl i1
  subst e
  exact ⟨b, rfl, q _ _ _ _ _ k1 E1 S1⟩
def cNotT (t : CT) : CT := fun ρ n k ke => t ρ n (fun b ρ' n' => k (!b) ρ' n') ke
theorem pdt_not {e : Expr} {t : CT} (h : PDT X g xk e t) : PDT X g xk (.UnaryOp .Not e pos) (cNotT t) :=
  ⟨PT.imp (pt_not h.pt) fun σ H Q ⟨C, ρ, n, O, k, ke, hK, E, t, x, q⟩ => ⟨C, ρ, n, O, _, ke, hK, E, t, x, fun b ρ1 n1 H1 O1 k1 E1 S1 => q _ _ _ _ _ k1 E1 S1⟩⟩
def cIf (tc : CT) (ta tb : CE) : CE := fun ρ n k ke => tc ρ n (fun b ρ' n' => if b = true then ta ρ' n' k ke else tb ρ' n' k ke) ke
theorem pd_if {c a b : Expr} {tc : CT} {ta tb : CE} (hc : PDT X g xk c tc) (ha : PD X g xk a ta) (hb : PD X g xk b tb) : PD X g xk (.IfExp c a b pos) (cIf tc ta tb) := by
  refine ⟨PE.imp (pe_ifExp hc.pt ha.pe hb.pe) fun σ H Q r => ?_⟩
  obtain ⟨C, ρ, n, O, k, ke, hK, E, t, x, q⟩ := r
  refine ⟨C, ρ, n, O, _, ke, hK, E, t, x, fun b ρ1 n1 H1 O1 k1 E1 S1 => ?_⟩
  cases b with
  | true => exact ⟨C, ρ1, n1, O1, k, ke, hK, E1, k1, x, fun d ρ2 n2 v H2 O2 k2 E2 S2 i2 => q _ _ _ _ _ _ k2 E2 (S1.trans S2) i2⟩
  | false => exact ⟨C, ρ1, n1, O1, k, ke, hK, E1, k1, x, fun d ρ2 n2 v H2 O2 k2 E2 S2 i2 => q _ _ _ _ _ _ k2 E2 (S1.trans S2) i2⟩
end
end RM
namespace RM
open PySem PySem.Spec PyProof.Rows L2 CS RZ
/-! ### what the operators make of data -/
def addD : D → D → Option D
  | .int i, .int j => some (.int (i + j))
  | .str a, .str b => if a.length + b.length ≤ lim then some (.str (a ++ b)) else none
  | .list a, .list b => if a.length + b.length ≤ lim then some (.list (a ++ b)) else none
  | .tuple a, .tuple b => if a.length + b.length ≤ lim then some (.tuple (a ++ b)) else none
  | _, _ => none
def subD : D → D → Option D
  | .int i, .int j => some (.int (i - j))
  | _, _ => none
def mulD : D → D → Option D
  | .int i, .int j => if (-(2 ^ 64) < i ∧ i < 2 ^ 64) ∨ (-(2 ^ 64) < j ∧ j < 2 ^ 64) then some (.int (i * j)) else none
  | _, _ => none
def divD : D → D → Option D
  | .int i, .int j => if 0 < j ∧ j < 1073741824 then some (.int (i / j)) else none
  | _, _ => none
def modD : D → D → Option D
  | .int i, .int j => if 0 < j then some (.int (i % j)) else none
  | _, _ => none
def powD : D → D → Option D
  | .int i, .int j => if 0 ≤ j ∧ j ≤ 1000000 ∧ i.natAbs < 2 ^ 64 then some (.int (i ^ j.toNat)) else none
  | _, _ => none
/-- what may be compared as data -/
def okE (d : D) : Bool := plain d && SeqAt.shaped d
def eqD (x y : D) : Option D := if (okE x && okE y) = true then some (.bool (PyData.eqv x y)) else none
def neD (x y : D) : Option D := if (okE x && okE y) = true then some (.bool (!PyData.eqv x y)) else none
def ltD : D → D → Option D
  | .int i, .int j => some (.bool (decide (i < j)))
  | .str i, .str j => some (.bool (decide (i.cps.toList < j.cps.toList)))
  | _, _ => none
def leD : D → D → Option D
  | .int i, .int j => some (.bool (decide (i ≤ j)))
  | _, _ => none
def gtD : D → D → Option D
  | .int i, .int j => some (.bool (decide (j < i)))
  | .str i, .str j => some (.bool (decide (j.cps.toList < i.cps.toList)))
  | _, _ => none
def geD : D → D → Option D
  | .int i, .int j => some (.bool (decide (j ≤ i)))
  | _, _ => none
def noneB : D → Bool
  | .none => true
  | _ => false
def isN (x y : D) : Option D := if noneB y = true then some (.bool (noneB x)) else none
def isNN (x y : D) : Option D := if noneB y = true then some (.bool (!noneB x)) else none
/-- the keys of a marked dict -/
def keyD (ks : List (D × D)) (x : D) : Option D := (ks.find? fun kv => PyData.eqv kv.1 x).map (·.2)
def anyD (ds : List D) (x : D) : Bool := ds.any fun z => PyData.eqv z x
def memD (x : D) : D → Option Bool
  | .list ds => if (okE x && okE (.list ds)) = true then some (anyD ds x) else none
  | .tuple ds => if (okE x && okE (.tuple ds)) = true then some (anyD ds x) else none
  | _ => none
def inD (x y : D) : Option D := (memD x y).map .bool
def ninD (x y : D) : Option D := (memD x y).map fun b => .bool (!b)
section
variable {X : Cx}
theorem ifs {c : Prop} [Decidable c] {α : Type} {a b : α} (h : (if c then some a else none) = some b) : c ∧ a = b := by
  split at h
  · rename_i q
    exact ⟨q, Option.some.inj h⟩
  · cases h
theorem Is.int' {T : Tab} {H : Hp} {v : V} {i : Int} (h : Is T H v (.int i)) : v = .int i := by cases h; rfl
theorem Is.str' {T : Tab} {H : Hp} {v : V} {i : Str} (h : Is T H v (.str i)) : v = .str i := by cases h; rfl
theorem Is.list' {T : Tab} {H : Hp} {v : V} {ds : List D} (h : Is T H v (.list ds)) : ∃ a xs, v = .ref a ∧ H a = some (.lst xs) ∧ IsL T H xs ds := by
  cases h with
  | lst g r => exact ⟨_, _, rfl, g, r⟩
theorem Is.tup' {T : Tab} {H : Hp} {v : V} {ds : List D} (h : Is T H v (.tuple ds)) : ∃ a xs, v = .ref a ∧ SqT T.K H a xs ∧ IsL T H xs ds := by
  cases h with
  | tup g r => exact ⟨_, _, rfl, g, r⟩
theorem newL {T : Tab} {Hh H : Hp} {ds : List D} {xs : List V} {Q : VK} (q : NewQ T Hh H (.list ds) Q) (i : IsL T Hh xs ds) : ∀ p, H p = none → Q (.ref p) (upd H p (.lst xs)) := fun p hp =>
  q _ _ (same_new hp) fun Hx s1 s2 => .lst (s2 _ _ upd_same hp) (i.same s1)
theorem newT {T : Tab} {Hh H : Hp} {ds : List D} {xs : List V} {Q : VK} (q : NewQ T Hh H (.tuple ds) Q) (i : IsL T Hh xs ds) : ∀ p, H p = none → Q (.ref p) (upd H p (.tup xs)) := fun p hp =>
  q _ _ (same_new hp) fun Hx s1 s2 => .tup (.inl (.inl (s2 _ _ upd_same hp))) (i.same s1)
theorem oldV {T : Tab} {Hh H : Hp} {d : D} {v : V} {Q : VK} (q : NewQ T Hh H d Q) (i : Is T Hh v d) : Q v H := q _ _ (Same.refl _) fun Hx s1 _ => i.same s1
theorem od_add : OpD X (binaryOp .Add) addD := by
  refine ⟨_, op_add.or (op_add_str.or (op_cat.or op_catA)), fun T Hh H x y dx dy z Q hK s ix iy hg q => ?_⟩
  unfold addD at hg
  split at hg
  · cases hg
    rw [ix.int', iy.int']
    exact .inl ⟨_, _, rfl, rfl, q.flat fun _ => .int _⟩
  · obtain ⟨c, rfl⟩ := ifs hg
    rw [ix.str', iy.str']
    exact .inr (.inl ⟨_, _, rfl, rfl, lim_le c, q.flat fun _ => .str _⟩)
  · obtain ⟨c, rfl⟩ := ifs hg
    obtain ⟨a, xs, rfl, ha, ra⟩ := ix.list'
    obtain ⟨b, ys, rfl, hb, rb⟩ := iy.list'
    exact .inr (.inr (.inl ⟨a, b, xs, ys, rfl, rfl, s _ _ ha, s _ _ hb, by rw [ra.length, rb.length]; exact lim_le c, newL q (ra.append rb)⟩))
  · obtain ⟨c, rfl⟩ := ifs hg
    obtain ⟨a, xs, rfl, ha, ra⟩ := ix.tup'
    obtain ⟨b, ys, rfl, hb, rb⟩ := iy.tup'
    refine .inr (.inr (.inr ⟨a, b, xs, ys, rfl, rfl, hK ▸ sqt_same s ha, hK ▸ sqt_same s hb, by rw [ra.length, rb.length]; exact lim_le c, fun e => ?_, fun _ e => ?_, fun _ _ => newT q (ra.append rb)⟩))
    · subst e
      cases ra
      exact oldV q (.tup hb rb)
    · subst e
      cases rb
      rw [List.append_nil] at q
      exact oldV q (.tup ha ra)
  · cases hg
theorem od_sub : OpD X (binaryOp .Sub) subD := by
  refine ⟨_, op_sub, fun T Hh H x y dx dy z Q hK s ix iy hg q => ?_⟩
  unfold subD at hg
  split at hg
  · cases hg
    rw [ix.int', iy.int']
    exact ⟨_, _, rfl, rfl, q.flat fun _ => .int _⟩
  · cases hg
theorem od_mul : OpD X (binaryOp .Mult) mulD := by
  refine ⟨_, op_mul, fun T Hh H x y dx dy z Q hK s ix iy hg q => ?_⟩
  unfold mulD at hg
  split at hg
  · obtain ⟨c, rfl⟩ := ifs hg
    rw [ix.int', iy.int']
    exact ⟨_, _, rfl, rfl, c, q.flat fun _ => .int _⟩
  · cases hg
theorem od_div : OpD X (binaryOp .FloorDiv) divD := by
  refine ⟨_, op_fdiv, fun T Hh H x y dx dy z Q hK s ix iy hg q => ?_⟩
  unfold divD at hg
  split at hg
  · obtain ⟨c, rfl⟩ := ifs hg
    rw [ix.int', iy.int']
    exact ⟨_, _, rfl, rfl, c, q.flat fun _ => .int _⟩
  · cases hg
theorem od_mod : OpD X (binaryOp .Mod) modD := by
  refine ⟨_, op_mod, fun T Hh H x y dx dy z Q hK s ix iy hg q => ?_⟩
  unfold modD at hg
  split at hg
  · obtain ⟨c, rfl⟩ := ifs hg
    rw [ix.int', iy.int']
    exact ⟨_, _, rfl, rfl, c, q.flat fun _ => .int _⟩
  · cases hg
theorem od_pow : OpD X (binaryOp .Pow) powD := by
  refine ⟨_, op_pow, fun T Hh H x y dx dy z Q hK s ix iy hg q => ?_⟩
  unfold powD at hg
  split at hg
  · obtain ⟨c, rfl⟩ := ifs hg
    rw [ix.int', iy.int']
    exact ⟨_, _, rfl, rfl, c, q.flat fun _ => .int _⟩
  · cases hg
theorem okE2 {x y : D} (h : (okE x && okE y) = true) : plain x = true ∧ SeqAt.shaped x = true ∧ plain y = true ∧ SeqAt.shaped y = true := by
  unfold okE at h
  simp only [Bool.and_eq_true] at h
  exact ⟨h.1.1, h.1.2, h.2.1, h.2.2⟩
theorem od_eq (hu : X.A.units + 64 < cLine) : OpD X (compareOp .Eq) eqD := by
  refine ⟨_, op_eqD hu, fun T Hh H x y dx dy z Q hK s ix iy hg q => ?_⟩
  obtain ⟨c, rfl⟩ := ifs hg
  obtain ⟨p1, s1, p2, s2⟩ := okE2 c
  exact ⟨dx, dy, hK ▸ (ix.same s).dp p1, hK ▸ (iy.same s).dp p2, s1, s2, q.flat fun _ => .bl _⟩
theorem od_ne (hu : X.A.units + 64 < cLine) : OpD X (compareOp .NotEq) neD := by
  refine ⟨_, op_neD hu, fun T Hh H x y dx dy z Q hK s ix iy hg q => ?_⟩
  obtain ⟨c, rfl⟩ := ifs hg
  obtain ⟨p1, s1, p2, s2⟩ := okE2 c
  exact ⟨dx, dy, hK ▸ (ix.same s).dp p1, hK ▸ (iy.same s).dp p2, s1, s2, q.flat fun _ => .bl _⟩
theorem od_lt : OpD X (compareOp .Lt) ltD := by
  refine ⟨_, op_lt.or op_lt_str, fun T Hh H x y dx dy z Q hK s ix iy hg q => ?_⟩
  unfold ltD at hg
  split at hg
  · cases hg
    rw [ix.int', iy.int']
    exact .inl ⟨_, _, rfl, rfl, q.flat fun _ => .bl _⟩
  · cases hg
    rw [ix.str', iy.str']
    exact .inr ⟨_, _, rfl, rfl, q.flat fun _ => .bl _⟩
  · cases hg
theorem od_gt : OpD X (compareOp .Gt) gtD := by
  refine ⟨_, op_gt.or op_gt_str, fun T Hh H x y dx dy z Q hK s ix iy hg q => ?_⟩
  unfold gtD at hg
  split at hg
  · cases hg
    rw [ix.int', iy.int']
    exact .inl ⟨_, _, rfl, rfl, q.flat fun _ => .bl _⟩
  · cases hg
    rw [ix.str', iy.str']
    exact .inr ⟨_, _, rfl, rfl, q.flat fun _ => .bl _⟩
  · cases hg
theorem od_le : OpD X (compareOp .LtE) leD := by
  refine ⟨_, op_le, fun T Hh H x y dx dy z Q hK s ix iy hg q => ?_⟩
  unfold leD at hg
  split at hg
  · cases hg
    rw [ix.int', iy.int']
    exact ⟨_, _, rfl, rfl, q.flat fun _ => .bl _⟩
  · cases hg
theorem od_ge : OpD X (compareOp .GtE) geD := by
  refine ⟨_, op_ge, fun T Hh H x y dx dy z Q hK s ix iy hg q => ?_⟩
  unfold geD at hg
  split at hg
  · cases hg
    rw [ix.int', iy.int']
    exact ⟨_, _, rfl, rfl, q.flat fun _ => .bl _⟩
  · cases hg
theorem noneV {T : Tab} {H : Hp} {v : V} {d : D} (h : Is T H v d) : decide (v = .non) = noneB d := by
  cases h <;> first | rfl | exact decide_eq_false (fun z => by cases z)
theorem od_is : OpD X (compareOp .Is) isN := by
  refine ⟨_, op_isN, fun T Hh H x y dx dy z Q hK s ix iy hg q => ?_⟩
  obtain ⟨c, rfl⟩ := ifs hg
  rw [← noneV iy] at c
  refine ⟨of_decide_eq_true c, ?_⟩
  rw [noneV ix]
  exact q.flat fun _ => .bl _
theorem od_isnot : OpD X (compareOp .IsNot) isNN := by
  refine ⟨_, op_notN, fun T Hh H x y dx dy z Q hK s ix iy hg q => ?_⟩
  obtain ⟨c, rfl⟩ := ifs hg
  rw [← noneV iy] at c
  refine ⟨of_decide_eq_true c, ?_⟩
  rw [noneV ix]
  exact q.flat fun _ => .bl _
/-! x in a tuple of data -/
def rInTu (K : PySem.W.Frag) : R2 := fun x y H Q => ∃ d ds, Dp K H x d ∧ Dp K H y (.tuple ds) ∧ SeqAt.shaped d = true ∧ SeqAt.shaped (.tuple ds) = true ∧ Q (.bl (ds.any fun z => PyData.eqv z d)) H
def rNotInTu (K : PySem.W.Frag) : R2 := fun x y H Q => ∃ d ds, Dp K H x d ∧ Dp K H y (.tuple ds) ∧ SeqAt.shaped d = true ∧ SeqAt.shaped (.tuple ds) = true ∧ Q (.bl (!ds.any fun z => PyData.eqv z d)) H
theorem room_tu {A : Around} {ds : List D} {d : D} (h : SeqAt.shaped d = true) (hu : A.units + 65 < cLine) : A.units + 1 + min (PyData.depthAll ds) d.depth < cLine := by
  have h1 := SeqAt.depth_of_shaped h
  have h2 : min (PyData.depthAll ds) d.depth ≤ d.depth := Nat.min_le_right _ _
  omega
theorem op_inTu (hu : X.A.units + 65 < cLine) : OpR X (compareOp .In) (rInTu X.K) := by
  intro pins s σ H x y v u Q I rx ry h
  obtain ⟨d, ds, hd, he, sd, se, q⟩ := h
  obtain ⟨as, r1⟩ := Dp.reads I d x v hd rx
  obtain ⟨bs, r2⟩ := Dp.reads I (.tuple ds) y u he ry
  exact SeqAt.in_tuple_reads r2 r1 (SeqAt.canLay_of_shaped se) (SeqAt.canLay_of_shaped sd) (room_tu sd hu) ⟨.bl _, H, I, rfl, q⟩
theorem op_notInTu (hu : X.A.units + 65 < cLine) : OpR X (compareOp .NotIn) (rNotInTu X.K) := by
  intro pins s σ H x y v u Q I rx ry h
  obtain ⟨d, ds, hd, he, sd, se, q⟩ := h
  obtain ⟨as, r1⟩ := Dp.reads I d x v hd rx
  obtain ⟨bs, r2⟩ := Dp.reads I (.tuple ds) y u he ry
  exact SeqAt.notIn_tuple_reads r2 r1 (SeqAt.canLay_of_shaped se) (SeqAt.canLay_of_shaped sd) (room_tu sd hu) ⟨.bl _, H, I, rfl, q⟩
theorem od_in (hu : X.A.units + 65 < cLine) : OpD X (compareOp .In) inD := by
  refine ⟨_, (op_inD hu).or (op_inTu hu), fun T Hh H x y dx dy z Q hK s ix iy hg q => ?_⟩
  unfold inD memD at hg
  split at hg
  · split at hg
    · rename_i c
      cases hg
      obtain ⟨p1, s1, p2, s2⟩ := okE2 c
      exact .inl ⟨dx, _, hK ▸ (ix.same s).dp p1, hK ▸ (iy.same s).dp p2, s1, s2, q.flat fun _ => .bl _⟩
    · cases hg
  · split at hg
    · rename_i c
      cases hg
      obtain ⟨p1, s1, p2, s2⟩ := okE2 c
      exact .inr ⟨dx, _, hK ▸ (ix.same s).dp p1, hK ▸ (iy.same s).dp p2, s1, s2, q.flat fun _ => .bl _⟩
    · cases hg
  · cases hg
theorem od_notin (hu : X.A.units + 65 < cLine) : OpD X (compareOp .NotIn) ninD := by
  refine ⟨_, (op_notInD hu).or (op_notInTu hu), fun T Hh H x y dx dy z Q hK s ix iy hg q => ?_⟩
  unfold ninD memD at hg
  split at hg
  · split at hg
    · rename_i c
      cases hg
      obtain ⟨p1, s1, p2, s2⟩ := okE2 c
      exact .inl ⟨dx, _, hK ▸ (ix.same s).dp p1, hK ▸ (iy.same s).dp p2, s1, s2, q.flat fun _ => .bl _⟩
    · cases hg
  · split at hg
    · rename_i c
      cases hg
      obtain ⟨p1, s1, p2, s2⟩ := okE2 c
      exact .inr ⟨dx, _, hK ▸ (ix.same s).dp p1, hK ▸ (iy.same s).dp p2, s1, s2, q.flat fun _ => .bl _⟩
    · cases hg
  · cases hg
end
end RM
namespace RM
open PySem PySem.Spec PyProof.Rows L2 CS RZ
/-! ### calls of built-ins -/
def CallD (X : Cx) (f : Value) (g : List D → D → Prop) : Prop := ∃ r, CallR X f r ∧ ∀ (T : Tab) (Hh H : Hp) (vs : List V) (ds : List D) (z : D) (Q : VK), T.K = X.K → Same Hh H → IsL T Hh vs ds → g ds z → NewQ T Hh H z Q → r vs H Q
/-- .. whose result is a new list -/
def CallF (X : Cx) (f : Value) (g : List D → List D → Prop) : Prop := ∃ r, CallR X f r ∧ ∀ (T : Tab) (Hh H : Hp) (vs : List V) (ds : List D) (z : List D) (Q : VK), T.K = X.K → Same Hh H → IsL T Hh vs ds → g ds z → (∀ xs, IsL T Hh xs z → ∀ p, H p = none → Q (.ref p) (upd H p (.lst xs))) → r vs H Q
def cCB (g : List D → D → Prop) (ta : CA) : CE := fun ρ n k ke => ta ρ n (fun ds ρ' n' => ∃ z, g ds z ∧ k z ρ' n') ke
def cCF (g : List D → List D → Prop) (ta : CA) : CE := fun ρ n k ke => ta ρ n (fun ds ρ' n' => ∃ z, g ds z ∧ k (.list z) ρ' n') ke
theorem CallD.or {X : Cx} {f : Value} {g g' : List D → D → Prop} (h : CallD X f g) (h' : CallD X f g') : CallD X f (fun ds z => g ds z ∨ g' ds z) := by
  obtain ⟨r, h1, h2⟩ := h
  obtain ⟨r', h1', h2'⟩ := h'
  exact ⟨_, h1.or h1', fun T Hh H vs ds z Q a b c d e => d.elim (fun d => .inl (h2 T Hh H vs ds z Q a b c d e)) fun d => .inr (h2' T Hh H vs ds z Q a b c d e)⟩
theorem CallF.or {X : Cx} {f : Value} {g g' : List D → List D → Prop} (h : CallF X f g) (h' : CallF X f g') : CallF X f (fun ds z => g ds z ∨ g' ds z) := by
  obtain ⟨r, h1, h2⟩ := h
  obtain ⟨r', h1', h2'⟩ := h'
  exact ⟨_, h1.or h1', fun T Hh H vs ds z Q a b c d e => d.elim (fun d => .inl (h2 T Hh H vs ds z Q a b c d e)) fun d => .inr (h2' T Hh H vs ds z Q a b c d e)⟩
section
variable {X : Cx} {g : Glob} {xk : WX} {pos p : Pos} {x : Str} {e : Expr} {es : List Expr} {ta : CA} {id : String} {u : List D → D → Prop} {gl : List D → List D → Prop}
theorem cb_use {r : List V → Hp → VK → Prop} (G : Good X g) (hg : ∀ (T : Tab) (Hh H : Hp) (vs : List V) (ds : List D) (z : D) (Q : VK), T.K = X.K → Same Hh H → IsL T Hh vs ds → u ds z → NewQ T Hh H z Q → r vs H Q)
    {σ : L2.St} {H : Hp} {Q : VK} (h : lift g xk (cCB u ta) σ H Q) : tCB r (liftA g xk ta) σ H Q := by
  obtain ⟨C, ρ, n, O, k, ke, hK, E, t, x, q⟩ := h
  refine ⟨C, ρ, n, O, _, ke, hK, E, t, x, fun ds ρ1 n1 vs H1 O1 k1 E1 S1 i1 => ?_⟩
  obtain ⟨z, hz, k1⟩ := k1
  exact hg C.T (hid C O1 H1) H1 vs ds z Q (hK.1.trans G.K) hid_le i1 hz (newq E1 fun v3 H3 E3 S3 i3 => q _ _ _ _ _ _ k1 E3 (S1.trans S3) i3)
theorem cf_use {r : List V → Hp → VK → Prop} (G : Good X g) (hg : ∀ (T : Tab) (Hh H : Hp) (vs : List V) (ds : List D) (z : List D) (Q : VK), T.K = X.K → Same Hh H → IsL T Hh vs ds → gl ds z → (∀ xs, IsL T Hh xs z → ∀ p, H p = none → Q (.ref p) (upd H p (.lst xs))) → r vs H Q)
    {σ : L2.St} {H : Hp} {Q : VK} (h : liftF g xk (cCF gl ta) σ H Q) : tCB r (liftA g xk ta) σ H Q := by
  obtain ⟨C, ρ, n, O, k, ke, hK, E, t, x, q⟩ := h
  refine ⟨C, ρ, n, O, _, ke, hK, E, t, x, fun ds ρ1 n1 vs H1 O1 k1 E1 S1 i1 => ?_⟩
  obtain ⟨z, hz, k1⟩ := k1
  exact hg C.T (hid C O1 H1) H1 vs ds z Q (hK.1.trans G.K) hid_le i1 hz fun xs ix p hp => q _ _ _ _ _ _ _ k1 E1 S1 hp (same_new hp) (.lst upd_same ix) rfl
theorem pd_callB (hc : CallD X (.builtin id) u) (G : Good X g) (hg : Gl X x) (hm : X.mg x = none) (hv : bootBuiltins x = some (.builtin id)) (ha : PDA X g xk (e :: es) ta) (hn : x ≠ "__name__" := by decide) (hdb : (x == ("__debug__" : Str)) = false := by decide)
    (he : starEach (e :: es) X.env = (false, eval e X.env) :: starEach es X.env := by rfl) (hpl : (backTo pos (starEach es X.env)).any (·.1) = false := by rfl) : PD X g xk (.Call (.Name x p) (e :: es) [] pos) (cCB u ta) := by
  obtain ⟨r, hr, hg'⟩ := hc
  exact ⟨PE.imp (pe_callB hr hg hm hv ha.pa hn hdb he hpl) fun σ H Q h => cb_use G hg' h⟩
theorem pd_callTy (hc : CallD X (.type id) u) (G : Good X g) (hg : Gl X x) (hm : X.mg x = none) (hv : bootBuiltins x = some (.type id)) (ha : PDA X g xk (e :: es) ta) (hn : x ≠ "__name__" := by decide) (hdb : (x == ("__debug__" : Str)) = false := by decide)
    (he : starEach (e :: es) X.env = (false, eval e X.env) :: starEach es X.env := by rfl) (hpl : (backTo pos (starEach es X.env)).any (·.1) = false := by rfl) : PD X g xk (.Call (.Name x p) (e :: es) [] pos) (cCB u ta) := by
  obtain ⟨r, hr, hg'⟩ := hc
  exact ⟨PE.imp (pe_callTy hr hg hm hv ha.pa hn hdb he hpl) fun σ H Q h => cb_use G hg' h⟩
theorem pf_callB (hc : CallF X (.builtin id) gl) (G : Good X g) (hg : Gl X x) (hm : X.mg x = none) (hv : bootBuiltins x = some (.builtin id)) (ha : PDA X g xk (e :: es) ta) (hn : x ≠ "__name__" := by decide) (hdb : (x == ("__debug__" : Str)) = false := by decide)
    (he : starEach (e :: es) X.env = (false, eval e X.env) :: starEach es X.env := by rfl) (hpl : (backTo pos (starEach es X.env)).any (·.1) = false := by rfl) : PDF X g xk (.Call (.Name x p) (e :: es) [] pos) (cCF gl ta) := by
  obtain ⟨r, hr, hg'⟩ := hc
  exact ⟨PE.imp (pe_callB hr hg hm hv ha.pa hn hdb he hpl) fun σ H Q h => cf_use G hg' h⟩
theorem pf_callTy (hc : CallF X (.type id) gl) (G : Good X g) (hg : Gl X x) (hm : X.mg x = none) (hv : bootBuiltins x = some (.type id)) (ha : PDA X g xk (e :: es) ta) (hn : x ≠ "__name__" := by decide) (hdb : (x == ("__debug__" : Str)) = false := by decide)
    (he : starEach (e :: es) X.env = (false, eval e X.env) :: starEach es X.env := by rfl) (hpl : (backTo pos (starEach es X.env)).any (·.1) = false := by rfl) : PDF X g xk (.Call (.Name x p) (e :: es) [] pos) (cCF gl ta) := by
  obtain ⟨r, hr, hg'⟩ := hc
  exact ⟨PE.imp (pe_callTy hr hg hm hv ha.pa hn hdb he hpl) fun σ H Q h => cf_use G hg' h⟩
/-! which built-ins -/
def lenD : D → Option Nat
  | .list ds => some ds.length
  | .tuple ds => some ds.length
  | .str z => if z.length ≤ lim then some z.length else none
  | _ => none
def gLen (ds : List D) (z : D) : Prop := ∃ x n, ds = [x] ∧ lenD x = some n ∧ z = .int (n : Nat)
def seqD : D → Option (List D)
  | .list ds => some ds
  | .tuple ds => some ds
  | _ => none
def gTuple (ds : List D) (z : D) : Prop := ∃ x xs, ds = [x] ∧ seqD x = some xs ∧ z = .tuple xs
def gList (ds : List D) (z : List D) : Prop := ∃ x, ds = [x] ∧ seqD x = some z
def intsD (is : List Int) : List D := is.map PyData.int
def gSum (ds : List D) (z : D) : Prop := ∃ is, ds = [.list (intsD is)] ∧ z = .int is.sum
def boolsD (bs : List Bool) : List D := bs.map PyData.bool
def gAll (ds : List D) (z : D) : Prop := ∃ bs, ds = [.list (boolsD bs)] ∧ z = .bool (bs.all _root_.id)
def gAny (ds : List D) (z : D) : Prop := ∃ bs, ds = [.list (boolsD bs)] ∧ z = .bool (bs.any _root_.id)
def gMin2 (ds : List D) (z : D) : Prop := ∃ i j, ds = [.int i, .int j] ∧ z = .int (if j < i then j else i)
def gMax2 (ds : List D) (z : D) : Prop := ∃ i j, ds = [.int i, .int j] ∧ z = .int (if j > i then j else i)
def gMin1 (ds : List D) (z : D) : Prop := ∃ is m, ds = [.list (intsD is)] ∧ z = .int m ∧ m ∈ is ∧ ∀ y ∈ is, m ≤ y
def gMax1 (ds : List D) (z : D) : Prop := ∃ is m, ds = [.list (intsD is)] ∧ z = .int m ∧ m ∈ is ∧ ∀ y ∈ is, y ≤ m
def gAbs (ds : List D) (z : D) : Prop := ∃ i, ds = [.int i] ∧ z = .int (if i < 0 then -i else i)
def gInt (ds : List D) (z : D) : Prop := (∃ i, ds = [.int i] ∧ z = .int i) ∨ ∃ b, ds = [.bool b] ∧ z = .int (if b then 1 else 0)
def gStr (ds : List D) (z : D) : Prop := (∃ i : Int, ds = [.int i] ∧ i.natAbs.log2 < 1920 ∧ z = .str (toString i)) ∨ ∃ a, ds = [.str a] ∧ z = .str a
def leD' (a b : D) : Bool := PySem.W.dataLe false (fun d : D => d) a b
def gSorted (ds : List D) (z : List D) : Prop := ∃ x es, ds = [x] ∧ seqD x = some es ∧ plains es = true ∧ PySem.W.AllAlike es ∧ PySem.W.Sortable es ∧ (∀ d ∈ es, d.depth ≤ 60) ∧ z = es.mergeSort leD'
theorem IsL.one {T : Tab} {H : Hp} {vs : List V} {d : D} (h : IsL T H vs [d]) : ∃ v, vs = [v] ∧ Is T H v d := by
  cases h with
  | cons a b => cases b; exact ⟨_, rfl, a⟩
theorem IsL.two {T : Tab} {H : Hp} {vs : List V} {d e : D} (h : IsL T H vs [d, e]) : ∃ v u, vs = [v, u] ∧ Is T H v d ∧ Is T H u e := by
  cases h with
  | cons a b => obtain ⟨u, rfl, hu⟩ := b.one; exact ⟨_, _, rfl, a, hu⟩
theorem IsL.ints {T : Tab} {H : Hp} : ∀ {vs : List V} {is : List Int}, IsL T H vs (intsD is) → vs = is.map V.int
  | _, [], .nil => rfl
  | _, i :: is, .cons a b => by rw [List.map_cons, a.int', IsL.ints (is := is) b]
theorem IsL.bools {T : Tab} {H : Hp} : ∀ {vs : List V} {is : List Bool}, IsL T H vs (boolsD is) → vs = is.map V.bl
  | _, [], .nil => rfl
  | _, i :: is, .cons a b => by rw [List.map_cons, isBl a, IsL.bools (is := is) b]
theorem Is.seq {T : Tab} {H : Hp} {v : V} {d : D} {ds : List D} (h : Is T H v d) (e : seqD d = some ds) : ∃ a xs, v = .ref a ∧ IsL T H xs ds ∧ ((d = .list ds ∧ H a = some (.lst xs)) ∨ (d = .tuple ds ∧ SqT T.K H a xs)) := by
  cases h with
  | lst g r => cases e; exact ⟨_, _, rfl, r, .inl ⟨rfl, g⟩⟩
  | tup g r => cases e; exact ⟨_, _, rfl, r, .inr ⟨rfl, g⟩⟩
  | _ => cases e
theorem cd_len : CallD X (.builtin "len") gLen := by
  refine ⟨_, call_len_seq.or call_len_str, fun T Hh H vs ds z Q hK s il hg q => ?_⟩
  obtain ⟨y, n, rfl, hn, rfl⟩ := hg
  obtain ⟨v, rfl, iv⟩ := il.one
  unfold lenD at hn
  split at hn
  · cases hn
    obtain ⟨a, xs, rfl, ha, r⟩ := iv.list'
    exact .inl ⟨a, xs, rfl, .inl (SqL.of (s _ _ ha)), by rw [r.length]; exact q.flat fun _ => .int _⟩
  · cases hn
    obtain ⟨a, xs, rfl, ha, r⟩ := iv.tup'
    exact .inl ⟨a, xs, rfl, .inr (hK ▸ sqt_same s ha), by rw [r.length]; exact q.flat fun _ => .int _⟩
  · obtain ⟨c, rfl⟩ := ifs hn
    rw [iv.str']
    exact .inr ⟨_, rfl, lim_le c, q.flat fun _ => .int _⟩
  · cases hn
theorem cd_tuple : CallD X (.type "tuple") gTuple := by
  refine ⟨_, call_tuple_of, fun T Hh H vs ds z Q hK s il hg q => ?_⟩
  obtain ⟨y, xs, rfl, hs, rfl⟩ := hg
  obtain ⟨v, rfl, iv⟩ := il.one
  obtain ⟨a, us, rfl, r, c⟩ := iv.seq hs
  rcases c with ⟨_, c⟩ | ⟨_, c⟩
  · exact ⟨a, us, rfl, .inl ⟨SqL.of (s _ _ c), newT q r⟩⟩
  · exact ⟨a, us, rfl, .inr ⟨hK ▸ sqt_same s c, oldV q (.tup c r)⟩⟩
theorem cf_list : CallF X (.type "list") gList := by
  refine ⟨_, call_list_of, fun T Hh H vs ds z Q hK s il hg q => ?_⟩
  obtain ⟨y, rfl, hs⟩ := hg
  obtain ⟨v, rfl, iv⟩ := il.one
  obtain ⟨a, us, rfl, r, c⟩ := iv.seq hs
  rcases c with ⟨_, c⟩ | ⟨_, c⟩
  · exact ⟨a, us, rfl, .inl (SqL.of (s _ _ c)), q _ r⟩
  · exact ⟨a, us, rfl, .inr (hK ▸ sqt_same s c), q _ r⟩
theorem cd_sum (hc : X.calm = true) : CallD X (.builtin "sum") gSum := by
  refine ⟨_, cr_sum hc, fun T Hh H vs ds z Q hK s il hg q => ?_⟩
  obtain ⟨is, rfl, rfl⟩ := hg
  obtain ⟨v, rfl, iv⟩ := il.one
  obtain ⟨a, xs, rfl, ha, r⟩ := iv.list'
  rw [r.ints] at ha
  exact ⟨a, is, rfl, SqL.of (s _ _ ha), q.flat fun _ => .int _⟩
theorem cd_all (hc : X.calm = true) : CallD X (.builtin "all") gAll := by
  refine ⟨_, cr_all hc, fun T Hh H vs ds z Q hK s il hg q => ?_⟩
  obtain ⟨is, rfl, rfl⟩ := hg
  obtain ⟨v, rfl, iv⟩ := il.one
  obtain ⟨a, xs, rfl, ha, r⟩ := iv.list'
  rw [r.bools] at ha
  exact ⟨a, is, rfl, SqL.of (s _ _ ha), q.flat fun _ => .bl _⟩
theorem cd_any (hc : X.calm = true) : CallD X (.builtin "any") gAny := by
  refine ⟨_, cr_any hc, fun T Hh H vs ds z Q hK s il hg q => ?_⟩
  obtain ⟨is, rfl, rfl⟩ := hg
  obtain ⟨v, rfl, iv⟩ := il.one
  obtain ⟨a, xs, rfl, ha, r⟩ := iv.list'
  rw [r.bools] at ha
  exact ⟨a, is, rfl, SqL.of (s _ _ ha), q.flat fun _ => .bl _⟩
theorem cd_min (hc : X.calm = true) : CallD X (.builtin "min") (fun ds z => gMin2 ds z ∨ gMin1 ds z) := by
  refine ⟨_, (call_min2 hc).or (cr_min hc), fun T Hh H vs ds z Q hK s il hg q => ?_⟩
  rcases hg with ⟨i, j, rfl, rfl⟩ | ⟨is, m, rfl, rfl, hm, hy⟩
  · obtain ⟨v, u, rfl, iv, iu⟩ := il.two
    rw [iv.int', iu.int']
    exact .inl ⟨i, j, rfl, q.flat fun _ => .int _⟩
  · obtain ⟨v, rfl, iv⟩ := il.one
    obtain ⟨a, xs, rfl, ha, r⟩ := iv.list'
    rw [r.ints] at ha
    refine .inr ⟨a, is, rfl, SqL.of (s _ _ ha), List.length_pos_of_mem hm, fun m' h1 h2 => ?_⟩
    have e : m' = m := Int.le_antisymm (h2 m hm) (hy m' h1)
    rw [e]
    exact q.flat fun _ => .int _
theorem cd_max (hc : X.calm = true) : CallD X (.builtin "max") (fun ds z => gMax2 ds z ∨ gMax1 ds z) := by
  refine ⟨_, (call_max2 hc).or (cr_max hc), fun T Hh H vs ds z Q hK s il hg q => ?_⟩
  rcases hg with ⟨i, j, rfl, rfl⟩ | ⟨is, m, rfl, rfl, hm, hy⟩
  · obtain ⟨v, u, rfl, iv, iu⟩ := il.two
    rw [iv.int', iu.int']
    exact .inl ⟨i, j, rfl, q.flat fun _ => .int _⟩
  · obtain ⟨v, rfl, iv⟩ := il.one
    obtain ⟨a, xs, rfl, ha, r⟩ := iv.list'
    rw [r.ints] at ha
    refine .inr ⟨a, is, rfl, SqL.of (s _ _ ha), List.length_pos_of_mem hm, fun m' h1 h2 => ?_⟩
    have e : m' = m := Int.le_antisymm (hy m' h1) (h2 m hm)
    rw [e]
    exact q.flat fun _ => .int _
theorem cd_abs : CallD X (.builtin "abs") gAbs := by
  refine ⟨_, call_abs, fun T Hh H vs ds z Q hK s il hg q => ?_⟩
  obtain ⟨i, rfl, rfl⟩ := hg
  obtain ⟨v, rfl, iv⟩ := il.one
  rw [iv.int']
  exact ⟨i, rfl, q.flat fun _ => .int _⟩
theorem cd_int : CallD X (.type "int") gInt := by
  refine ⟨_, call_int1, fun T Hh H vs ds z Q hK s il hg q => ?_⟩
  rcases hg with ⟨i, rfl, rfl⟩ | ⟨i, rfl, rfl⟩
  · obtain ⟨v, rfl, iv⟩ := il.one
    rw [iv.int']
    exact .inl ⟨i, rfl, q.flat fun _ => .int _⟩
  · obtain ⟨v, rfl, iv⟩ := il.one
    rw [isBl iv]
    exact .inr ⟨i, rfl, q.flat fun _ => .int _⟩
theorem cd_str : CallD X (.type "str") gStr := by
  refine ⟨_, call_str_int.or SkE.call_str_str, fun T Hh H vs ds z Q hK s il hg q => ?_⟩
  rcases hg with ⟨i, rfl, hb, rfl⟩ | ⟨i, rfl, rfl⟩
  · obtain ⟨v, rfl, iv⟩ := il.one
    rw [iv.int']
    exact .inl ⟨i, rfl, hb, q.flat fun _ => .str _⟩
  · obtain ⟨v, rfl, iv⟩ := il.one
    rw [iv.str']
    exact .inr ⟨i, rfl, q.flat fun _ => .str _⟩
/-- a list with what it holds, side by side -/
theorem zip_is {T : Tab} {H : Hp} : ∀ {xs : List V} {ds : List D}, IsL T H xs ds → (xs.zip ds).map Prod.fst = xs ∧ (xs.zip ds).map Prod.snd = ds ∧ ∀ z ∈ xs.zip ds, Is T H z.1 z.2
  | _, _, .nil => ⟨rfl, rfl, fun _ h => by cases h⟩
  | _, _, .cons (v := v) (d := d) a b => by
    obtain ⟨h1, h2, h3⟩ := zip_is b
    refine ⟨by rw [List.zip_cons_cons, List.map_cons, h1], by rw [List.zip_cons_cons, List.map_cons, h2], fun z hz => ?_⟩
    rw [List.zip_cons_cons] at hz
    rcases List.mem_cons.mp hz with rfl | hz
    · exact a
    · exact h3 z hz
theorem isL_zip {T : Tab} {H : Hp} : ∀ {zs : List (V × D)}, (∀ z ∈ zs, Is T H z.1 z.2) → IsL T H (zs.map Prod.fst) (zs.map Prod.snd)
  | [], _ => .nil
  | z :: zs, h => .cons (h z (List.mem_cons_self ..)) (isL_zip fun y hy => h y (List.mem_cons_of_mem _ hy))
theorem plains_mem : ∀ {ds : List D}, plains ds = true → ∀ d ∈ ds, plain d = true
  | [], _, _, h => by cases h
  | d :: ds, p, e, h => by
    have p' := Bool.and_eq_true_iff.mp p
    rcases List.mem_cons.mp h with rfl | h
    · exact p'.1
    · exact plains_mem p'.2 e h
theorem map_mergeSort {α β : Type} (f : α → β) (le : β → β → Bool) (l : List α) (ht : ∀ a b c, le a b = true → le b c = true → le a c = true) (hT : ∀ a b, (le a b || le b a) = true) : (l.mergeSort fun a b => le (f a) (f b)).map f = (l.map f).mergeSort le := by
  exact List.map_mergeSort fun a _ b _ => rfl
theorem cf_sorted (hu : X.A.units + 64 < cLine) : CallF X (.builtin "sorted") gSorted := by
  refine ⟨_, cr_sortedDt hu, fun T Hh H vs ds z Q hK s il hg q => ?_⟩
  obtain ⟨y, es, rfl, hs, hp, hA, hS, hd, rfl⟩ := hg
  obtain ⟨v, rfl, iv⟩ := il.one
  obtain ⟨a, us, rfl, r, c⟩ := iv.seq hs
  obtain ⟨z1, z2, z3⟩ := zip_is r
  have hmap : ((us.zip es).mergeSort ordD).map Prod.snd = es.mergeSort leD' := by
    have h : ((us.zip es).mergeSort ordD).map Prod.snd = ((us.zip es).map Prod.snd).mergeSort leD' := List.map_mergeSort fun a _ b _ => rfl
    rw [h, z2]
  refine ⟨a, us.zip es, rfl, ?_, fun z hz => ?_, by rw [z2]; exact hA, by rw [z2]; exact hS, fun z hz => hd _ ?_, fun p hnp => ?_⟩
  · rw [z1]
    rcases c with ⟨_, c⟩ | ⟨_, c⟩
    · exact .inl (SqL.of (s _ _ c))
    · exact .inr (hK ▸ sqt_same s c)
  · refine hK ▸ ((z3 z hz).same s).dp (plains_mem hp _ ?_)
    rw [← z2]
    exact List.mem_map_of_mem hz
  · rw [← z2]
    exact List.mem_map_of_mem hz
  · refine q _ ?_ p hnp
    rw [← hmap]
    exact isL_zip fun z hz => z3 z ((List.mergeSort_perm _ _).mem_iff.mp hz)
/-! ### subscripts, slices -/
def atD : D → D → Option D
  | .list ds, .int i => atI ds i
  | .tuple ds, .int i => atI ds i
  | .str z, .int i => if z.length ≤ lim then (atI z.cps.toList i).map fun c => .str ⟨#[c]⟩ else none
  | _, _ => none
def IxD (X : Cx) (g : D → D → Option D) : Prop := ∃ r, IxR X r ∧ ∀ (T : Tab) (Hh H : Hp) (x y : V) (dx dy z : D) (Q : VK), T.K = X.K → Same Hh H → Is T Hh x dx → Is T Hh y dy → g dx dy = some z → NewQ T Hh H z Q → r x y H Q
theorem atI_is {T : Tab} {H : Hp} {xs : List V} {ds : List D} {i : Int} {z : D} (h : IsL T H xs ds) (e : atI ds i = some z) : ∃ v, atI xs i = some v ∧ Is T H v z := by
  unfold atI at e ⊢
  rw [h.length]
  cases q : ixN ds.length i with
  | none => rw [q] at e; cases e
  | some j =>
    rw [q] at e
    exact h.get e
theorem ix_at : IxD X atD := by
  refine ⟨_, ix_seq, fun T Hh H x y dx dy z Q hK s ix iy hg q => ?_⟩
  unfold atD at hg
  split at hg
  · obtain ⟨a, xs, rfl, ha, r⟩ := ix.list'
    obtain ⟨v, h1, h2⟩ := atI_is r hg
    rw [iy.int']
    exact .inl ⟨a, xs, _, v, rfl, rfl, SqL.of (s _ _ ha), h1, oldV q h2⟩
  · obtain ⟨a, xs, rfl, ha, r⟩ := ix.tup'
    obtain ⟨v, h1, h2⟩ := atI_is r hg
    rw [iy.int']
    exact .inr (.inl ⟨a, xs, _, v, rfl, rfl, hK ▸ sqt_same s ha, h1, oldV q h2⟩)
  · rw [ix.str', iy.int']
    split at hg
    · rename_i z0 i c
      cases h : atI z0.cps.toList i with
      | none =>
        rw [h] at hg
        cases hg
      | some c' =>
        rw [h] at hg
        cases hg
        exact .inr (.inr ⟨_, _, c', rfl, rfl, lim_le c, h, q.flat fun _ => .str _⟩)
    · cases hg
  · cases hg
theorem pd_ix {u : D → D → Option D} {a b : Expr} {ta tb : CE} (hi : IxD X u) (G : Good X g) (ha : PD X g xk a ta) (hb : PD X g xk b tb) (hs : PlainIx b) : PD X g xk (.Subscript a b pos) (cOp u ta tb) := by
  obtain ⟨r, hr, hg⟩ := hi
  exact ⟨PE.imp (pe_ix hr ha.pe hb.pe hs) fun σ H Q h => op_use (f := getItem) G hg h⟩
abbrev CO := En → Nat → (Option Int → En → Nat → Prop) → KE → Prop
def liftO (g : Glob) (xk : WX) (td : CO) : TO := fun σ H Q => ∃ (C : Ctx) (ρ : En) (n : Nat) (O : Ow) (k : Option Int → En → Nat → Prop) (ke : KE), C.On g ∧ Ev C ρ n σ H O ∧ td ρ n k ke ∧ XL C xk ke ∧
  ∀ (b : Option Int) (ρ' : En) (n' : Nat) (H' : Hp) (O' : Ow), k b ρ' n' → Ev C ρ' n' σ H' O' → Same (hid C O H) (hid C O' H') → Q b H'
structure PDO (X : Cx) (g : Glob) (xk : WX) (e : Option Expr) (td : CO) : Prop where
  po : PO X e (liftO g xk td)
def cNo : CO := fun ρ n k _ => k none ρ n
def cPart (t : CE) : CO := fun ρ n k ke => t ρ n (fun d ρ' n' => ∃ i, d = .int i ∧ k (some i) ρ' n') ke
theorem po_imp {e : Option Expr} {t t' : TO} (h : PO X e t) (q : ∀ σ H Q, t' σ H Q → t σ H Q) : PO X e t' := ⟨fun pins s σ H Q I r => h.run pins s σ H Q I (q _ _ _ r)⟩
theorem pdo_none : PDO X g xk none cNo := ⟨po_imp po_none fun σ H Q ⟨C, ρ, n, O, k, ke, hK, E, t, x, q⟩ => q _ _ _ _ _ t E (Same.refl _)⟩
theorem pdo_some {t : CE} (h : PD X g xk e t) : PDO X g xk (some e) (cPart t) := by
  refine ⟨po_imp (po_some h.pe) fun σ H Q r => ?_⟩
  obtain ⟨C, ρ, n, O, k, ke, hK, E, t, x, q⟩ := r
  refine ⟨C, ρ, n, O, _, ke, hK, E, t, x, fun d ρ1 n1 v H1 O1 k1 E1 S1 i1 => ?_⟩
  obtain ⟨i, rfl, k1⟩ := k1
  have e := i1.int'
  subst e
  exact ⟨i, rfl, q _ _ _ _ _ k1 E1 S1⟩
def cutL (ds : List D) (lo hi : Option Int) : List D := (ds.drop (HT.sIx ds.length 0 lo)).take (HT.sIx ds.length ds.length hi - HT.sIx ds.length 0 lo)
def sliceD : D → Option Int → Option Int → Option D
  | .list ds, lo, hi => some (.list (cutL ds lo hi))
  | .tuple ds, lo, hi => some (.tuple (cutL ds lo hi))
  | .str z, lo, hi => if z.length ≤ lim then some (.str (cutS z lo hi)) else none
  | _, _, _ => none
def cSl (ta : CE) (tl th : CO) : CE := fun ρ n k ke => ta ρ n (fun x ρ1 n1 => tl ρ1 n1 (fun lo ρ2 n2 => th ρ2 n2 (fun hi ρ3 n3 => ∃ z, sliceD x lo hi = some z ∧ k z ρ3 n3) ke) ke) ke
theorem cutV_is {T : Tab} {H : Hp} {xs : List V} {ds : List D} (lo hi : Option Int) (h : IsL T H xs ds) : IsL T H (cutV xs lo hi) (cutL ds lo hi) := by
  unfold cutV cutL
  rw [h.length]
  exact (h.drop _).take _
theorem pd_slice {a : Expr} {lo hi : Option Expr} {ta : CE} {tl th : CO} {p2 : Pos} (G : Good X g) (ha : PD X g xk a ta) (hl : PDO X g xk lo tl) (hh : PDO X g xk hi th) : PD X g xk (.Subscript a (.Slice lo hi none p2) pos) (cSl ta tl th) := by
  refine ⟨PE.imp (pe_slice (SlR.or sl_list (SlR.or sl_tupA sl_str)) ha.pe hl.po hh.po) fun σ H Q h => ?_⟩
  obtain ⟨C, ρ, n, O, k, ke, hK, E, t, x, q⟩ := h
  refine ⟨C, ρ, n, O, _, ke, hK, E, t, x, fun d ρ1 n1 v H1 O1 k1 E1 S1 i1 => ⟨C, ρ1, n1, O1, _, ke, hK, E1, k1, x, fun lo ρ2 n2 H2 O2 k2 E2 S2 => ⟨C, ρ2, n2, O2, _, ke, hK, E2, k2, x, fun hi ρ3 n3 H3 O3 k3 E3 S3 => ?_⟩⟩⟩
  obtain ⟨z, hz, k3⟩ := k3
  have i3 := (i1.same S2).same S3
  have nq : NewQ C.T (hid C O3 H3) H3 z Q := newq E3 fun v4 H4 E4 S4 i4 => q _ _ _ _ _ _ k3 E4 (((S1.trans S2).trans S3).trans S4) i4
  unfold sliceD at hz
  split at hz
  · cases hz
    obtain ⟨a, xs, rfl, ha, r⟩ := i3.list'
    exact .inl ⟨a, xs, rfl, SqL.of (hid_le _ _ ha), newL nq (cutV_is _ _ r)⟩
  · cases hz
    obtain ⟨a, xs, rfl, ha, r⟩ := i3.tup'
    refine .inr (.inl ⟨a, xs, rfl, (hK.1.trans G.K) ▸ sqt_same hid_le ha, fun c => ?_, fun _ => newT nq (cutV_is _ _ r)⟩)
    have e : cutV xs lo hi = xs := by
      unfold cutV
      rw [c.1, c.2, Nat.sub_zero]
      exact List.take_length
    have r2 := cutV_is lo hi r
    rw [e] at r2
    exact oldV nq (.tup ha r2)
  · obtain ⟨c, rfl⟩ := ifs hz
    rw [i3.str']
    exact .inr (.inr ⟨_, rfl, lim_le c, nq.flat fun _ => .str _⟩)
  · cases hz
end
end RM
namespace RM
open PySem PySem.Spec PyProof.Rows L2 CS RZ
/-! ### what is walked -/
structure WalkD (T : Tab) (J : It) (ds : List D) (Hb : Hp) : Prop where
  ex : ∃ (G : Hp → Prop) (Y : Nat → Hp → V → Hp → Prop), Walk J ds.length G Y ∧ (∀ H, Same Hb H → G H) ∧ ∀ (i : Nat) (x : V) (H H2 : Hp) (d : D), Same Hb H → Y i H x H2 → ds[i]? = some d →
    Same H H2 ∧ ∀ Hx, Same Hb Hx → (∀ a o, H2 a = some o → H a = none → Hx a = some o) → Is T Hx x d
def liftI (g : Glob) (xk : WX) (td : CA) : TI := fun σ H R => ∃ (C : Ctx) (ρ : En) (n : Nat) (O : Ow) (k : List D → En → Nat → Prop) (ke : KE), C.On g ∧ Ev C ρ n σ H O ∧ td ρ n k ke ∧ XL C xk ke ∧
  ∀ (ds : List D) (ρ' : En) (n' : Nat) (J : It) (H' : Hp) (O' : Ow), k ds ρ' n' → Ev C ρ' n' σ H' O' → Same (hid C O H) (hid C O' H') → WalkD C.T J ds (hid C O' H') → R J H'
structure PDI (X : Cx) (g : Glob) (xk : WX) (tg : Expr) (e : Expr) (td : CA) : Prop where
  pi : PI X tg e (liftI g xk td)
theorem pi_imp {X : Cx} {tg e : Expr} {t t' : TI} (h : PI X tg e t) (q : ∀ σ H Q, t' σ H Q → t σ H Q) : PI X tg e t' := ⟨fun pins s σ H Q I r => h.run pins s σ H Q I (q _ _ _ r)⟩
section
variable {X : Cx} {g : Glob} {xk : WX} {tg : Expr} {pos p : Pos}
def iSeqV (K : PySem.W.Frag) (tl : TE) : TI := fun σ H R => tl σ H fun x H1 => ∃ a, x = .ref a ∧ (((∃ xs, SqL K H1 a xs) ∧ R (Itl K a) H1) ∨ ((∃ xs, SqT K H1 a xs) ∧ R (Itt K a) H1))
theorem pi_seqV {l : Expr} {tl : TE} (hl : PE X l tl) : PI X tg l (iSeqV X.K tl) := by
  refine ⟨fun pins s σ H R I h => ?_⟩
  refine thn (hl.run pins s σ H _ I h) fun v s1 ⟨x, H1, I1, r1, q1⟩ => ?_
  obtain ⟨a, e, q1⟩ := q1
  subst e
  cases r1
  have own : ∀ b ∈ [s1.heap.objs.size], _ := fun b hb => (List.mem_singleton.mp hb) ▸ I1.fpOk (Nat.le_refl _) (I1.hok.fresh (Nat.le_refl _))
  have up : ∀ (u : Obj) b o, s1.heap.get? b = some o → (s1.heap.push u).get? b = some o := fun _ _ _ e => Heap.get?_push_of_some _ e
  rcases q1 with ⟨⟨xs, hq⟩, q⟩ | ⟨⟨xs, hq⟩, q⟩
  · obtain ⟨_, _, p, _⟩ := I1.list hq
    exact wpAny_pyIter_list p.isList ⟨_, [s1.heap.objs.size], _, _, H1, rfl, I1.kept (t' := s1.toks) (up _), turn_list a _, ⟨_, Heap.get?_push_size _ rfl, rfl, rfl⟩, own, q⟩
  · obtain ⟨its, _, p, _⟩ := I1.tuple hq
    exact wpAny_pyIter_tuple (show s1.heap.IsTuple a its.toArray from p) ⟨_, [s1.heap.objs.size], _, _, H1, rfl, I1.kept (t' := s1.toks) (up _), turn_tuple a _, ⟨_, Heap.get?_push_size _ rfl, rfl, rfl⟩, own, q⟩
def cSeq (t : CE) : CA := fun ρ n k ke => t ρ n (fun d ρ' n' => ∃ ds, seqD d = some ds ∧ k ds ρ' n') ke
theorem walkd_list {T : Tab} {a : Addr} {xs : List V} {ds : List D} {Hb : Hp} (h : Hb a = some (.lst xs)) (r : IsL T Hb xs ds) : WalkD T (Itl T.K a) ds Hb :=
  ⟨⟨_, _, by rw [← r.length]; exact walk_list, fun H s => SqL.of (s _ _ h), fun i x H H2 d s y e => by
    obtain ⟨rfl, y⟩ := y
    obtain ⟨v, h1, h2⟩ := r.get e
    rw [y] at h1
    cases h1
    exact ⟨Same.refl _, fun Hx s2 _ => h2.same s2⟩⟩⟩
theorem walkd_tup {T : Tab} {a : Addr} {xs : List V} {ds : List D} {Hb : Hp} (h : SqT T.K Hb a xs) (r : IsL T Hb xs ds) : WalkD T (Itt T.K a) ds Hb :=
  ⟨⟨_, _, by rw [← r.length]; exact walk_tup, fun H s => sqt_same s h, fun i x H H2 d s y e => by
    obtain ⟨rfl, y⟩ := y
    obtain ⟨v, h1, h2⟩ := r.get e
    rw [y] at h1
    cases h1
    exact ⟨Same.refl _, fun Hx s2 _ => h2.same s2⟩⟩⟩
theorem pdi_seq {e : Expr} {t : CE} (G : Good X g) (h : PD X g xk e t) : PDI X g xk tg e (cSeq t) := by
  refine ⟨pi_imp (pi_seqV h.pe) fun σ H R r => ?_⟩
  obtain ⟨C, ρ, n, O, k, ke, hK, E, t, x, q⟩ := r
  refine ⟨C, ρ, n, O, _, ke, hK, E, t, x, fun d ρ1 n1 v H1 O1 k1 E1 S1 i1 => ?_⟩
  obtain ⟨ds, hs, k1⟩ := k1
  obtain ⟨a, us, rfl, r, c⟩ := i1.seq hs
  have eK := hK.1.trans G.K
  rcases c with ⟨_, c⟩ | ⟨_, c⟩
  · exact ⟨a, rfl, .inl ⟨⟨us, SqL.of (hid_le _ _ c)⟩, q _ _ _ _ _ _ k1 E1 S1 (eK ▸ walkd_list c r)⟩⟩
  · exact ⟨a, rfl, .inr ⟨⟨us, eK ▸ sqt_same hid_le c⟩, q _ _ _ _ _ _ k1 E1 S1 (eK ▸ walkd_tup c r)⟩⟩
def rangeD (lo : Int) (n : Nat) : List D := (List.range n).map fun i => .int (lo + (i : Nat))
theorem walkd_range {T : Tab} {lo : Int} {n : Nat} {Hb : Hp} : WalkD T (Itr lo n) (rangeD lo n) Hb :=
  ⟨⟨_, _, by unfold rangeD; rw [List.length_map, List.length_range]; exact walk_range, fun _ _ => trivial, fun i x H H2 d s y e => by
    obtain ⟨rfl, rfl⟩ := y
    unfold rangeD at e
    rw [List.getElem?_map] at e
    cases h : (List.range n)[i]? with
    | none => rw [h] at e; cases e
    | some j =>
      rw [h] at e
      obtain ⟨h1, h2⟩ := List.getElem?_eq_some_iff.mp h
      rw [List.getElem_range] at h2
      cases e
      rw [h2]
      exact ⟨Same.refl _, fun _ _ _ => .int _⟩⟩⟩
def cRange1 (ta : CA) : CA := fun ρ n k ke => ta ρ n (fun ds ρ' n' => ∃ j : Int, ds = [.int j] ∧ (-(2 ^ 62) ≤ j ∧ j < 2 ^ 62) ∧ k (rangeD 0 j.toNat) ρ' n') ke
def cRange2 (ta : CA) : CA := fun ρ n k ke => ta ρ n (fun ds ρ' n' => ∃ i j : Int, ds = [.int i, .int j] ∧ (-(2 ^ 62) ≤ i ∧ i < 2 ^ 62 ∧ -(2 ^ 62) ≤ j ∧ j < 2 ^ 62) ∧ k (rangeD i (j - i).toNat) ρ' n') ke
theorem pdi_range1 {a : Expr} {ta : CA} (hg : Gl X "range") (hm : X.mg "range" = none) (ha : PDA X g xk [a] ta) (hs : starEach [a] X.env = [(false, eval a X.env)] := by rfl) : PDI X g xk tg (.Call (.Name "range" p) [a] [] pos) (cRange1 ta) := by
  refine ⟨pi_imp (pi_range1 hg hm ha.pa hs) fun σ H R r => ?_⟩
  obtain ⟨C, ρ, n, O, k, ke, hK, E, t, x, q⟩ := r
  refine ⟨C, ρ, n, O, _, ke, hK, E, t, x, fun d ρ1 n1 v H1 O1 k1 E1 S1 i1 => ?_⟩
  obtain ⟨j, rfl, ⟨c1, c2⟩, k1⟩ := k1
  obtain ⟨v, rfl, iv⟩ := i1.one
  rw [iv.int']
  exact ⟨j, rfl, c1, c2, q _ _ _ _ _ _ k1 E1 S1 walkd_range⟩
theorem pdi_range2 {a b : Expr} {ta : CA} (hg : Gl X "range") (hm : X.mg "range" = none) (ha : PDA X g xk [a, b] ta) (hs : starEach [a, b] X.env = [(false, eval a X.env), (false, eval b X.env)] := by rfl) (hs2 : starEach [b] X.env = [(false, eval b X.env)] := by rfl) :
    PDI X g xk tg (.Call (.Name "range" p) [a, b] [] pos) (cRange2 ta) := by
  refine ⟨pi_imp (pi_range2 hg hm ha.pa hs hs2) fun σ H R r => ?_⟩
  obtain ⟨C, ρ, n, O, k, ke, hK, E, t, x, q⟩ := r
  refine ⟨C, ρ, n, O, _, ke, hK, E, t, x, fun d ρ1 n1 v H1 O1 k1 E1 S1 i1 => ?_⟩
  obtain ⟨i, j, rfl, c, k1⟩ := k1
  obtain ⟨v, u, rfl, iv, iu⟩ := i1.two
  rw [iv.int', iu.int']
  exact ⟨i, j, rfl, c, q _ _ _ _ _ _ k1 E1 S1 walkd_range⟩
/-! ### targets -/
abbrev CG := D → En → Option En
def AgreeOff (js : List Nat) (σ σ' : L2.St) : Prop := σ'.length = σ.length ∧ ∀ j, j ∉ js → σ'[j]? = σ[j]?
def liftG (g : Glob) (js : List Nat) (cg : CG) : TG := fun v σ H Q => ∃ (C : Ctx) (ρ ρ' : En) (n : Nat) (O : Ow) (d : D), C.On g ∧ Ev C ρ n σ H O ∧ Is C.T (hid C O H) v d ∧ cg d ρ = some ρ' ∧
  ∀ (σ' : L2.St) (O' : Ow), Ev C ρ' n σ' H O' → Same (hid C O H) (hid C O' H) → AgreeOff js σ σ' → Q σ' H
def liftGs (g : Glob) (js : List Nat) (cg : List D → En → Option En) : TGs := fun vs σ H Q => ∃ (C : Ctx) (ρ ρ' : En) (n : Nat) (O : Ow) (ds : List D), C.On g ∧ Ev C ρ n σ H O ∧ IsL C.T (hid C O H) vs ds ∧ cg ds ρ = some ρ' ∧
  ∀ (σ' : L2.St) (O' : Ow), Ev C ρ' n σ' H O' → Same (hid C O H) (hid C O' H) → AgreeOff js σ σ' → Q σ' H
structure PDG (X : Cx) (g : Glob) (js : List Nat) (e : Expr) (cg : CG) : Prop where
  pg : PG X e (liftG g js cg)
structure PDGs (X : Cx) (g : Glob) (js : List Nat) (es : List Expr) (cg : List D → En → Option En) : Prop where
  pgs : PGs X es (liftGs g js cg)
def stN (i : Nat) : CG := fun d ρ => some (ρ.set i (some (Sl.v d)))
def stNil : List D → En → Option En
  | [], ρ => some ρ
  | _, _ => none
def stCons (s : CG) (t : List D → En → Option En) : List D → En → Option En
  | d :: ds, ρ => (s d ρ).bind (t ds)
  | _, _ => none
def stT (t : List D → En → Option En) : CG := fun d ρ => (seqD d).bind fun ds => t ds ρ
theorem AgreeOff.refl (σ : L2.St) : AgreeOff [] σ σ := ⟨rfl, fun _ _ => rfl⟩
theorem AgreeOff.trans {js ks : List Nat} {a b c : L2.St} (h : AgreeOff js a b) (h' : AgreeOff ks b c) : AgreeOff (js ++ ks) a c := ⟨h'.1.trans h.1, fun j n => by
  rw [List.mem_append, not_or] at n
  exact (h'.2 j n.2).trans (h.2 j n.1)⟩
theorem agree_set {σ : L2.St} {i : Nat} {x : Option V} : AgreeOff [i] σ (σ.set i x) := ⟨List.length_set, fun j n => by
  rw [List.mem_singleton] at n
  exact List.getElem?_set_ne (Ne.symm n)⟩
theorem pdg_name {i : Nat} {x : Str} (hN : X.N.Nodup) (hi : X.N[i]? = some x) (hx : Loc X.env.scope x) (hf : X.fn x = true ∨ X.env.scope.names.lookup x = some .local := by first | exact .inl rfl | exact .inr rfl | assumption) : PDG X g [i] (.Name x pos) (stN i) := by
  refine ⟨⟨fun pins s σ H v u Q I r h => ?_⟩⟩
  obtain ⟨C, ρ, ρ', n, O, d, hK, E, iv, e, q⟩ := h
  cases e
  obtain ⟨a, b⟩ := E.set (i := i) iv
  exact (pg_name hN hi hx hf).run pins s σ H v u Q I r (q _ _ a b agree_set)
theorem pdgs_nil : PDGs X g [] [] stNil := by
  refine ⟨⟨fun pins s σ H vs us Q I r h => ?_⟩⟩
  obtain ⟨C, ρ, ρ', n, O, ds, hK, E, iv, e, q⟩ := h
  cases ds with
  | nil =>
    cases e
    cases iv
    exact pgs_nil.run pins s σ H [] us Q I r ⟨rfl, q _ _ E (Same.refl _) (.refl _)⟩
  | cons d ds => cases e
theorem pdgs_cons {js ks : List Nat} {e : Expr} {es : List Expr} {t : CG} {u : List D → En → Option En} (h1 : PDG X g js e t) (h2 : PDGs X g ks es u)
    (hs : (assignEach (e :: es) X.env).map (·.2) = assign e X.env :: (assignEach es X.env).map (·.2) := by rfl) : PDGs X g (js ++ ks) (e :: es) (stCons t u) := by
  refine ⟨⟨fun pins s σ H vs us Q I r h => ?_⟩⟩
  obtain ⟨C, ρ, ρ', n, O, ds, hK, E, iv, e', q⟩ := h
  cases ds with
  | nil => cases e'
  | cons d ds =>
    cases iv with
    | cons a b =>
      replace e' : (t d ρ).bind (u ds) = some ρ' := e'
      cases hd : t d ρ with
      | none => rw [hd] at e'; cases e'
      | some ρ1 =>
        rw [hd] at e'
        exact (pgs_cons h1.pg h2.pgs hs).run pins s σ H _ us Q I r ⟨_, _, rfl, C, ρ, ρ1, n, O, d, hK, E, a, hd, fun σ1 O1 E1 S1 A1 => ⟨C, ρ1, ρ', n, O1, ds, hK, E1, b.same S1, e', fun σ2 O2 E2 S2 A2 => q _ _ E2 (S1.trans S2) (A1.trans A2)⟩⟩
theorem pg_or {e : Expr} {t u : TG} (h1 : PG X e t) (h2 : PG X e u) : PG X e (fun v σ H Q => t v σ H Q ∨ u v σ H Q) :=
  ⟨fun pins s σ H v w Q I r h => h.elim (h1.run pins s σ H v w Q I r) (h2.run pins s σ H v w Q I r)⟩
theorem pdg_tup {js : List Nat} {es : List Expr} {k : Nat} {t : List D → En → Option En} {m : Nat} (hc : X.calm = true) (G : Good X g) (h : PDGs X g js es t) (hl : ∀ ds ρ ρ', t ds ρ = some ρ' → ds.length = m)
    (hn : (assignEach es X.env).length = m := by rfl) (hst : (assignEach es X.env).findIdx? (·.1) = none := by rfl) : PDG X g js (.Tuple es k pos) (stT t) := by
  refine ⟨⟨fun pins s σ H v u Q I r h' => ?_⟩⟩
  obtain ⟨C, ρ, ρ', n, O, d, hK, E, iv, e, q⟩ := h'
  unfold stT at e
  cases hs : seqD d with
  | none => rw [hs] at e; cases e
  | some ds =>
    rw [hs] at e
    obtain ⟨a, us, rfl, r', c⟩ := iv.seq hs
    have l := hl ds ρ ρ' e
    have rest : liftGs g js t us σ H Q := ⟨C, ρ, ρ', n, O, ds, hK, E, r', e, q⟩
    have eK := hK.1.trans G.K
    refine (pg_or (pg_tup hc h.pgs hn hst) (pg_lst hc h.pgs hn hst)).run pins s σ H _ u Q I r ?_
    rcases c with ⟨_, c⟩ | ⟨_, c⟩
    · exact .inr ⟨a, us, rfl, SqL.of (hid_le _ _ c), by rw [r'.length, l], rest⟩
    · exact .inl ⟨a, us, rfl, eK ▸ sqt_same hid_le c, by rw [r'.length, l], rest⟩
theorem stNil_len (ds : List D) (ρ ρ' : En) (h : stNil ds ρ = some ρ') : ds.length = 0 := by
  cases ds with
  | nil => rfl
  | cons => cases h
theorem stCons_len {s : CG} {t : List D → En → Option En} {m : Nat} (ht : ∀ ds ρ ρ', t ds ρ = some ρ' → ds.length = m) (ds : List D) (ρ ρ' : En) (h : stCons s t ds ρ = some ρ') : ds.length = m + 1 := by
  cases ds with
  | nil => cases h
  | cons d ds =>
    replace h : (s d ρ).bind (t ds) = some ρ' := h
    cases hd : s d ρ with
    | none => rw [hd] at h; cases h
    | some ρ1 =>
      rw [hd] at h
      rw [List.length_cons, ht ds ρ1 ρ' h]
end
end RM
namespace RM
open PySem PySem.Spec PyProof.Rows L2 CS RZ
/-! ### a list in the making -/
def out (H : Hp) (a : Addr) : Hp := fun b => if b = a then none else H b
theorem out_same {H : Hp} {a : Addr} : out H a a = none := by unfold out; rw [if_pos rfl]
theorem out_ne {H : Hp} {a b : Addr} (h : b ≠ a) : out H a b = H b := by unfold out; rw [if_neg h]
theorem out_le {H : Hp} {a : Addr} : Same (out H a) H := fun b o h => by
  unfold out at h
  split at h
  · cases h
  · exact h
theorem out_upd {H : Hp} {a : Addr} {o : HO} : out (upd H a o) a = out H a := by
  funext b
  by_cases c : b = a
  · rw [c, out_same, out_same]
  · rw [out_ne c, out_ne c, upd_ne c]
theorem out_new {H : Hp} {a : Addr} {o : HO} (h : H a = none) : out (upd H a o) a = H := by
  funext b
  by_cases c : b = a
  · rw [c, out_same, h]
  · rw [out_ne c, upd_ne c]
/-- one more address is hidden, its object stays -/
def Ctx.plus (C : Ctx) (a : Addr) (o : HO) : Ctx := { C with Z := fun b => C.Z b ∨ b = a, H0 := upd C.H0 a o }
section
variable {C : Ctx} {ρ : En} {n : Nat} {σ : L2.St} {H H' : Hp} {O : Ow} {a : Addr} {o : HO}
theorem hid_plus : hid (C.plus a o) O H = hid C O (out H a) := by
  funext b
  unfold hid
  by_cases c : b = a
  · subst c
    rw [if_pos (.inl (.inr rfl)), out_same]
    split <;> rfl
  · rw [out_ne c]
    by_cases z : C.Z b ∨ ∃ i, O i = some b
    · rw [if_pos z, if_pos]
      rcases z with z | z
      · exact .inl (.inl z)
      · exact .inr z
    · rw [if_neg z, if_neg]
      rintro ((w | w) | w)
      · exact z (.inl w)
      · exact c w
      · exact z (.inr w)
theorem Ev.hide (E : Ev C ρ n σ (out H a) O) (h : H a = some o) (no : ∀ xs, o ≠ HO.tup xs := by intro xs z; cases z) : Ev (C.plus a o) ρ n σ H O := by
  obtain ⟨f1, f2, f3, f4⟩ := E.fresh (p := a) out_same
  have keepO : ∀ i p, O i = some p → p ≠ a := fun i p e z => f2 i (e.trans (congrArg some z))
  refine ⟨E.len, fun i d e => ?_, fun i d e => ?_, fun i p e => ⟨(E.only i p e).1, ?_⟩, E.inj, fun b z => ?_, fun b xs z e => ?_, fun b u e z => ?_, fun b e => ⟨.inl (E.box b e).1, ?_⟩, E.slf, by rw [hid_plus]; exact E.vis⟩
  · rw [hid_plus]
    exact E.val i d e
  · rw [hid_plus]
    obtain ⟨p, h1, h2, h3⟩ := E.own i d e
    exact ⟨p, h1, h2, h3.same (Same.refl _) (out_ne (keepO i p h1)).symm⟩
  · show upd C.H0 a o p = none
    rw [upd_ne (keepO i p e)]
    exact (E.only i p e).2
  · by_cases c : b = a
    · exact ⟨o, by show upd C.H0 a o b = some o; rw [c, upd_same]⟩
    · rcases z with z | z
      · obtain ⟨u, hu⟩ := E.zs b z
        exact ⟨u, by show upd C.H0 a o b = some u; rw [upd_ne c]; exact hu⟩
      · exact absurd z c
  · replace e : upd C.H0 a o b = some (.tup xs) := e
    by_cases c : b = a
    · subst c
      rw [upd_same] at e
      exact no xs (Option.some.inj e)
    · rw [upd_ne c] at e
      rcases z with z | z
      · exact E.zt b xs z e
      · exact c z
  · replace e : upd C.H0 a o b = some u := e
    by_cases c : b = a
    · subst c
      rw [upd_same] at e
      exact h.trans e
    · rw [upd_ne c] at e
      exact (out_ne c).symm.trans (E.keep b u e z)
  · exact (E.box b e).2.same out_le
theorem Ev.unhide (E : Ev (C.plus a o) ρ n σ H O) (hz : ¬ C.Z a) (hb : C.T.bx ≠ some a) (h0 : C.H0 a = none) : Ev C ρ n σ (out H a) O ∧ H a = some o := by
  have ha : H a = some o := E.keep a o (by show upd C.H0 a o a = some o; exact upd_same) hb
  have keepO : ∀ i p, O i = some p → p ≠ a := fun i p e z => by
    have h1 : upd C.H0 a o p = none := (E.only i p e).2
    rw [z, upd_same] at h1
    cases h1
  refine ⟨⟨E.len, fun i d e => ?_, fun i d e => ?_, fun i p e => ⟨(E.only i p e).1, ?_⟩, E.inj, fun b z => ?_, fun b xs z e => ?_, fun b u e z => ?_, fun b e => ⟨?_, ?_⟩, E.slf, by have := E.vis; rw [hid_plus] at this; exact this⟩, ha⟩
  · have := E.val i d e
    rw [hid_plus] at this
    exact this
  · obtain ⟨p, h1, h2, h3⟩ := E.own i d e
    rw [hid_plus] at h3
    exact ⟨p, h1, h2, h3.same (Same.refl _) (out_ne (keepO i p h1))⟩
  · have h1 : upd C.H0 a o p = none := (E.only i p e).2
    rw [upd_ne (keepO i p e)] at h1
    exact h1
  · obtain ⟨u, hu⟩ := E.zs b (.inl z)
    replace hu : upd C.H0 a o b = some u := hu
    have c : b ≠ a := fun q => hz (q ▸ z)
    rw [upd_ne c] at hu
    exact ⟨u, hu⟩
  · have c : b ≠ a := fun q => hz (q ▸ z)
    refine E.zt b xs (.inl z) ?_
    show upd C.H0 a o b = _
    rw [upd_ne c]
    exact e
  · have c : b ≠ a := fun q => by rw [q, h0] at e; cases e
    rw [out_ne c]
    exact E.keep b u (by show upd C.H0 a o b = some u; rw [upd_ne c]; exact e) z
  · have c : b ≠ a := fun q => hb (e.trans (congrArg some q))
    rcases (E.box b e).1 with z | z
    · exact z
    · exact absurd z c
  · have c : b ≠ a := fun q => hb (e.trans (congrArg some q))
    obtain ⟨A, B, F, h1, h2⟩ := (E.box b e).2
    exact ⟨A, B, F, (out_ne c).trans h1, h2⟩
/-! slots forgotten -/
def wipeE (ρ : En) : List Nat → En
  | [] => ρ
  | v :: vs => (wipeE ρ vs).set v none
noncomputable def cutOs (O : Ow) : List Nat → Ow
  | [] => O
  | v :: vs => cutO (cutOs O vs) v
theorem hid_cuts : ∀ vs : List Nat, Same (hid C O H) (hid C (cutOs O vs) H)
  | [] => Same.refl _
  | _ :: vs => (hid_cuts vs).trans hid_cut
theorem Ev.wipes (E : Ev C ρ n σ H O) : ∀ vs : List Nat, Ev C (wipeE ρ vs) n (wipe σ vs) H (cutOs O vs)
  | [] => E
  | v :: vs => (E.wipes vs).wipe1 v
theorem Ev.unwipe {vs : List Nat} (E : Ev C ρ n (wipe σ vs) H O) : Ev C ρ n σ H O where
  len := by rw [E.len, wipe_length]
  val := fun i d e => let ⟨v, h1, h2⟩ := E.val i d e; ⟨v, (wipe_some h1).1, h2⟩
  own := fun i d e => let ⟨p, h1, h2, h3⟩ := E.own i d e; ⟨p, h1, (wipe_some h2).1, h3⟩
  only := E.only
  inj := E.inj
  zs := E.zs
  zt := E.zt
  keep := E.keep
  box := E.box
  slf := E.slf
  vis := E.vis
theorem wipe_get (σ : L2.St) (j : Nat) : ∀ vs : List Nat, (wipe σ vs)[j]? = if j ∈ vs then (σ[j]?).map (fun _ => none) else σ[j]?
  | [] => by simp [wipe]
  | v :: vs => by
    unfold wipe
    by_cases c : v = j
    · subst c
      rw [List.getElem?_set_self']
      rw [wipe_get σ v vs]
      simp only [List.mem_cons, true_or, if_true]
      split
      · cases σ[v]? <;> rfl
      · rfl
    · rw [List.getElem?_set_ne c, wipe_get σ j vs]
      have e : (j ∈ v :: vs) = (j ∈ vs) := by
        rw [List.mem_cons, eq_iff_iff]
        exact ⟨fun h => h.elim (fun z => absurd z.symm c) id, .inr⟩
      simp only [e]
theorem wipe_agree {σ σ' : L2.St} {js vs : List Nat} (h : AgreeOff js σ σ') (hs : ∀ j ∈ js, j ∈ vs) : wipe σ' vs = wipe σ vs := by
  refine List.ext_getElem? fun j => ?_
  rw [wipe_get, wipe_get]
  by_cases c : j ∈ vs
  · rw [if_pos c, if_pos c]
    by_cases l : j < σ.length
    · rw [List.getElem?_eq_getElem l, List.getElem?_eq_getElem (by rw [h.1]; exact l)]
      rfl
    · have hl := h.1
      rw [List.getElem?_eq_none (by omega), List.getElem?_eq_none (by omega)]
  · rw [if_neg c, if_neg c]
    exact h.2 j fun z => c (hs j z)
end
def kF : KE := fun _ _ _ => False
theorem xl_F {C : Ctx} {xk : WX} : XL C xk kF := fun _ _ _ _ _ _ _ _ h => h.elim
structure PDTs (X : Cx) (g : Glob) (xk : WX) (es : List Expr) (td : CT) : Prop where
  pts : PTs X es (liftT g xk td)
def cYes : CT := fun ρ n k _ => k true ρ n
section
variable {X : Cx} {g : Glob} {xk : WX} {pos : Pos}
theorem pdts_nil : PDTs X g xk [] cYes := ⟨⟨fun pins s σ H Q I h => by
  obtain ⟨C, ρ, n, O, k, ke, hK, E, t, x, q⟩ := h
  exact pts_nil.run pins s σ H Q I (q _ _ _ _ _ t E (Same.refl _))⟩⟩
theorem pdts_one {e : Expr} {td : CT} (h : PDT X g xk e td) : PDTs X g xk [e] td := ⟨pts_one h.pt⟩
/-- the turns of a comprehension -/
def cLcL (cg : CG) (tt : CT) (te : CE) (vs : List Nat) : List D → En → Nat → List D → (List D → En → Nat → Prop) → Prop
  | [], ρ, n, acc, k => k acc ρ n
  | d :: ds, ρ, n, acc, k => ∃ ρ1, cg d ρ = some ρ1 ∧ tt ρ1 n (fun b ρ2 n2 => if b = true then te ρ2 n2 (fun y ρ3 n3 => acc.length < lim ∧ cLcL cg tt te vs ds (wipeE ρ3 vs) n3 (acc ++ [y]) k) kF
      else cLcL cg tt te vs ds (wipeE ρ2 vs) n2 acc k) kF
def cLc (ci : CA) (cg : CG) (tt : CT) (te : CE) (vs : List Nat) : CE := fun ρ n k ke => ci ρ n (fun ds ρ' n' => cLcL cg tt te vs ds (wipeE ρ' vs) n' [] (fun acc ρ2 n2 => k (.list acc) ρ2 n2)) ke
theorem lc_use {ci : CA} {cg : CG} {js vs : List Nat} {tt : CT} {te : CE} (hj : ∀ j ∈ js, j ∈ vs) {σ : L2.St} {H : Hp} {Q : VK} (r : liftF g xk (cLc ci cg tt te vs) σ H Q) : tLc (liftI g xk ci) (liftG g js cg) (liftT g xF tt) (lift g xF te) vs σ H Q := by
  obtain ⟨C, ρ, n, O, k, ke, hK, E, t, x, q⟩ := r
  refine ⟨C, ρ, n, O, _, ke, hK, E, t, x, fun ds ρ1 n1 J H1 O1 k1 E1 S1 WD => ?_⟩
  intro Da nD
  obtain ⟨f1, f2, f3, f4⟩ := E1.fresh nD
  obtain ⟨Gd, Y, WK, hG, hY⟩ := WD.ex
  refine lc_it WK (fun i H => ∃ (ρ : En) (n : Nat) (O : Ow) (acc : List D) (accV : List V), Ev C ρ n (wipe σ vs) (out H Da) O ∧ H Da = some (.lst accV) ∧ IsL C.T (hid C O (out H Da)) accV acc ∧
    cLcL cg tt te vs (ds.drop i) ρ n acc (fun acc ρ2 n2 => k (.list acc) ρ2 n2) ∧ Same (hid C O1 H1) (hid C O (out H Da))) ?_ ?_ ?_ ?_
  · refine ⟨_, n1, _, [], [], (by rw [out_new nD]; exact E1.wipes vs), upd_same, .nil, k1, ?_⟩
    rw [out_new nD]
    exact hid_cuts vs
  · rintro i H2 _ ⟨ρ2, n2, O2, acc, accV, E2, eD, iA, c2, S2⟩
    exact hG _ ((S2.trans hid_le).trans out_le)
  · rintro i x0 H2 H3 hi' ⟨ρ2, n2, O2, acc, accV, E2, eD, iA, c2, S2⟩ y
    have hd : ds.drop i = ds[i] :: ds.drop (i + 1) := List.drop_eq_getElem_cons hi'
    rw [hd] at c2
    obtain ⟨ρ3, e3, c3⟩ := c2
    have S2' : Same (hid C O1 H1) H2 := (S2.trans hid_le).trans out_le
    obtain ⟨sY, iY⟩ := hY i x0 H2 H3 ds[i] S2' y (List.getElem?_eq_getElem hi')
    have E4 := E2.hide eD
    have E5 := E4.ext sY
    have h45 := hid_same (C := C.plus Da (.lst accV)) (O := O2) sY
    have S6 : Same (hid C O1 H1) (hid (C.plus Da (.lst accV)) O2 H3) := by
      refine Same.trans ?_ h45
      rw [hid_plus]
      exact S2
    have ix : Is C.T (hid (C.plus Da (.lst accV)) O2 H3) x0 ds[i] := iY _ S6 fun b u h1 h2 => let ⟨g1, g2, _, _⟩ := E4.fresh h2; hid_of h1 g1 g2
    refine ⟨C.plus Da (.lst accV), ρ2, ρ3, n2, O2, ds[i], hK, E5, ix, e3, fun σ4 O4 E6 S7 A4 => ⟨wipe_agree (σ := wipe σ vs) A4 hj |>.trans (by
      refine List.ext_getElem? fun j => ?_
      rw [wipe_get, wipe_get]
      split
      · cases σ[j]? <;> rfl
      · rfl), ?_⟩⟩
    have wp : wipe σ4 vs = wipe σ vs := wipe_agree (σ := wipe σ vs) A4 hj |>.trans (by
      refine List.ext_getElem? fun j => ?_
      rw [wipe_get, wipe_get]
      split
      · cases σ[j]? <;> rfl
      · rfl)
    refine ⟨C.plus Da (.lst accV), ρ3, n2, O4, _, kF, hK, E6, c3, xl_F, fun b ρ5 n5 H5 O5 c5 E7 S8 => ?_⟩
    cases b with
    | false =>
      show ∃ _, _
      obtain ⟨E8, eD8⟩ := E7.unhide f1 f4 f3
      have E9 := E8.wipes vs
      rw [wp] at E9
      have S10 := ((S6.trans S7).trans S8)
      rw [hid_plus] at S10
      have iA2 : IsL C.T (hid C O5 (out H5 Da)) accV acc := iA.same (by
        have := (h45.trans S7).trans S8
        rw [hid_plus, hid_plus] at this
        exact this)
      exact ⟨_, _, _, acc, accV, E9, eD8, iA2.same (hid_cuts vs), c5, S10.trans (hid_cuts vs)⟩
    | true =>
      refine ⟨C.plus Da (.lst accV), ρ5, n5, O5, _, kF, hK, E7, c5, xl_F, fun yd ρ6 n6 yv H6 O6 c6 E8 S9 iy => ?_⟩
      obtain ⟨E9, eD9⟩ := E8.unhide f1 f4 f3
      refine ⟨accV, eD9, by rw [iA.length]; exact lim_lt c6.1, ?_⟩
      have E10 := E9.wipes vs
      rw [wp] at E10
      have S10 := (((S6.trans S7).trans S8).trans S9)
      rw [hid_plus] at S10 iy
      have iA2 : IsL C.T (hid C O6 (out H6 Da)) accV acc := iA.same (by
        have := ((h45.trans S7).trans S8).trans S9
        rw [hid_plus, hid_plus] at this
        exact this)
      refine ⟨_, _, cutOs O6 vs, acc ++ [yd], accV ++ [yv], ?_, upd_same, ?_, c6.2, ?_⟩
      · rw [out_upd]
        exact E10
      · rw [out_upd]
        exact (iA2.append (.cons iy .nil)).same (hid_cuts vs)
      · rw [out_upd]
        exact S10.trans (hid_cuts vs)
  · rintro H2 ⟨ρ2, n2, O2, acc, accV, E2, eD, iA, c2, S2⟩
    rw [List.drop_length] at c2
    exact q _ _ _ _ _ _ _ c2 E2.unwipe (S1.trans S2) out_same out_le (.lst eD iA) rfl
theorem pf_lc {elt tg iter : Expr} {ifs : List Expr} {scope : Scope} {own : List (Str × Nat)} {ci : CA} {cg : CG} {js : List Nat} {tt : CT} {te : CE} (hc : X.calm = true) (hN : X.N.Nodup) (hi : PDI X g xk tg iter ci) (ok : BlkOk X.N X.env.scope scope own)
    (hg : ∀ (s : Shared) (H : Hp) (C : Addr) (cl : List (Str × Addr)) (fp : List Addr), PDG (X.blk s H scope (compEnvC scope cl C X.env) fp) g js tg cg) (ht : ∀ (s : Shared) (H : Hp) (C : Addr) (cl : List (Str × Addr)) (fp : List Addr), PDTs (X.blk s H scope (compEnvC scope cl C X.env) fp) g xF ifs tt)
    (he : ∀ (s : Shared) (H : Hp) (C : Addr) (cl : List (Str × Addr)) (fp : List Addr), PD (X.blk s H scope (compEnvC scope cl C X.env) fp) g xF elt te) (hj : ∀ j ∈ js, j ∈ own.map (·.2) := by decide) (hs : ∀ x, foldedSetIterable iter X.env x = pure x := by intro _; rfl) :
    PDF X g xk (.ListComp elt [⟨tg, iter, ifs, 0⟩] scope pos) (cLc ci cg tt te (own.map (·.2))) :=
  ⟨PE.imp (pe_lc hc hN hi.pi ok (fun s H C cl fp => (hg s H C cl fp).pg) (fun s H C cl fp => (ht s H C cl fp).pts) (fun s H C cl fp => (he s H C cl fp).pe) hs) fun σ H Q r => lc_use hj r⟩
end
end RM
namespace RM
open PySem PySem.Spec PyProof.Rows L2 CS RZ
/-! ### statements -/
structure EndsD where
  nx : En → Nat → Prop
  rt : D → Nat → Prop
  bk : En → Nat → Prop
  ct : En → Nat → Prop
  xc : KE
abbrev CS := En → Nat → EndsD → Prop
/-- a def is left: what was there is kept, the box is at its count -/
structure Fin (C : Ctx) (n : Nat) (H : Hp) : Prop where
  keep : ∀ a o, C.H0 a = some o → C.T.bx ≠ some a → H a = some o
  box : ∀ b, C.T.bx = some b → BoxAt H b n
theorem Ev.fin {C : Ctx} {ρ : En} {n : Nat} {σ : L2.St} {H : Hp} {O : Ow} (E : Ev C ρ n σ H O) : Fin C n H := ⟨E.keep, fun b h => (E.box b h).2⟩
theorem hid_now {C : Ctx} {H : Hp} {O : Ow} : Same (hid C O H) (hid C now H) := fun a o h => by
  obtain ⟨h1, h2, _⟩ := hid_some h
  exact hid_of h1 h2 fun i z => nomatch z
structure LinkS (C : Ctx) (xk : WX) (e : EndsD) (Hb : Hp) (F : Ends) : Prop where
  nx : ∀ (ρ : En) (n : Nat) (σ : L2.St) (H : Hp) (O : Ow), e.nx ρ n → Ev C ρ n σ H O → Same Hb (hid C O H) → F.nx σ H
  rt : ∀ (d : D) (n : Nat) (v : V) (H : Hp), e.rt d n → Fin C n H → Is C.T (hid C now H) v d → F.rt v H
  bk : ∀ (ρ : En) (n : Nat) (σ : L2.St) (H : Hp) (O : Ow), e.bk ρ n → Ev C ρ n σ H O → Same Hb (hid C O H) → F.bk σ H
  ct : ∀ (ρ : En) (n : Nat) (σ : L2.St) (H : Hp) (O : Ow), e.ct ρ n → Ev C ρ n σ H O → Same Hb (hid C O H) → F.ct σ H
  xc : XL C xk e.xc
theorem LinkS.mono {C : Ctx} {xk : WX} {e : EndsD} {Hb Hb' : Hp} {F : Ends} (l : LinkS C xk e Hb F) (s : Same Hb Hb') : LinkS C xk e Hb' F :=
  ⟨fun ρ n σ H O a b c => l.nx ρ n σ H O a b (s.trans c), l.rt, fun ρ n σ H O a b c => l.bk ρ n σ H O a b (s.trans c), fun ρ n σ H O a b c => l.ct ρ n σ H O a b (s.trans c), l.xc⟩
def liftS (g : Glob) (xk : WX) (cs : CS) : TS := fun F σ H => ∃ (C : Ctx) (ρ : En) (n : Nat) (O : Ow) (e : EndsD), C.On g ∧ Ev C ρ n σ H O ∧ cs ρ n e ∧ LinkS C xk e (hid C O H) F
structure PDS (X : Cx) (g : Glob) (xk : WX) (st : Stmt) (cs : CS) : Prop where
  ps : PS X st (liftS g xk cs)
structure PDSs (X : Cx) (g : Glob) (xk : WX) (st : List Stmt) (cs : CS) : Prop where
  pss : PSs X st (liftS g xk cs)
theorem ps_imp {X : Cx} {e : Stmt} {t t' : TS} (h : PS X e t) (q : ∀ D σ H, t' D σ H → t D σ H) : PS X e t' := ⟨fun pins s σ H D I r => h.run pins s σ H D I (q _ _ _ r)⟩
theorem pss_imp {X : Cx} {e : List Stmt} {t t' : TS} (h : PSs X e t) (q : ∀ D σ H, t' D σ H → t D σ H) : PSs X e t' := ⟨fun pins s σ H D I r => h.run pins s σ H D I (q _ _ _ r)⟩
def cNext : CS := fun ρ n e => e.nx ρ n
def cSq (a b : CS) : CS := fun ρ n e => a ρ n { e with nx := fun ρ' n' => b ρ' n' e }
def cDrop (t : CE) : CS := fun ρ n e => t ρ n (fun _ ρ' n' => e.nx ρ' n') e.xc
def cRet (t : CE) : CS := fun ρ n e => t ρ n (fun d _ n' => e.rt d n') e.xc
def cRetN : CS := fun _ n e => e.rt .none n
def cBrk : CS := fun ρ n e => e.bk ρ n
def cCont : CS := fun ρ n e => e.ct ρ n
def cSet (i : Nat) (t : CE) : CS := fun ρ n e => t ρ n (fun d ρ' n' => e.nx (ρ'.set i (some (Sl.v d))) n') e.xc
def cOwn (i : Nat) (t : CE) : CS := fun ρ n e => t ρ n (fun d ρ' n' => i < ρ'.length ∧ e.nx (ρ'.set i (some (Sl.own d))) n') e.xc
def cAsg (cg : CG) (t : CE) : CS := fun ρ n e => t ρ n (fun d ρ' n' => ∃ ρ2, cg d ρ' = some ρ2 ∧ e.nx ρ2 n') e.xc
def cIfS (c : CT) (a b : CS) : CS := fun ρ n e => c ρ n (fun t ρ' n' => if t = true then a ρ' n' e else b ρ' n' e) e.xc
def cForL (cg : CG) (body : CS) : List D → En → Nat → EndsD → Prop
  | [], ρ, n, e => e.nx ρ n
  | d :: ds, ρ, n, e => ∃ ρ1, cg d ρ = some ρ1 ∧ body ρ1 n { e with nx := fun ρ' n' => cForL cg body ds ρ' n' e, ct := fun ρ' n' => cForL cg body ds ρ' n' e, bk := e.nx }
def cFor (ci : CA) (cg : CG) (body : CS) : CS := fun ρ n e => ci ρ n (fun ds ρ' n' => cForL cg body ds ρ' n' e) e.xc
def cWhL (c : CT) (body : CS) : Nat → En → Nat → EndsD → Prop
  | 0, _, _, _ => False
  | m + 1, ρ, n, e => c ρ n (fun b ρ' n' => if b = true then body ρ' n' { e with nx := fun ρ2 n2 => cWhL c body m ρ2 n2 e, ct := fun ρ2 n2 => cWhL c body m ρ2 n2 e, bk := e.nx } else e.nx ρ' n') e.xc
def cWh (c : CT) (body : CS) : CS := fun ρ n e => ∃ m, cWhL c body m ρ n e
section
variable {X : Cx} {g : Glob} {xk : WX} {pos : Pos}
theorem pdss_nil : PDSs X g xk [] cNext := ⟨pss_imp pss_nil fun D σ H ⟨C, ρ, n, O, e, hK, E, t, l⟩ => l.nx _ _ _ _ _ t E (Same.refl _)⟩
theorem pdss_cons {st : Stmt} {rest : List Stmt} {a b : CS} (h1 : PDS X g xk st a) (h2 : PDSs X g xk rest b) : PDSs X g xk (st :: rest) (cSq a b) :=
  ⟨pss_imp (pss_cons h1.ps h2.pss) fun D σ H ⟨C, ρ, n, O, e, hK, E, t, l⟩ => ⟨C, ρ, n, O, _, hK, E, t, ⟨fun ρ' n' σ' H' O' x E' S => ⟨C, ρ', n', O', e, hK, E', x, l.mono S⟩, l.rt, l.bk, l.ct, l.xc⟩⟩⟩
theorem pdss_one {st : Stmt} {a : CS} (h1 : PDS X g xk st a) : PDSs X g xk [st] a := ⟨pss_one h1.ps⟩
theorem pds_pass : PDS X g xk (.Pass pos) cNext := ⟨ps_imp ps_pass fun D σ H ⟨C, ρ, n, O, e, hK, E, t, l⟩ => l.nx _ _ _ _ _ t E (Same.refl _)⟩
theorem pds_break : PDS X g xk (.Break pos) cBrk := ⟨ps_imp ps_break fun D σ H ⟨C, ρ, n, O, e, hK, E, t, l⟩ => l.bk _ _ _ _ _ t E (Same.refl _)⟩
theorem pds_continue : PDS X g xk (.Continue pos) cCont := ⟨ps_imp ps_continue fun D σ H ⟨C, ρ, n, O, e, hK, E, t, l⟩ => l.ct _ _ _ _ _ t E (Same.refl _)⟩
theorem pds_expr {e : Expr} {t : CE} (he : PD X g xk e t) (hs : swapsWith e none pos.line X.env = pure false := by rfl) : PDS X g xk (.Expr e pos) (cDrop t) :=
  ⟨ps_imp (ps_expr he.pe hs) fun D σ H ⟨C, ρ, n, O, e, hK, E, t, l⟩ => ⟨C, ρ, n, O, _, _, hK, E, t, l.xc, fun d ρ' n' v H' O' x E' S i => l.nx _ _ _ _ _ x E' S⟩⟩
theorem pds_ret {e : Expr} {t : CE} (he : PD X g xk e t) : PDS X g xk (.Return (some e) pos) (cRet t) :=
  ⟨ps_imp (ps_ret he.pe) fun D σ H ⟨C, ρ, n, O, e, hK, E, t, l⟩ => ⟨C, ρ, n, O, _, _, hK, E, t, l.xc, fun d ρ' n' v H' O' x E' S i => l.rt _ _ _ _ x E'.fin (i.same hid_now)⟩⟩
theorem pds_retN : PDS X g xk (.Return none pos) cRetN :=
  ⟨ps_imp ps_retN fun D σ H ⟨C, ρ, n, O, e, hK, E, t, l⟩ => l.rt _ _ _ _ t E.fin .non⟩
theorem set_use {t : CE} {i : Nat} {D : Ends} {σ : L2.St} {H : Hp} (h : liftS g xk (cSet i t) D σ H) : tAsg (lift g xk t) (gName i) D σ H := by
  obtain ⟨C, ρ, n, O, e, hK, E, t, l⟩ := h
  refine ⟨C, ρ, n, O, _, _, hK, E, t, l.xc, fun d ρ' n' v H' O' x E' S iv => ?_⟩
  obtain ⟨a, b⟩ := E'.set (i := i) iv
  exact l.nx _ _ _ _ _ x a (S.trans b)
theorem own_use {t : CE} {i : Nat} {D : Ends} {σ : L2.St} {H : Hp} (h : liftS g xk (cOwn i t) D σ H) : tAsg (liftF g xk t) (gName i) D σ H := by
  obtain ⟨C, ρ, n, O, e, hK, E, t, l⟩ := h
  refine ⟨C, ρ, n, O, _, _, hK, E, t, l.xc, fun d ρ' n' p H1 H' O' x E' S hp s ow no => ?_⟩
  obtain ⟨a, b⟩ := E'.setOwn (i := i) x.1 hp s ow no
  exact l.nx _ _ _ _ _ x.2 a (S.trans b)
theorem pds_set {i : Nat} {x : Str} {e : Expr} {t : CE} {pos' : Pos} (hN : X.N.Nodup) (hi : X.N[i]? = some x) (hx : Loc X.env.scope x) (he : PD X g xk e t) (hs : swapsWith e (some (.Name x pos')) pos.line X.env = pure false := by rfl)
    (hf : X.fn x = true ∨ X.env.scope.names.lookup x = some .local := by first | exact .inl rfl | exact .inr rfl | assumption) : PDS X g xk (.Assign [.Name x pos'] e pos) (cSet i t) :=
  ⟨ps_imp (ps_set hN hi hx he.pe hs hf) fun D σ H h => set_use h⟩
theorem pds_own {i : Nat} {x : Str} {e : Expr} {t : CE} {pos' : Pos} (hN : X.N.Nodup) (hi : X.N[i]? = some x) (hx : Loc X.env.scope x) (he : PDF X g xk e t) (hs : swapsWith e (some (.Name x pos')) pos.line X.env = pure false := by rfl)
    (hf : X.fn x = true ∨ X.env.scope.names.lookup x = some .local := by first | exact .inl rfl | exact .inr rfl | assumption) : PDS X g xk (.Assign [.Name x pos'] e pos) (cOwn i t) :=
  ⟨ps_imp (ps_set hN hi hx he.pe hs hf) fun D σ H h => own_use h⟩
theorem pds_ownLc {i : Nat} {y : Str} {py : Pos} {elt tg iter : Expr} {ifs : List Expr} {scope : Scope} {own : List (Str × Nat)} {pos spos : Pos} {ci : CA} {cg : CG} {js : List Nat} {tt : CT} {te : CE} (hc : X.calm = true) (hN : X.N.Nodup) (hy : X.N[i]? = some y) (hyl : X.env.scope.names.lookup y = some .local)
    (hi : PDI X g xk tg iter ci) (ok : BlkOk X.N X.env.scope scope own)
    (hg : ∀ (s : Shared) (H : Hp) (C : Addr) (cl : List (Str × Addr)) (fp : List Addr), PDG (X.blk s H scope (compEnvC scope cl C X.env) fp) g js tg cg) (ht : ∀ (s : Shared) (H : Hp) (C : Addr) (cl : List (Str × Addr)) (fp : List Addr), PDTs (X.blk s H scope (compEnvC scope cl C X.env) fp) g xF ifs tt)
    (he : ∀ (s : Shared) (H : Hp) (C : Addr) (cl : List (Str × Addr)) (fp : List Addr), PD (X.blk s H scope (compEnvC scope cl C X.env) fp) g xF elt te)
    (hsw : swapsWith (.ListComp elt [⟨tg, iter, ifs, 0⟩] scope pos) (some (.Name y py)) spos.line X.env = pure true := by rfl) (hj : ∀ j ∈ js, j ∈ own.map (·.2) := by decide) (hs : ∀ x, foldedSetIterable iter X.env x = pure x := by intro _; rfl) :
    PDS X g xk (.Assign [.Name y py] (.ListComp elt [⟨tg, iter, ifs, 0⟩] scope pos) spos) (cOwn i (cLc ci cg tt te (own.map (·.2)))) :=
  ⟨ps_imp (ps_setLc hc hN hy hyl hsw hi.pi ok (fun s H C cl fp => (hg s H C cl fp).pg) (fun s H C cl fp => (ht s H C cl fp).pts) (fun s H C cl fp => (he s H C cl fp).pe) hs) fun D σ H h => lc_use hj (own_use h)⟩
theorem pds_asg {tg e : Expr} {t : CE} {cg : CG} {js : List Nat} (he : PD X g xk e t) (hg : PDG X g js tg cg) (hs : swapsWithSole [tg] e pos.line X.env = pure false := by rfl) (hw : swappedStores [tg] e X.env = pure none := by rfl)
    (h1 : (assignEach [tg] X.env).map (·.2) = [assign tg X.env] := by rfl) : PDS X g xk (.Assign [tg] e pos) (cAsg cg t) :=
  ⟨ps_imp (ps_asg he.pe hg.pg hs hw h1) fun D σ H ⟨C, ρ, n, O, e, hK, E, t, l⟩ => ⟨C, ρ, n, O, _, _, hK, E, t, l.xc, fun d ρ' n' v H' O' x E' S i => let ⟨ρ2, h2, x⟩ := x; ⟨C, ρ', ρ2, n', O', d, hK, E', i, h2, fun σ2 O2 E2 S2 _ => l.nx _ _ _ _ _ x E2 (S.trans S2)⟩⟩⟩
theorem pds_if {c : Expr} {p q : List Stmt} {tc : CT} {a b : CS} (hc : PDT X g xk c tc) (ha : PDSs X g xk p a) (hb : PDSs X g xk q b) : PDS X g xk (.If c p q pos) (cIfS tc a b) := by
  refine ⟨ps_imp (ps_if hc.pt ha.pss hb.pss) fun D σ H h => ?_⟩
  obtain ⟨C, ρ, n, O, e, hK, E, t, l⟩ := h
  refine ⟨C, ρ, n, O, _, _, hK, E, t, l.xc, fun b ρ' n' H' O' x E' S => ?_⟩
  cases b with
  | true => exact ⟨C, ρ', n', O', e, hK, E', x, l.mono S⟩
  | false => exact ⟨C, ρ', n', O', e, hK, E', x, l.mono S⟩
theorem pds_for {tg iter : Expr} {body : List Stmt} {ci : CA} {cg : CG} {js : List Nat} {cb : CS} (hp : PassesOwn (model X.prog X.w) X.A X.env X.xe) (hc : X.calm = true) (hi : PDI X g xk tg iter ci) (hg : PDG X g js tg cg) (hb : PDSs X g xk body cb)
    (hs : ∀ x, foldedSetIterable iter X.env x = pure x := by intro _; rfl) : PDS X g xk (.For tg iter body [] pos) (cFor ci cg cb) := by
  refine ⟨ps_imp (ps_for hp hc hi.pi hg.pg hb.pss hs) fun D σ H h => ?_⟩
  obtain ⟨C, ρ, n, O, e, hK, E, t, l⟩ := h
  refine ⟨C, ρ, n, O, _, _, hK, E, t, l.xc, fun ds ρ1 n1 J H1 O1 k1 E1 S1 WD => ?_⟩
  obtain ⟨Gd, Y, WK, hG, hY⟩ := WD.ex
  refine for_it WK (fun i σ H => ∃ (ρ : En) (n : Nat) (O : Ow), Ev C ρ n σ H O ∧ cForL cg cb (ds.drop i) ρ n e ∧ Same (hid C O1 H1) (hid C O H)) ⟨ρ1, n1, O1, E1, k1, Same.refl _⟩ ?_ ?_ ?_
  · rintro i σ2 H2 _ ⟨ρ2, n2, O2, E2, c2, S2⟩
    exact hG _ (S2.trans hid_le)
  · rintro i x0 σ2 H2 H3 hi' ⟨ρ2, n2, O2, E2, c2, S2⟩ y
    have hd : ds.drop i = ds[i] :: ds.drop (i + 1) := List.drop_eq_getElem_cons hi'
    rw [hd] at c2
    obtain ⟨ρ3, e3, c3⟩ := c2
    obtain ⟨sY, iY⟩ := hY i x0 H2 H3 ds[i] (S2.trans hid_le) y (List.getElem?_eq_getElem hi')
    have E5 := E2.ext sY
    have S6 : Same (hid C O1 H1) (hid C O2 H3) := S2.trans (hid_same sY)
    have ix : Is C.T (hid C O2 H3) x0 ds[i] := iY _ S6 fun b u h1 h2 => let ⟨g1, g2, _, _⟩ := E2.fresh h2; hid_of h1 g1 g2
    refine ⟨C, ρ2, ρ3, n2, O2, ds[i], hK, E5, ix, e3, fun σ4 O4 E6 S7 A4 => ?_⟩
    refine ⟨C, ρ3, n2, O4, _, hK, E6, c3, ⟨fun ρ5 n5 σ5 H5 O5 x E7 S8 => ⟨ρ5, n5, O5, E7, x, (S6.trans S7).trans S8⟩, l.rt, fun ρ5 n5 σ5 H5 O5 x E7 S8 => l.nx _ _ _ _ _ x E7 (((S1.trans S6).trans S7).trans S8), fun ρ5 n5 σ5 H5 O5 x E7 S8 => ⟨ρ5, n5, O5, E7, x, (S6.trans S7).trans S8⟩, l.xc⟩⟩
  · rintro σ2 H2 ⟨ρ2, n2, O2, E2, c2, S2⟩
    rw [List.drop_length] at c2
    exact l.nx _ _ _ _ _ c2 E2 (S1.trans S2)
theorem pds_while {c : Expr} {body : List Stmt} {tc : CT} {cb : CS} (hp : PassesOwn (model X.prog X.w) X.A X.env X.xe) (hc : PDT X g xk c tc) (hb : PDSs X g xk body cb) : PDS X g xk (.While c body [] pos) (cWh tc cb) := by
  refine ⟨ps_imp (ps_while hp hc.pt hb.pss) fun D σ H h => ?_⟩
  obtain ⟨C, ρ, n, O, e, hK, E, ⟨m0, t⟩, l⟩ := h
  refine ⟨fun m σ' H' => ∃ (ρ' : En) (n' : Nat) (O' : Ow), Ev C ρ' n' σ' H' O' ∧ cWhL tc cb m ρ' n' e ∧ Same (hid C O H) (hid C O' H'), ⟨m0, ρ, n, O, E, t, Same.refl _⟩, ?_⟩
  rintro m σ1 H1 ⟨ρ1, n1, O1, E1, c1, S1⟩
  cases m with
  | zero => exact c1.elim
  | succ m =>
    refine ⟨C, ρ1, n1, O1, _, _, hK, E1, c1, l.xc, fun b ρ2 n2 H2 O2 x E2 S2 => ?_⟩
    cases b with
    | false => exact l.nx _ _ _ _ _ x E2 (S1.trans S2)
    | true =>
      exact ⟨fun σ3 H3 => ∃ (ρ' : En) (n' : Nat) (O' : Ow), Ev C ρ' n' σ3 H3 O' ∧ cWhL tc cb m ρ' n' e ∧ Same (hid C O H) (hid C O' H3), fun σ3 H3 z => ⟨m, Nat.lt_succ_self m, z⟩,
        C, ρ2, n2, O2, _, hK, E2, x, ⟨fun ρ5 n5 σ5 H5 O5 x E7 S8 => ⟨ρ5, n5, O5, E7, x, (S1.trans S2).trans S8⟩, l.rt, fun ρ5 n5 σ5 H5 O5 x E7 S8 => l.nx _ _ _ _ _ x E7 ((S1.trans S2).trans S8), fun ρ5 n5 σ5 H5 O5 x E7 S8 => ⟨ρ5, n5, O5, E7, x, (S1.trans S2).trans S8⟩, l.xc⟩⟩
end
end RM
namespace RM
open PySem PySem.Spec PyProof.Rows L2 CS RZ
/-! ### defs and calls -/
abbrev SpD := List D → Nat → (D → Nat → Prop) → (Xv → Nat → Prop) → Prop
def spD (g : Glob) (sd : SpD) : Sp := fun vs H Q E => ∃ (C : Ctx) (ds : List D) (n : Nat) (k : D → Nat → Prop) (ke : Xv → Nat → Prop), C.On g ∧ C.H0 = H ∧ Ev C [] n [] H now ∧ IsL C.T (hid C now H) vs ds ∧ sd ds n k ke ∧
  (∀ (d : D) (n' : Nat) (v : V) (H' : Hp), k d n' → Fin C n' H' → Is C.T (hid C now H') v d → Q v H') ∧
  ∀ (c : Nat) (fs : List (D × D)) (n' : Nat) (dd : Option Addr) (H' : Hp), ke (c, fs) n' → Fin C n' H' → XIs C.T (hid C now H') dd fs → E (.ref (C.T.cls c)) dd H'
def startE (N : List Str) (ds : List D) : En := ds.map (fun d => some (Sl.v d)) ++ List.replicate (N.length - ds.length) none
section
variable {X : Cx} {g : Glob} {xk : WX} {pos : Pos} {C : Ctx} {ρ : En} {n : Nat} {σ : L2.St} {H H' : Hp} {O : Ow}
theorem startE_get {N : List Str} {ds : List D} {i : Nat} {d : D} (h : (startE N ds)[i]? = some (some (Sl.v d))) : ds[i]? = some d := by
  unfold startE at h
  by_cases c : i < ds.length
  · rw [List.getElem?_append_left (by rw [List.length_map]; exact c), List.getElem?_map] at h
    rw [List.getElem?_eq_getElem c] at h ⊢
    cases h
    rfl
  · rw [List.getElem?_append_right (by rw [List.length_map]; omega), List.getElem?_replicate] at h
    split at h <;> cases h
theorem startE_own {N : List Str} {ds : List D} {i : Nat} {d : D} (h : (startE N ds)[i]? = some (some (Sl.own d))) : False := by
  unfold startE at h
  by_cases c : i < ds.length
  · rw [List.getElem?_append_left (by rw [List.length_map]; exact c), List.getElem?_map] at h
    rw [List.getElem?_eq_getElem c] at h
    cases h
  · rw [List.getElem?_append_right (by rw [List.length_map]; omega), List.getElem?_replicate] at h
    split at h <;> cases h
theorem ev_start {N : List Str} {vs : List V} {ds : List D} (E : Ev C [] n [] H now) (i : IsL C.T (hid C now H) vs ds) : Ev C (startE N ds) n (start N vs) H now := by
  refine ⟨?_, fun j d h => ?_, fun j d h => (startE_own h).elim, fun j p h => (by cases h), fun j k p h => (by cases h), E.zs, E.zt, E.keep, E.box, fun p hp j q d h => (by cases h), E.vis⟩
  · unfold startE L2.start
    rw [List.length_append, List.length_append, List.length_map, List.length_map, List.length_replicate, List.length_replicate, i.length]
  · obtain ⟨v, h1, h2⟩ := i.get (startE_get h)
    refine ⟨v, ?_, h2⟩
    unfold L2.start
    rw [List.getElem?_append_left (by rw [List.length_map]; exact lt_of_get h1), List.getElem?_map, h1]
    rfl
/-- the end of a call, sorted by what it gives back -/
theorem cr_out {CX : CXT} {P : Program} {w : World} {outer : List Env} {s : Shared} {Q : VK} {E : XK} {R : Result → Shared → Prop} (he : ∀ e s', CX outer H s E e s' → R (.error e) s') (hv : ∀ u s', L2.CE outer P w H s Q u s' → R (.ok (.ret u)) s') : ∀ r s', CR CX outer P w H s Q E r s' → R r s'
  | .error e, s', h => he e s' h
  | .ok (.ret u), s', h => hv u s' h
  | .ok .next, _, h => h.elim
  | .ok .brk, _, h => h.elim
  | .ok .cont, _, h => h.elim
theorem fn_go {CX : CXT} {P : Program} {w : World} {K : PySem.W.Frag} {mg : Str → Option Value} {base : Heap} {outer : List Env} {A : Around} {s : Shared} {k : Nat} {f : Addr} {fd : FuncData} {ps : List Str} {sp : Sp} {us ds : List Value} {vs : List V} {Q : VK} {E : XK} {R : Result → Shared → Prop} (F : FnOk P w K mg base CX k f fd ps sp) (hr : Room k A) (e0 : Env0 P w K mg base A outer s H) (X : K.In s.heap)
    (hb : Binds K fd ps ds) (rv : Vals vs (us ++ ds)) (q : sp vs H Q E) (he : ∀ e s', CX outer H s E e s' → R (.error e) s') (hv : ∀ u s', L2.CE outer P w H s Q u s' → R (.ok (.ret u)) s') : codeAny (model P w) A (.call (.ref f) ⟨us, []⟩) R s :=
  codeAny_mono (F.run A outer s H ⟨us, []⟩ (us ++ ds) vs Q E hr e0 (hb s us X (rv.length.symm.trans (F.len _ _ _ _ q))) rv q) (cr_out he hv)
/-- a caller's slots are out of the callee's sight -/
def Ctx.sub (C : Ctx) (O : Ow) (H : Hp) : Ctx := { C with Z := fun a => C.Z a ∨ ∃ i, O i = some a, H0 := H, B := fun _ => none }
theorem hid_sub : hid (C.sub O H) now H' = hid C O H' := by
  funext a
  unfold hid
  by_cases c : C.Z a ∨ ∃ i, O i = some a
  · rw [if_pos c, if_pos (.inl c)]
  · rw [if_neg c, if_neg]
    rintro (z | ⟨i, z⟩)
    · exact c z
    · cases z
theorem ev_sub (E : Ev C ρ n σ H O) : Ev (C.sub O H) [] n [] H now := by
  refine ⟨rfl, fun i d h => by simp at h, fun i d h => by simp at h, fun i p h => (by cases h), fun i j p h => (by cases h), fun a z => ?_, fun a xs z e => ?_, fun a o h _ => h, fun b h => ⟨.inl (E.box b h).1, (E.box b h).2⟩, fun p hp j q d h => (by cases h), fun a o h => (by cases h)⟩
  rcases z with z | ⟨i, z⟩
  · obtain ⟨o, ho⟩ := E.zs a z
    by_cases c : C.T.bx = some a
    · obtain ⟨A, B, F, e, _⟩ := (E.box a c).2
      exact ⟨_, e⟩
    · exact ⟨o, E.keep a o ho c⟩
  · obtain ⟨⟨d, e⟩, _⟩ := E.only i a z
    obtain ⟨p, h1, _, h3⟩ := E.own i d e
    rw [z] at h1
    cases h1
    exact h3.some
  · replace e : H a = some (.tup xs) := e
    have := E.tup e
    obtain ⟨_, h2, h3⟩ := hid_some this
    rcases z with z | ⟨i, z⟩
    · exact h2 z
    · exact h3 i z
theorem ev_back {n' : Nat} (E : Ev C ρ n σ H O) (F : Fin (C.sub O H) n' H') : Ev C ρ n' σ H' O ∧ Same (hid C O H) (hid C O H') :=
  ⟨E.extB (fun a o h z => F.keep a o h z) F.box, E.hidKb fun a o h z => F.keep a o h z⟩
def cCall (sd : SpD) (ta : CA) : CE := fun ρ n k ke => ta ρ n (fun ds ρ' n' => sd ds n' (fun d n2 => k d ρ' n2) (fun x n2 => ke x ρ' n2)) ke
/-- the promise of the callee, from a caller's reading -/
theorem spD_use {sd : SpD} {ds : List D} {vs : List V} {k : D → Nat → Prop} {ke : KE} {Q : VK} (hK : C.On g) (E : Ev C ρ n σ H O) (x : XL C xk ke) (i : IsL C.T (hid C O H) vs ds) (s : sd ds n k (fun y n2 => ke y ρ n2))
    (q : ∀ (d : D) (n' : Nat) (v : V) (H' : Hp), k d n' → Ev C ρ n' σ H' O → Same (hid C O H) (hid C O H') → Is C.T (hid C O H') v d → Q v H') : spD g sd vs H Q (WE xk σ) := by
  refine ⟨C.sub O H, ds, n, k, fun y n2 => ke y ρ n2, hK, rfl, ev_sub E, by rw [hid_sub]; exact i, s, fun d n' v H' a F b => ?_, fun c fs n' dd H' a F b => ?_⟩
  · obtain ⟨e1, e2⟩ := ev_back E F
    rw [hid_sub] at b
    exact q d n' v H' a e1 e2 b
  · obtain ⟨e1, e2⟩ := ev_back E F
    rw [hid_sub] at b
    exact x c fs ρ n' σ H' O dd a e1 b
theorem pa0 {X : Cx} {σ : L2.St} {E : XK} : PassesAt CX0 X σ E := fun _ _ _ _ _ _ h => h.elim
theorem paF {X : Cx} (σ : L2.St) : PassesAt (L2.CX X.prog X.w) X σ (WE xF σ) := L2.passAt takes0 σ
theorem pd_call {CX : CXT} {sd : SpD} {k : Nat} {f : Addr} {fd : FuncData} {ps : List Str} {x : Str} {p : Pos} {e : Expr} {es : List Expr} {ta : CA} (F : FnOk X.prog X.w X.K X.mg X.base CX k f fd ps (spD g sd)) (hr : Room k X.A) (hg : Gl X x) (hm : X.mg x = some (.ref f)) (hk : PySem.W.keepIn X.K (.ref f) = true) (hb : Binds X.K fd ps [])
    (hx : ∀ σ, PassesAt CX X σ (WE xk σ)) (ha : PDA X g xk (e :: es) ta) (hdb : (x == ("__debug__" : Str)) = false := by decide) (he : starEach (e :: es) X.env = (false, eval e X.env) :: starEach es X.env := by rfl) (hpl : (backTo pos (starEach es X.env)).any (·.1) = false := by rfl) :
    PD X g xk (.Call (.Name x p) (e :: es) [] pos) (cCall sd ta) :=
  ⟨PE.imp (pe_callS F hr hg hm hk hb hx ha.pa hdb he hpl) fun σ H Q ⟨C, ρ, n, O, k, ke, hK, E, t, x, q⟩ => ⟨C, ρ, n, O, _, ke, hK, E, t, x, fun ds ρ1 n1 vs H1 O1 k1 E1 S1 i1 =>
    spD_use hK E1 x i1 k1 fun d n' v H' a b c i => q _ _ _ _ _ _ a b (S1.trans c) i⟩⟩
theorem pd_call0 {CX : CXT} {sd : SpD} {k : Nat} {f : Addr} {fd : FuncData} {ps : List Str} {x : Str} {p : Pos} (F : FnOk X.prog X.w X.K X.mg X.base CX k f fd ps (spD g sd)) (hr : Room k X.A) (hg : Gl X x) (hm : X.mg x = some (.ref f)) (hk : PySem.W.keepIn X.K (.ref f) = true) (hb : Binds X.K fd ps [])
    (hx : ∀ σ, PassesAt CX X σ (WE xk σ)) (hdb : (x == ("__debug__" : Str)) = false := by decide) : PD X g xk (.Call (.Name x p) [] [] pos) (cCall sd cNil) := by
  refine ⟨⟨fun pins s σ H Q I r => ?_⟩⟩
  obtain ⟨C, ρ, n, O, k, ke, hK, E, t, x, q⟩ := r
  refine wpAny_Call_Name_kw (ld_glob I hg hm ?_ hdb)
  exact PySem.W.callWith_K0 I.kIn hk (run_fnSD (us := []) (ds := []) (dvs := []) (vs := []) (E := WE xk) F hr hb .nil (hx σ) I .nil (spD_use hK E x .nil t fun d n' v H' a b c i => q _ _ _ _ _ _ a b c i))
end
section
variable {P : Program} {w : World} {K : PySem.W.Frag} {mg : Str → Option Value} {base : Heap} {g : Glob}
theorem fin_of {C : Ctx} {n : Nat} {H : Hp} {e : EndsD} : True := trivial
/-- a def that raises nothing -/
theorem fnD {x qual : Str} {st : Stmt} {f : Addr} {fd : FuncData} {N ps : List Str} {k : Nat} {sd : SpD} {cs : CS} (F : Fun K x qual st f fd) (S : FnScope N ps (defScope st)) (hl : ∀ ds n k ke, sd ds n k ke → ds.length = ps.length)
    (hbody : ∀ (cdv : Value) (A : Around) (outer : List Env) (s : Shared) (H : Hp) (E : XK), Room k (A.deeper (envOfC qual (defScope st) s.heap.objs.size f cdv)) → PDSs (cxOf CX0 P w K mg base N qual (defScope st) f cdv A outer s H E).nox g xF (defBody st) cs)
    (himp : ∀ ds n k ke, sd ds n k ke → cs (startE N ds) n ⟨fun _ n' => k .none n', k, fun _ _ => False, fun _ _ => False, kF⟩) : FnOk P w K mg base CX0 (k + 1) f fd ps (spD g sd) := by
  refine F.ok S (fun vs H Q E h => ?_) (fun cdv A outer s H vs Q E hr h => ?_)
  · obtain ⟨C, ds, n, k, ke, _, _, _, i, sdd, _, _⟩ := h
    rw [i.length]
    exact hl _ _ _ _ sdd
  · refine ⟨_, (hbody cdv A outer s H E hr).pss, ?_⟩
    obtain ⟨C, ds, n, k, ke, hK, e0, Ev0, i, sdd, q, _⟩ := h
    exact ⟨C, _, n, now, _, hK, ev_start Ev0 i, himp _ _ _ _ sdd, ⟨fun ρ n' σ' H' O' a E' S' => q _ _ _ _ a E'.fin .non, fun d n' v H' a F b => q _ _ _ _ a F b, fun _ _ _ _ _ h => h.elim, fun _ _ _ _ _ h => h.elim, xl_F⟩⟩
/-- a def that may raise -/
theorem fnDX {x qual : Str} {st : Stmt} {f : Addr} {fd : FuncData} {N ps : List Str} {k : Nat} {sd : SpD} {cs : CS} (F : Fun K x qual st f fd) (S : FnScope N ps (defScope st)) (hl : ∀ ds n k ke, sd ds n k ke → ds.length = ps.length)
    (hbody : ∀ (cdv : Value) (A : Around) (outer : List Env) (s : Shared) (H : Hp) (E : XK), Room k (A.deeper (envOfC qual (defScope st) s.heap.objs.size f cdv)) → Takes (cxOf (L2.CX P w) P w K mg base N qual (defScope st) f cdv A outer s H E) (fun cls d _ H => E cls d H) →
      PDSs (cxOf (L2.CX P w) P w K mg base N qual (defScope st) f cdv A outer s H E) g (fun cls d _ H => E cls d H) (defBody st) cs)
    (himp : ∀ ds n k ke, sd ds n k ke → cs (startE N ds) n ⟨fun _ n' => k .none n', k, fun _ _ => False, fun _ _ => False, fun x _ n' => ke x n'⟩) : FnOk P w K mg base (L2.CX P w) (k + 1) f fd ps (spD g sd) := by
  refine F.okX S (fun vs H Q E h => ?_) (fun cdv A outer s H vs Q E hr h => ?_)
  · obtain ⟨C, ds, n, k, ke, _, _, _, i, sdd, _, _⟩ := h
    rw [i.length]
    exact hl _ _ _ _ sdd
  · refine ⟨_, (hbody cdv A outer s H E hr (takes_of rfl rfl rfl rfl)).pss, ?_⟩
    obtain ⟨C, ds, n, k, ke, hK, e0, Ev0, i, sdd, q, qe⟩ := h
    exact ⟨C, _, n, now, _, hK, ev_start Ev0 i, himp _ _ _ _ sdd, ⟨fun ρ n' σ' H' O' a E' S' => q _ _ _ _ a E'.fin .non, fun d n' v H' a F b => q _ _ _ _ a F b, fun _ _ _ _ _ h => h.elim, fun _ _ _ _ _ h => h.elim,
      fun c fs ρ' n' σ' H' O' dd a E' b => qe c fs n' dd H' a E'.fin (b.same hid_now)⟩⟩
end
end RM
namespace RM
open PySem PySem.Spec PyProof.Rows L2 CS RZ
/-! ### operands that are looked at, not taken: names of own things, values -/
def peekD (ρ : En) (i : Nat) : Option D := match ρ[i]? with
  | some (some (Sl.v d)) => some d
  | some (some (Sl.own d)) => some d
  | _ => none
inductive Pk (T : Tab) (Hh H : Hp) : V → D → Prop
  | val {v : V} {d : D} : Is T Hh v d → Pk T Hh H v d
  | own {p : Addr} {d : D} : OwnAt T Hh H p d → Pk T Hh H (.ref p) d
inductive Opd where
  | nm (i : Nat)
  | ex (t : CE)
def cOpd (o : Opd) (ρ : En) (n : Nat) (k : (En → Option D) → En → Nat → Prop) (ke : KE) : Prop := match o with
  | .nm i => (peekD ρ i).isSome = true ∧ k (fun ρ => peekD ρ i) ρ n
  | .ex t => t ρ n (fun d ρ' n' => k (fun _ => some d) ρ' n') ke
def liftQ (g : Glob) (xk : WX) (o : Opd) : TE := fun σ H Q => ∃ (C : Ctx) (ρ : En) (n : Nat) (O : Ow) (k : (En → Option D) → En → Nat → Prop) (ke : KE), C.On g ∧ Ev C ρ n σ H O ∧ cOpd o ρ n k ke ∧ XL C xk ke ∧
  ∀ (get : En → Option D) (ρ' : En) (n' : Nat) (v : V) (H' : Hp) (O' : Ow), k get ρ' n' → Ev C ρ' n' σ H' O' → Same (hid C O H) (hid C O' H') →
    (∀ (ρ2 : En) (n2 : Nat) (H2 : Hp) (O2 : Ow) (d : D), Ev C ρ2 n2 σ H2 O2 → Same (hid C O' H') (hid C O2 H2) → get ρ2 = some d → Pk C.T (hid C O2 H2) H2 v d) → Q v H'
structure PDQ (X : Cx) (g : Glob) (xk : WX) (e : Expr) (o : Opd) : Prop where
  pe : PE X e (liftQ g xk o)
section
variable {X : Cx} {g : Glob} {xk : WX} {pos : Pos} {C : Ctx} {ρ : En} {n : Nat} {σ : L2.St} {H H' : Hp} {O : Ow}
theorem peek_at (E : Ev C ρ n σ H O) {i : Nat} {d : D} (h : peekD ρ i = some d) : ∃ v, σ[i]? = some (some v) ∧ Pk C.T (hid C O H) H v d := by
  unfold peekD at h
  split at h
  · rename_i e
    cases h
    obtain ⟨v, h1, h2⟩ := E.val i _ e
    exact ⟨v, h1, .val h2⟩
  · rename_i e
    cases h
    obtain ⟨p, _, h1, h2⟩ := E.own i _ e
    exact ⟨_, h1, .own h2⟩
  · cases h
theorem Pk.is {T : Tab} {Hh H : Hp} {v : V} {d : D} (s : Same Hh H) (h : Pk T Hh H v d) : Is T H v d := by
  cases h with
  | val h => exact h.same s
  | own h =>
    cases h with
    | lst h r => exact .lst h (r.same s)
    | dk h r => exact .dk (.inl h) (r.same s)
    | dt h r => exact .dt (.inl h) (r.same s)
    | obj h h2 r => exact .obj h (s _ _ h2) (r.same s)
def scalD : D → Bool
  | .none => true
  | .bool _ => true
  | .int _ => true
  | .str _ => true
  | _ => false
theorem Is.scal {T : Tab} {H H' : Hp} {v : V} {d : D} (h : Is T H v d) (s : scalD d = true) : Is T H' v d := by
  cases h <;> first | exact .non | exact .bl _ | exact .int _ | exact .str _ | (cases s)
theorem scalQ {z : D} {Q : VK} (E : Ev C ρ n σ H O) (s : scalD z = true) (h : ∀ (v : V) (H' : Hp), Ev C ρ n σ H' O → Same (hid C O H) (hid C O H') → Is C.T (hid C O H') v z → Q v H') : NewQ C.T H H z Q := fun v H' s1 i =>
  h v H' (E.ext s1) (hid_same s1) ((i H' s1 fun a o e _ => e).scal s)
theorem pdq_nm (i : Nat) {x : Str} (hN : X.N[i]? = some x := by rfl) (hv : Vis X.env.scope x := by first | exact Or.inl rfl | exact Or.inr (Or.inl rfl) | exact Or.inr (Or.inr rfl)) (hd : (x == ("__debug__" : Str)) = false := by decide)
    (hcd : (x == ("__classdict__" : Str)) = false := by decide) : PDQ X g xk (.Name x pos) (.nm i) := by
  refine ⟨PE.imp (pe_var hN hv hd hcd) fun σ H Q r => ?_⟩
  obtain ⟨C, ρ, n, O, k, ke, hK, E, t, x, q⟩ := r
  obtain ⟨d, hd⟩ := Option.isSome_iff_exists.mp t.1
  obtain ⟨v, h1, h2⟩ := peek_at E hd
  refine ⟨v, h1, q _ _ _ _ _ _ t.2 E (Same.refl _) fun ρ2 n2 H2 O2 d2 E2 S2 hd2 => ?_⟩
  obtain ⟨v2, h3, h4⟩ := peek_at E2 hd2
  rw [h1] at h3
  cases h3
  exact h4
theorem pdq_ex {e : Expr} {t : CE} (h : PD X g xk e t) : PDQ X g xk e (.ex t) :=
  ⟨PE.imp h.pe fun σ H Q ⟨C, ρ, n, O, k, ke, hK, E, t, x, q⟩ => ⟨C, ρ, n, O, _, ke, hK, E, t, x, fun d ρ' n' v H' O' a b c i => q _ _ _ _ _ _ a b c fun ρ2 n2 H2 O2 d2 E2 S2 e => by
    cases e
    exact .val (i.same S2)⟩⟩
/-! scalar results -/
def cOpQ (u : D → D → Option D) (o : Opd) (tb : CE) : CE := fun ρ n k ke => cOpd o ρ n (fun get ρ1 n1 => tb ρ1 n1 (fun y ρ2 n2 => ∃ x z, get ρ2 = some x ∧ u x y = some z ∧ scalD z = true ∧ k z ρ2 n2) ke) ke
def cOpR (u : D → D → Option D) (ta : CE) (o : Opd) : CE := fun ρ n k ke => ta ρ n (fun x ρ1 n1 => cOpd o ρ1 n1 (fun get ρ2 n2 => ∃ y z, get ρ2 = some y ∧ u x y = some z ∧ scalD z = true ∧ k z ρ2 n2) ke) ke
theorem opQ_use {u : D → D → Option D} {o : Opd} {tb : CE} {r : R2} (G : Good X g) (hg : ∀ (T : Tab) (Hh H : Hp) (x y : V) (dx dy z : D) (Q : VK), T.K = X.K → Same Hh H → Is T Hh x dx → Is T Hh y dy → u dx dy = some z → NewQ T Hh H z Q → r x y H Q)
    {σ : L2.St} {H : Hp} {Q : VK} (h : lift g xk (cOpQ u o tb) σ H Q) : tOp r (liftQ g xk o) (lift g xk tb) σ H Q := by
  obtain ⟨C, ρ, n, O, k, ke, hK, E, t, x, q⟩ := h
  refine ⟨C, ρ, n, O, _, ke, hK, E, t, x, fun get ρ1 n1 v H1 O1 k1 E1 S1 p1 => ⟨C, ρ1, n1, O1, _, ke, hK, E1, k1, x, fun d2 ρ2 n2 v2 H2 O2 k2 E2 S2 i2 => ?_⟩⟩
  obtain ⟨x0, z, h1, hz, sc, k2⟩ := k2
  exact hg C.T H2 H2 v v2 x0 d2 z Q (hK.1.trans G.K) (Same.refl _) ((p1 _ _ _ _ _ E2 S2 h1).is hid_le) (i2.same hid_le) hz (scalQ E2 sc fun v3 H3 E3 S3 i3 => q _ _ _ _ _ _ k2 E3 ((S1.trans S2).trans S3) i3)
theorem opR_use {u : D → D → Option D} {o : Opd} {ta : CE} {r : R2} (G : Good X g) (hg : ∀ (T : Tab) (Hh H : Hp) (x y : V) (dx dy z : D) (Q : VK), T.K = X.K → Same Hh H → Is T Hh x dx → Is T Hh y dy → u dx dy = some z → NewQ T Hh H z Q → r x y H Q)
    {σ : L2.St} {H : Hp} {Q : VK} (h : lift g xk (cOpR u ta o) σ H Q) : tOp r (lift g xk ta) (liftQ g xk o) σ H Q := by
  obtain ⟨C, ρ, n, O, k, ke, hK, E, t, x, q⟩ := h
  refine ⟨C, ρ, n, O, _, ke, hK, E, t, x, fun d ρ1 n1 v H1 O1 k1 E1 S1 i1 => ⟨C, ρ1, n1, O1, _, ke, hK, E1, k1, x, fun get ρ2 n2 v2 H2 O2 k2 E2 S2 p2 => ?_⟩⟩
  obtain ⟨y0, z, h1, hz, sc, k2⟩ := k2
  exact hg C.T H2 H2 v v2 d y0 z Q (hK.1.trans G.K) (Same.refl _) ((i1.same S2).same hid_le) ((p2 _ _ _ _ _ E2 (Same.refl _) h1).is hid_le) hz (scalQ E2 sc fun v3 H3 E3 S3 i3 => q _ _ _ _ _ _ k2 E3 ((S1.trans S2).trans S3) i3)
theorem pd_cmpQ {op : CmpOp} {u : D → D → Option D} {a b : Expr} {o : Opd} {tb : CE} (ho : OpD X (compareOp op) u) (G : Good X g) (ha : PDQ X g xk a o) (hb : PD X g xk b tb) (hm : behindInMarks op b = false) : PD X g xk (.Compare a [op] [b] pos) (cOpQ u o tb) := by
  obtain ⟨r, hr, hg⟩ := ho
  exact ⟨PE.imp (pe_cmpR hr ha.pe hb.pe hm) fun σ H Q h => opQ_use G hg h⟩
theorem pd_cmpR {op : CmpOp} {u : D → D → Option D} {a b : Expr} {o : Opd} {ta : CE} (ho : OpD X (compareOp op) u) (G : Good X g) (ha : PD X g xk a ta) (hb : PDQ X g xk b o) (hm : behindInMarks op b = false) : PD X g xk (.Compare a [op] [b] pos) (cOpR u ta o) := by
  obtain ⟨r, hr, hg⟩ := ho
  exact ⟨PE.imp (pe_cmpR hr ha.pe hb.pe hm) fun σ H Q h => opR_use G hg h⟩
theorem tB_use {t : TE} {td : CE} (ht : ∀ σ H Q, lift g xk td σ H Q → t σ H Q) {σ : L2.St} {H : Hp} {Q : Bool → Hp → Prop} (h : liftT g xk (cB td) σ H Q) : t σ H fun x H1 => ∃ b, x = .bl b ∧ Q b H1 := by
  obtain ⟨C, ρ, n, O, k, ke, hK, E, t, x, q⟩ := h
  refine ht _ _ _ ⟨C, ρ, n, O, _, ke, hK, E, t, x, fun d ρ1 n1 v H1 O1 k1 E1 S1 i1 => ?_⟩
  obtain ⟨b, rfl, k1⟩ := k1
  exact ⟨b, isBl i1, q _ _ _ _ _ k1 E1 S1⟩
theorem pdt_cmpQ {op : CmpOp} {u : D → D → Option D} {a b : Expr} {o : Opd} {tb : CE} (ho : OpD X (compareOp op) u) (G : Good X g) (ha : PDQ X g xk a o) (hb : PD X g xk b tb) (hm : behindInMarks op b = false) : PDT X g xk (.Compare a [op] [b] pos) (cB (cOpQ u o tb)) := by
  obtain ⟨r, hr, hg⟩ := ho
  exact ⟨PT.imp (pt_cmpR hr ha.pe hb.pe hm) fun σ H Q h => tB_use (fun _ _ _ h => opQ_use G hg h) h⟩
theorem pdt_cmpR {op : CmpOp} {u : D → D → Option D} {a b : Expr} {o : Opd} {ta : CE} (ho : OpD X (compareOp op) u) (G : Good X g) (ha : PD X g xk a ta) (hb : PDQ X g xk b o) (hm : behindInMarks op b = false) : PDT X g xk (.Compare a [op] [b] pos) (cB (cOpR u ta o)) := by
  obtain ⟨r, hr, hg⟩ := ho
  exact ⟨PT.imp (pt_cmpR hr ha.pe hb.pe hm) fun σ H Q h => tB_use (fun _ _ _ h => opR_use G hg h) h⟩
def cCBQ (u : List D → D → Prop) (o : Opd) : CE := fun ρ n k ke => cOpd o ρ n (fun get ρ1 n1 => ∃ x z, get ρ1 = some x ∧ u [x] z ∧ scalD z = true ∧ k z ρ1 n1) ke
theorem pd_callBQ {id : String} {u : List D → D → Prop} {x : Str} {p : Pos} {e : Expr} {o : Opd} (hc : CallD X (.builtin id) u) (G : Good X g) (hg : Gl X x) (hm : X.mg x = none) (hv : bootBuiltins x = some (.builtin id)) (ha : PDQ X g xk e o) (hn : x ≠ "__name__" := by decide) (hdb : (x == ("__debug__" : Str)) = false := by decide)
    (hs : starEach [e] X.env = (false, eval e X.env) :: starEach [] X.env := by rfl) (hpl : (backTo pos (starEach [] X.env)).any (·.1) = false := by rfl) : PD X g xk (.Call (.Name x p) [e] [] pos) (cCBQ u o) := by
  obtain ⟨r, hr, hg'⟩ := hc
  refine ⟨PE.imp (pe_callB hr hg hm hv (pa_cons ha.pe pa_nil hs) hn hdb hs hpl) fun σ H Q h => ?_⟩
  obtain ⟨C, ρ, n, O, k, ke, hK, E, t, x, q⟩ := h
  refine ⟨C, ρ, n, O, _, ke, hK, E, t, x, fun get ρ1 n1 v H1 O1 k1 E1 S1 p1 => ?_⟩
  obtain ⟨x0, z, h1, hz, sc, k1⟩ := k1
  exact hg' C.T H1 H1 [v] [x0] z Q (hK.1.trans G.K) (Same.refl _) (.cons ((p1 _ _ _ _ _ E1 (Same.refl _) h1).is hid_le) .nil) hz (scalQ E1 sc fun v3 H3 E3 S3 i3 => q _ _ _ _ _ _ k1 E3 (S1.trans S3) i3)
/-! a member -/
def cIxQ (o : Opd) (tb : CE) : CE := fun ρ n k ke => cOpd o ρ n (fun get ρ1 n1 => tb ρ1 n1 (fun y ρ2 n2 => ∃ x z, get ρ2 = some x ∧ atD x y = some z ∧ k z ρ2 n2) ke) ke
theorem pd_ixQ {a b : Expr} {o : Opd} {tb : CE} (G : Good X g) (ha : PDQ X g xk a o) (hb : PD X g xk b tb) (hs : PlainIx b) : PD X g xk (.Subscript a b pos) (cIxQ o tb) := by
  refine ⟨PE.imp (pe_ix ix_seq ha.pe hb.pe hs) fun σ H Q h => ?_⟩
  obtain ⟨C, ρ, n, O, k, ke, hK, E, t, x, q⟩ := h
  refine ⟨C, ρ, n, O, _, ke, hK, E, t, x, fun get ρ1 n1 v H1 O1 k1 E1 S1 p1 => ⟨C, ρ1, n1, O1, _, ke, hK, E1, k1, x, fun d2 ρ2 n2 v2 H2 O2 k2 E2 S2 i2 => ?_⟩⟩
  obtain ⟨x0, z, h1, hz, k2⟩ := k2
  have pk := p1 _ _ _ _ _ E2 S2 h1
  have fin : ∀ u, Is C.T (hid C O2 H2) u z → Q u H2 := fun u iu => q _ _ _ _ _ _ k2 E2 (S1.trans S2) iu
  unfold atD at hz
  split at hz
  · rename_i ds0 i0
    rw [i2.int']
    have : ∃ a xs, v = .ref a ∧ H2 a = some (.lst xs) ∧ IsL C.T (hid C O2 H2) xs ds0 := by
      cases pk with
      | val h => obtain ⟨a, xs, e, h, r⟩ := h.list'; exact ⟨a, xs, e, hid_le _ _ h, r⟩
      | own h => cases h with | lst h r => exact ⟨_, _, rfl, h, r⟩
    obtain ⟨a, xs, rfl, ha, r⟩ := this
    obtain ⟨u, h3, h4⟩ := atI_is r hz
    exact .inl ⟨a, xs, _, u, rfl, rfl, SqL.of ha, h3, fin u h4⟩
  · rw [i2.int']
    cases pk with
    | val h =>
      obtain ⟨a, xs, rfl, ha, r⟩ := h.tup'
      obtain ⟨u, h3, h4⟩ := atI_is r hz
      exact .inr (.inl ⟨a, xs, _, u, rfl, rfl, (hK.1.trans G.K) ▸ sqt_same hid_le ha, h3, fin u h4⟩)
    | own h => cases h
  · rw [i2.int']
    cases pk with
    | own h => cases h
    | val h =>
      rw [h.str']
      split at hz
      · rename_i z0 i c
        cases h' : atI z0.cps.toList i with
        | none =>
          rw [h'] at hz
          cases hz
        | some c' =>
          rw [h'] at hz
          cases hz
          exact .inr (.inr ⟨_, _, c', rfl, rfl, lim_le c, h', fin _ (.str _)⟩)
      · cases hz
  · cases hz
/-! the truth of a list, a tuple, a text -/
def truD : D → Option Bool
  | .bool b => some b
  | .int i => some (i != 0)
  | .str z => some (z.length != 0)
  | .list ds => some (!ds.isEmpty)
  | .tuple ds => some (!ds.isEmpty)
  | .none => some false
  | _ => none
def cTruQ (o : Opd) : CT := fun ρ n k ke => cOpd o ρ n (fun get ρ1 n1 => ∃ x b, get ρ1 = some x ∧ truD x = some b ∧ k b ρ1 n1) ke
/-! own lists change -/
def cApp (i : Nat) (tb : CE) : CE := fun ρ n k ke => (∃ xs, ρ[i]? = some (some (Sl.own (.list xs)))) ∧ tb ρ n (fun y ρ1 n1 => ∃ xs, ρ1[i]? = some (some (Sl.own (.list xs))) ∧ xs.length < lim ∧ k .none (ρ1.set i (some (Sl.own (.list (xs ++ [y]))))) n1) ke
theorem own_list (E : Ev C ρ n σ H O) {i : Nat} {xs : List D} (h : ρ[i]? = some (some (Sl.own (.list xs)))) : ∃ p us, O i = some p ∧ σ[i]? = some (some (.ref p)) ∧ H p = some (.lst us) ∧ IsL C.T (hid C O H) us xs := by
  obtain ⟨p, h1, h2, h3⟩ := E.own i _ h
  cases h3 with
  | lst h3 r => exact ⟨p, _, h1, h2, h3, r⟩
theorem pd_append (i : Nat) {x : Str} {a : Expr} {tb : CE} {p1 apos : Pos} (ha : PD X g xk a tb) (hN : X.N[i]? = some x := by rfl) (hv : Vis X.env.scope x := by first | exact Or.inl rfl | exact Or.inr (Or.inl rfl) | exact Or.inr (Or.inr rfl)) (hd : (x == ("__debug__" : Str)) = false := by decide)
    (hcd : (x == ("__classdict__" : Str)) = false := by decide) (hbase : attributeBase (.Name x p1) "append" X.env (eval (.Name x p1) X.env) = eval (.Name x p1) X.env := by rfl)
    (hfew : ((backTo pos (starEach [a] X.env)).all (fun x => !x.1) && (backToKw pos (keywordEach [] X.env)).all (fun x => x.1.isSome)
      && decide (([a] : List Expr).length + ([] : List Keyword).length + (if ([] : List Keyword).isEmpty then 0 else 1) < 30)) = true := by rfl)
    (hline : (apos.endLine == pos.line) = true := by rfl) (hs : starEach [a] X.env = (false, eval a X.env) :: starEach [] X.env := by rfl) (hplain : (backTo pos (starEach [] X.env)).any (·.1) = false := by rfl) :
    PD X g xk (.Call (.Attribute (.Name x p1) "append" apos) [a] [] pos) (cApp i tb) := by
  refine ⟨PE.imp (pe_bm PySem.F.plainAttrs_list PySem.F.slot_list_append PySem.F.type_list_append mt_append (pe_var (i := i) hN hv hd hcd) (pa_cons ha.pe pa_nil hs) hbase hfew hline hs hplain) fun σ H Q h => ?_⟩
  obtain ⟨C, ρ, n, O, k, ke, hK, E, ⟨⟨xs, e0⟩, t⟩, x, q⟩ := h
  obtain ⟨p, us, g1, g2, g3, g4⟩ := own_list E e0
  refine ⟨.ref p, g2, .inl ⟨rfl, us, SqL.of g3⟩, C, ρ, n, O, _, ke, hK, E, t, x, fun d ρ1 n1 v H1 O1 k1 E1 S1 i1 => ?_⟩
  obtain ⟨ys, e1, hl, k1⟩ := k1
  obtain ⟨p', us', w1, w2, w3, w4⟩ := own_list E1 e1
  rw [g2] at w2
  cases w2
  obtain ⟨E2, S2⟩ := E1.chg (d := .list (ys ++ [d])) (o := .lst (us' ++ [v])) (lt_of_get e1) w1 (.lst upd_same (w4.append (.cons i1 .nil)))
  exact ⟨p, us', v, rfl, rfl, w3, by rw [w4.length]; exact lim_lt hl, q _ _ _ _ _ _ k1 E2 (S1.trans S2) .non⟩
end
end RM
namespace RM
open PySem PySem.Spec PyProof.Rows L2 CS RZ
section
variable {X : Cx} {g : Glob} {xk : WX} {pos : Pos} {C : Ctx} {ρ : En} {n : Nat} {σ : L2.St} {H H' : Hp} {O : Ow}
/-! ### truth -/
theorem tru_pk {v : V} {d : D} {b : Bool} (hK : C.T.K = X.K) (h : Pk C.T (hid C O H) H v d) (e : truD d = some b) (hl : ∀ z, d = .str z → z.length ≤ lim) : TruV X.K v H b := by
  cases h with
  | own h =>
    cases h with
    | lst h r =>
      cases e
      refine .inl ⟨_, SqL.of h, ?_⟩
      have := r.length
      rename_i xs ds
      cases xs <;> cases ds <;> first | rfl | (simp at this)
    | _ => cases e
  | val h =>
    cases h with
    | non => cases e; rfl
    | bl b => cases e; rfl
    | int i => cases e; rfl
    | str z =>
      cases e
      refine ⟨lim_le (hl z rfl), ?_⟩
      show (z.length != 0) = ((z.length : Int) != 0)
      rw [Bool.eq_iff_iff, bne_iff_ne, bne_iff_ne]
      omega
    | lst h r =>
      cases e
      refine .inl ⟨_, SqL.of (hid_le _ _ h), ?_⟩
      have := r.length
      rename_i xs ds
      cases xs <;> cases ds <;> first | rfl | (simp at this)
    | tup h r =>
      cases e
      refine .inr (.inl ⟨_, hK ▸ sqt_same hid_le h, ?_⟩)
      have := r.length
      rename_i xs ds
      cases xs <;> cases ds <;> first | rfl | (simp at this)
    | _ => cases e
def strOkD (d : D) : Bool := match d with
  | .str z => decide (z.length ≤ lim)
  | _ => true
def cTru (o : Opd) : CT := fun ρ n k ke => cOpd o ρ n (fun get ρ1 n1 => ∃ x b, get ρ1 = some x ∧ truD x = some b ∧ strOkD x = true ∧ k b ρ1 n1) ke
theorem pdt_tru {e : Expr} {o : Opd} (G : Good X g) (h : PDQ X g xk e o) (he : ∀ whole, isTrue e X.env whole = (do let v ← whole; standAt e.pos; holding [v] (truthy v)) := by intro _; rfl) : PDT X g xk e (cTru o) := by
  refine ⟨PT.imp (pt_truth h.pe he) fun σ H Q r => ?_⟩
  obtain ⟨C, ρ, n, O, k, ke, hK, E, t, x, q⟩ := r
  refine ⟨C, ρ, n, O, _, ke, hK, E, t, x, fun get ρ1 n1 v H1 O1 k1 E1 S1 p1 => ?_⟩
  obtain ⟨x0, b, h1, h2, h3, k1⟩ := k1
  refine ⟨b, tru_pk (hK.1.trans G.K) (p1 _ _ _ _ _ E1 (Same.refl _) h1) h2 fun z hz => ?_, q _ _ _ _ _ k1 E1 S1⟩
  subst hz
  exact of_decide_eq_true h3
/-! ### own lists change -/
theorem name_at (E : Ev C ρ n σ H O) {ρ1 : En} {n1 : Nat} {H1 : Hp} {O1 : Ow} (E1 : Ev C ρ1 n1 σ H1 O1) {i : Nat} {p : Addr} {ys : List D} (h : σ[i]? = some (some (.ref p))) (e : ρ1[i]? = some (some (Sl.own (.list ys)))) : ∃ us, O1 i = some p ∧ H1 p = some (.lst us) ∧ IsL C.T (hid C O1 H1) us ys := by
  obtain ⟨p', us', w1, w2, w3, w4⟩ := own_list E1 e
  rw [h] at w2
  cases w2
  exact ⟨us', w1, w3, w4⟩
def ownL (ρ : En) (i : Nat) (xs : List D) : Prop := ρ[i]? = some (some (Sl.own (.list xs)))
def cMut (i : Nat) (ta : CA) (u : List D → List D → Option (D × List D)) : CE := fun ρ n k ke => (∃ xs, ownL ρ i xs) ∧ ta ρ n (fun ds ρ1 n1 => ∃ xs r ys, ownL ρ1 i xs ∧ xs.length < lim ∧ u xs ds = some (r, ys) ∧ k r (ρ1.set i (some (Sl.own (.list ys)))) n1) ke
/-- x.m(..) of an own list: what it tells, what is left -/
def MutD (X : Cx) (r : V → List V → Hp → VK → Prop) (u : List D → List D → Option (D × List D)) : Prop := ∀ (T : Tab) (Hh H : Hp) (p : Addr) (us vs : List V) (xs ds ys : List D) (z : D) (Q : VK), Same Hh H → H p = some (.lst us) → IsL T Hh us xs → IsL T Hh vs ds → xs.length < lim → u xs ds = some (z, ys) →
  (∀ v us', IsL T Hh us' ys → Is T Hh v z → Q v (upd H p (.lst us'))) → r (.ref p) vs H Q
theorem mut_use {r : V → List V → Hp → VK → Prop} {u : List D → List D → Option (D × List D)} {i : Nat} {ta : CA} (hM : MutD X r u) {σ : L2.St} {H : Hp} {Q : VK} (h : lift g xk (cMut i ta u) σ H Q) : tBM X.K "list" r (tVar i) (liftA g xk ta) σ H Q := by
  obtain ⟨C, ρ, n, O, k, ke, hK, E, ⟨⟨xs, e0⟩, t⟩, x, q⟩ := h
  obtain ⟨p, us, g1, g2, g3, g4⟩ := own_list E e0
  refine ⟨.ref p, g2, .inl ⟨rfl, us, SqL.of g3⟩, C, ρ, n, O, _, ke, hK, E, t, x, fun ds ρ1 n1 vs H1 O1 k1 E1 S1 i1 => ?_⟩
  obtain ⟨ys, z, zs, e1, hl, hu, k1⟩ := k1
  obtain ⟨us', w1, w3, w4⟩ := name_at E E1 g2 e1
  refine hM C.T (hid C O1 H1) H1 p us' vs ys ds zs z Q hid_le w3 w4 i1 hl hu fun v us2 i2 iz => ?_
  obtain ⟨E2, S2⟩ := E1.chg (d := .list zs) (o := .lst us2) (lt_of_get e1) w1 (.lst upd_same i2)
  exact q _ _ _ _ _ _ k1 E2 (S1.trans S2) (iz.same S2)
def uApp (xs ds : List D) : Option (D × List D) := match ds with
  | [d] => some (.none, xs ++ [d])
  | _ => none
def uPopAt (xs ds : List D) : Option (D × List D) := match ds with
  | [.int i] => if 0 ≤ i ∧ i < 2 ^ 63 then (xs[i.toNat]?).map fun d => (d, xs.eraseIdx i.toNat) else none
  | _ => none
def uIns (xs ds : List D) : Option (D × List D) := match ds with
  | [.int i, d] => if 0 ≤ i ∧ i < 2 ^ 63 then some (.none, xs.take i.toNat ++ [d] ++ xs.drop i.toNat) else none
  | _ => none
def uExt (xs ds : List D) : Option (D × List D) := match ds with
  | [.list zs] => if xs.length + zs.length ≤ lim then some (.none, xs ++ zs) else none
  | _ => none
theorem mu_app : MutD X rAppend uApp := by
  intro T Hh H p us vs xs ds ys z Q s hp r i hl hu q
  unfold uApp at hu
  split at hu
  · cases hu
    obtain ⟨v, rfl, iv⟩ := i.one
    exact ⟨p, us, v, rfl, rfl, hp, by rw [r.length]; exact lim_lt hl, q _ _ (r.append (.cons iv .nil)) .non⟩
  · cases hu
theorem mu_popAt : MutD X rPopAt uPopAt := by
  intro T Hh H p us vs xs ds ys z Q s hp r i hl hu q
  unfold uPopAt at hu
  split at hu
  · split at hu
    · rename_i j c
      obtain ⟨v, rfl, iv⟩ := i.one
      rw [iv.int']
      cases hx : xs[j.toNat]? with
      | none => rw [hx] at hu; cases hu
      | some d =>
        rw [hx] at hu
        cases hu
        obtain ⟨y, h1, h2⟩ := r.get hx
        have l1 := lt_of_get h1
        refine ⟨p, us, j, j.toNat, y, rfl, rfl, hp, by omega, c.2, ?_, h1, q _ _ (r.eraseIdx _) h2⟩
        have h0 : ixN us.length j = some j.toNat := by
          unfold ixN
          rw [if_pos c.1, if_pos (by omega)]
        exact (ixN_seq h0).1
    · cases hu
  · cases hu
theorem mu_ins : MutD X (fun x vs H Q => ∃ (l : Addr) (xs : List V) (i : Int) (y : V), x = .ref l ∧ vs = [.int i, y] ∧ H l = some (.lst xs) ∧ xs.length < sizeLine ∧ 0 ≤ i ∧ i < 2 ^ 63 ∧ Q .non (upd H l (.lst (xs.take i.toNat ++ [y] ++ xs.drop i.toNat)))) uIns := by
  intro T Hh H p us vs xs ds ys z Q s hp r i hl hu q
  unfold uIns at hu
  split at hu
  · obtain ⟨c, e⟩ := ifs hu
    cases e
    obtain ⟨v, w, rfl, iv, iw⟩ := i.two
    rw [iv.int']
    exact ⟨p, us, _, w, rfl, rfl, hp, by rw [r.length]; exact lim_lt hl, c.1, c.2, q _ _ (((r.take _).append (.cons iw .nil)).append (r.drop _)) .non⟩
  · cases hu
theorem mu_ext : MutD X rExtend uExt := by
  intro T Hh H p us vs xs ds ys z Q s hp r i hl hu q
  unfold uExt at hu
  split at hu
  · obtain ⟨c, e⟩ := ifs hu
    cases e
    obtain ⟨v, rfl, iv⟩ := i.one
    obtain ⟨a, ws, rfl, ha, rw'⟩ := iv.list'
    exact ⟨p, a, us, ws, rfl, rfl, hp, s _ _ ha, by rw [r.length, rw'.length]; exact lim_le c, q _ _ (r.append rw') .non⟩
  · cases hu
theorem pd_mut (i : Nat) {x : Str} {m : Str} {id : String} {a : Expr} {as : List Expr} {ta : CA} {p1 apos : Pos} {r : V → List V → Hp → VK → Prop} {u : List D → List D → Option (D × List D)} (slot : Slot "list" m id) (hty : typeOf (.builtin id) = pure (.type "method_descriptor")) (hm : MtR X id r) (hM : MutD X r u)
    (ha : PDA X g xk (a :: as) ta) (hN : X.N[i]? = some x := by rfl) (hv : Vis X.env.scope x := by first | exact Or.inl rfl | exact Or.inr (Or.inl rfl) | exact Or.inr (Or.inr rfl)) (hd : (x == ("__debug__" : Str)) = false := by decide)
    (hcd : (x == ("__classdict__" : Str)) = false := by decide) (hbase : attributeBase (.Name x p1) m X.env (eval (.Name x p1) X.env) = eval (.Name x p1) X.env := by rfl)
    (hfew : ((backTo pos (starEach (a :: as) X.env)).all (fun x => !x.1) && (backToKw pos (keywordEach [] X.env)).all (fun x => x.1.isSome)
      && decide ((a :: as).length + ([] : List Keyword).length + (if ([] : List Keyword).isEmpty then 0 else 1) < 30)) = true := by rfl)
    (hline : (apos.endLine == pos.line) = true := by rfl) (hs : starEach (a :: as) X.env = (false, eval a X.env) :: starEach as X.env := by rfl) (hplain : (backTo pos (starEach as X.env)).any (·.1) = false := by rfl) :
    PD X g xk (.Call (.Attribute (.Name x p1) m apos) (a :: as) [] pos) (cMut i ta u) :=
  ⟨PE.imp (pe_bm PySem.F.plainAttrs_list slot hty hm (pe_var (i := i) hN hv hd hcd) ha.pa hbase hfew hline hs hplain) fun σ H Q h => mut_use hM h⟩
/-- x.pop() -/
def cPop (i : Nat) : CE := fun ρ n k ke => ∃ xs d, ownL ρ i (xs ++ [d]) ∧ k d (ρ.set i (some (Sl.own (.list xs)))) n
theorem pd_pop (i : Nat) {x : Str} {p1 apos : Pos} (hN : X.N[i]? = some x := by rfl) (hv : Vis X.env.scope x := by first | exact Or.inl rfl | exact Or.inr (Or.inl rfl) | exact Or.inr (Or.inr rfl)) (hd : (x == ("__debug__" : Str)) = false := by decide)
    (hcd : (x == ("__classdict__" : Str)) = false := by decide) (hbase : attributeBase (.Name x p1) "pop" X.env (eval (.Name x p1) X.env) = eval (.Name x p1) X.env := by rfl) (hline : (apos.endLine == pos.line) = true := by rfl) :
    PD X g xk (.Call (.Attribute (.Name x p1) "pop" apos) [] [] pos) (cPop i) := by
  refine ⟨PE.imp (pe_bm0 PySem.F.plainAttrs_list PySem.F.slot_list_pop PySem.F.type_list_pop mt_pop (pe_var (i := i) hN hv hd hcd) hbase hline) fun σ H Q h => ?_⟩
  obtain ⟨C, ρ, n, O, k, ke, hK, E, ⟨xs, d, e0, t⟩, x, q⟩ := h
  obtain ⟨p, us, g1, g2, g3, g4⟩ := own_list E e0
  have hl : us.length = xs.length + 1 := by rw [g4.length]; simp
  obtain ⟨y, h1, h2⟩ := g4.get (i := xs.length) (x := d) (by simp)
  have hdl : IsL C.T (hid C O H) us.dropLast xs := by
    have := g4.take xs.length
    rw [List.take_left] at this
    rw [List.dropLast_eq_take, show us.length - 1 = xs.length by omega]
    exact this
  refine ⟨.ref p, g2, .inl ⟨rfl, us, SqL.of g3⟩, p, us, y, rfl, rfl, g3, by rw [show us.length - 1 = xs.length by omega]; exact h1, ?_⟩
  obtain ⟨E2, S2⟩ := E.chg (d := .list xs) (o := .lst us.dropLast) (lt_of_get e0) g1 (.lst upd_same hdl)
  exact q _ _ _ _ _ _ t E2 S2 (h2.same S2)
/-- x[e] = v -/
def setI (xs : List D) (i : Int) (d : D) : Option (List D) := (ixN xs.length i).map fun j => xs.set j d
def cSetIx (i : Nat) (ti tv : CE) : CS := fun ρ n e => tv ρ n (fun d ρ1 n1 => (∃ xs, ownL ρ1 i xs) ∧ ti ρ1 n1 (fun y ρ2 n2 => ∃ xs j ys, ownL ρ2 i xs ∧ y = .int j ∧ setI xs j d = some ys ∧ e.nx (ρ2.set i (some (Sl.own (.list ys)))) n2) e.xc) e.xc
theorem pds_setIx (i : Nat) {x : Str} {a v : Expr} {ti tv : CE} {p1 p2 : Pos} (hi : PD X g xk a ti) (he : PD X g xk v tv) (hN : X.N[i]? = some x := by rfl) (hv : Vis X.env.scope x := by first | exact Or.inl rfl | exact Or.inr (Or.inl rfl) | exact Or.inr (Or.inr rfl)) (hd : (x == ("__debug__" : Str)) = false := by decide)
    (hcd : (x == ("__classdict__" : Str)) = false := by decide)
    (ha : ∀ v, assign (.Subscript (.Name x p1) a p2) X.env v = (do
      let ov ← holding [v] (eval (.Name x p1) X.env)
      let iv ← holding [v, ov] (eval a X.env)
      standAt p2
      holding [v, ov, iv] (setItem ov iv v)
      release [v, ov, iv] []) := by intro _; rfl)
    (hs : swapsWithSole [.Subscript (.Name x p1) a p2] v pos.line X.env = pure false := by rfl) (hw : swappedStores [.Subscript (.Name x p1) a p2] v X.env = pure none := by rfl)
    (h1 : (assignEach [.Subscript (.Name x p1) a p2] X.env).map (·.2) = [assign (.Subscript (.Name x p1) a p2) X.env] := by rfl) :
    PDS X g xk (.Assign [.Subscript (.Name x p1) a p2] v pos) (cSetIx i ti tv) := by
  refine ⟨ps_imp (ps_asg he.pe (pg_sub (pe_var (i := i) hN hv hd hcd) hi.pe set_list ha) hs hw h1) fun F σ H h => ?_⟩
  obtain ⟨C, ρ, n, O, e, hK, E, t, l⟩ := h
  refine ⟨C, ρ, n, O, _, _, hK, E, t, l.xc, fun d ρ1 n1 v H1 O1 k1 E1 S1 i1 => ?_⟩
  obtain ⟨⟨xs0, e0⟩, k1⟩ := k1
  obtain ⟨p, us0, g1, g2, g3, g4⟩ := own_list E1 e0
  refine ⟨.ref p, g2, C, ρ1, n1, O1, _, _, hK, E1, k1, l.xc, fun y ρ2 n2 v2 H2 O2 k2 E2 S2 i2 => ?_⟩
  obtain ⟨xs, j, ys, e2, rfl, hu, k2⟩ := k2
  obtain ⟨us, w1, w3, w4⟩ := name_at E1 E2 g2 e2
  unfold setI at hu
  cases hj : ixN xs.length j with
  | none => rw [hj] at hu; cases hu
  | some m =>
    rw [hj] at hu
    cases hu
    rw [i2.int']
    refine ⟨p, us, j, m, rfl, rfl, w3, by rw [w4.length]; exact hj, ?_⟩
    obtain ⟨E3, S3⟩ := E2.chg (d := .list (xs.set m d)) (o := .lst (us.set m v)) (lt_of_get e2) w1 (.lst upd_same (IsL.set (i1.same S2) m w4))
    exact l.nx _ _ _ _ _ k2 E3 ((S1.trans S2).trans S3)
end
end RM
namespace RM
open PySem PySem.Spec PyProof.Rows L2 CS RZ
/-! ### dicts -/
theorem eqv_kD (a b : L2.Key) : PyData.eqv (kD a) (kD b) = decide (a = b) := by
  cases a <;> cases b
  · rename_i i j
    show (i == j) = _
    rw [← key_ll]
  · rfl
  · rfl
  · rename_i x y
    show (x == y) = _
    rw [key_rr]
    by_cases c : x = y
    · rw [decide_eq_true c, c]
      exact beq_self_eq_true y
    · rw [decide_eq_false c]
      exact beq_eq_false_iff_ne.mpr c
theorem eqvAll_kD : ∀ a b : List L2.Key, PyData.eqvAll (a.map kD) (b.map kD) = decide (a = b)
  | [], [] => rfl
  | [], _ :: _ => rfl
  | _ :: _, [] => rfl
  | x :: a, y :: b => by
    show (PyData.eqv (kD x) (kD y) && PyData.eqvAll (a.map kD) (b.map kD)) = _
    rw [eqv_kD, eqvAll_kD a b]
    simp
theorem eqv_kT (a b : List L2.Key) : PyData.eqv (.tuple (a.map kD)) (.tuple (b.map kD)) = decide (a = b) := eqvAll_kD a b
def flatK : D → Bool
  | .int _ => true
  | .str _ => true
  | _ => false
inductive KeyAt (Hh : Hp) : V → D → Prop
  | k (k : L2.Key) : KeyAt Hh (kV k) (kD k)
  | t {b : Addr} {ks : List L2.Key} : Hh b = some (.tup (ks.map kV)) → KeyAt Hh (.ref b) (.tuple (ks.map kD))
theorem KeyAt.same {H H' : Hp} {v : V} {d : D} (h : KeyAt H v d) (s : Same H H') : KeyAt H' v d := by
  cases h with
  | k k => exact .k k
  | t h => exact .t (s _ _ h)
theorem isK_look {T : Tab} {H : Hp} (k : L2.Key) : ∀ {kvs : List (L2.Key × V)} {ks : List (D × D)}, IsK T H kvs ks → match keyD ks (kD k) with
    | some d => ∃ v, valV kvs k = some v ∧ Is T H v d
    | none => valV kvs k = none
  | _, _, .nil => rfl
  | _, _, .cons (k := k') (v := v) (d := d) h r => by
    have ih := isK_look k r
    unfold keyD at ih ⊢
    rw [List.find?_cons]
    show match (match PyData.eqv (kD k') (kD k) with | true => _ | false => _ : Option (D × D)).map (·.2) with | some d => _ | none => _
    rw [eqv_kD]
    by_cases c : k' = k
    · rw [decide_eq_true c]
      exact ⟨v, valV_pos (p := (k', v)) c, h⟩
    · rw [decide_eq_false c]
      rw [valV_neg (p := (k', v)) c]
      exact ih
theorem isT_look {T : Tab} {H : Hp} (k : List L2.Key) : ∀ {kvs : List (List L2.Key × V)} {ks : List (D × D)}, IsT T H kvs ks → match keyD ks (.tuple (k.map kD)) with
    | some d => ∃ v, valV kvs k = some v ∧ Is T H v d
    | none => valV kvs k = none
  | _, _, .nil => rfl
  | _, _, .cons (k := k') (v := v) (d := d) h r => by
    have ih := isT_look k r
    unfold keyD at ih ⊢
    rw [List.find?_cons]
    show match (match PyData.eqv (.tuple (k'.map kD)) (.tuple (k.map kD)) with | true => _ | false => _ : Option (D × D)).map (·.2) with | some d => _ | none => _
    rw [eqv_kT]
    by_cases c : k' = k
    · rw [decide_eq_true c]
      exact ⟨v, valV_pos (p := (k', v)) c, h⟩
    · rw [decide_eq_false c]
      rw [valV_neg (p := (k', v)) c]
      exact ih
/-- what a marked dict holds at a key: none where it may not be asked -/
def lookD : D → D → Option (Option D)
  | .dict ((.none, .bool false) :: ks), x => if flatK x = true then some (keyD ks x) else none
  | .dict ((.none, .bool true) :: ks), .tuple xs => if xs.all flatK = true then some (keyD ks (.tuple xs)) else none
  | _, _ => none
def isDct : D → Bool
  | .dict ((.none, .bool _) :: _) => true
  | _ => false
theorem flat_key {d : D} (h : flatK d = true) : ∃ k, d = kD k := by
  cases d <;> first | (exact ⟨.inl _, rfl⟩) | (exact ⟨.inr _, rfl⟩) | (cases h)
theorem kD_inj {a b : L2.Key} (h : kD a = kD b) : a = b := by
  cases a <;> cases b <;> (unfold kD at h; first | (injection h with h; rw [h]) | (cases h))
theorem kDs_inj : ∀ {a b : List L2.Key}, a.map kD = b.map kD → a = b
  | [], [], _ => rfl
  | [], _ :: _, h => by cases h
  | _ :: _, [], h => by cases h
  | x :: a, y :: b, h => by
    have h1 := (List.cons.inj h).1
    have h2 := (List.cons.inj h).2
    rw [kD_inj h1, kDs_inj h2]
def RelOD (T : Tab) (H : Hp) : Option V → Option D → Prop
  | some v, some d => Is T H v d
  | none, none => True
  | _, _ => False
theorem pk_dk {T : Tab} {Hh H : Hp} {v : V} {ks : List (D × D)} (s : Same Hh H) (h : Pk T Hh H v (.dict ((.none, .bool false) :: ks))) : ∃ a kvs, v = .ref a ∧ Rd H a (.dK kvs) ∧ IsK T Hh kvs ks := by
  cases h with
  | val h => cases h with | dk h r => exact ⟨_, _, rfl, rd_same s h, r⟩
  | own h => cases h with | dk h r => exact ⟨_, _, rfl, .inl h, r⟩
theorem pk_dt {T : Tab} {Hh H : Hp} {v : V} {ks : List (D × D)} (s : Same Hh H) (h : Pk T Hh H v (.dict ((.none, .bool true) :: ks))) : ∃ a kvs, v = .ref a ∧ Rd H a (.dT kvs) ∧ IsT T Hh kvs ks := by
  cases h with
  | val h => cases h with | dt h r => exact ⟨_, _, rfl, rd_same s h, r⟩
  | own h => cases h with | dt h r => exact ⟨_, _, rfl, .inl h, r⟩
theorem look_use {T : Tab} {Hh H : Hp} {x y : V} {d key : D} {o : Option D} (s : Same Hh H) (h : Pk T Hh H x d) (hy : KeyAt Hh y key) (e : lookD d key = some o) : ∃ a ov, x = .ref a ∧ DGet H a y ov ∧ RelOD T Hh ov o := by
  unfold lookD at e
  split at e
  · obtain ⟨c, rfl⟩ := ifs e
    obtain ⟨a, kvs, rfl, hr, ik⟩ := pk_dk s h
    cases hy with
    | k k =>
      have := isK_look k ik
      refine ⟨a, _, rfl, .inl ⟨kvs, k, hr, rfl, rfl⟩, ?_⟩
      revert this
      split
      · rintro ⟨v, e1, e2⟩
        rename_i e3
        rw [e1, e3]
        exact e2
      · rename_i e3
        intro e1
        rw [e1, e3]
        trivial
    | t h => cases c
  · obtain ⟨c, rfl⟩ := ifs e
    obtain ⟨a, kvs, rfl, hr, ik⟩ := pk_dt s h
    generalize hk : (PyData.tuple _) = key at hy
    cases hy with
    | k k => cases k <;> cases hk
    | @t b ks hb =>
      injection hk with e4
      subst e4
      have := isT_look ks ik
      refine ⟨a, _, rfl, .inr ⟨kvs, ks, b, hr, rfl, s _ _ hb, rfl⟩, ?_⟩
      revert this
      split
      · rintro ⟨v, e1, e2⟩
        rename_i e3
        rw [e1, e3]
        exact e2
      · rename_i e3
        intro e1
        rw [e1, e3]
        trivial
  · cases e
theorem dct_use {T : Tab} {Hh H : Hp} {x : V} {d : D} (s : Same Hh H) (h : Pk T Hh H x d) (e : isDct d = true) : ∃ a, x = .ref a ∧ IsD H a := by
  unfold isDct at e
  split at e
  · rename_i b ks
    cases b with
    | false =>
      obtain ⟨a, kvs, rfl, hr, ik⟩ := pk_dk s h
      exact ⟨a, rfl, .inl ⟨kvs, hr⟩⟩
    | true =>
      obtain ⟨a, kvs, rfl, hr, ik⟩ := pk_dt s h
      exact ⟨a, rfl, .inr ⟨kvs, hr⟩⟩
  · cases e
def liftK (g : Glob) (xk : WX) (td : CE) : TE := fun σ H Q => ∃ (C : Ctx) (ρ : En) (n : Nat) (O : Ow) (k : D → En → Nat → Prop) (ke : KE), C.On g ∧ Ev C ρ n σ H O ∧ td ρ n k ke ∧ XL C xk ke ∧
  ∀ (d : D) (ρ' : En) (n' : Nat) (v : V) (H' : Hp) (O' : Ow), k d ρ' n' → Ev C ρ' n' σ H' O' → Same (hid C O H) (hid C O' H') → KeyAt (hid C O' H') v d → Q v H'
structure PDK (X : Cx) (g : Glob) (xk : WX) (e : Expr) (td : CE) : Prop where
  pe : PE X e (liftK g xk td)
section
variable {X : Cx} {g : Glob} {xk : WX} {pos : Pos}
def cKey (t : CE) : CE := fun ρ n k ke => t ρ n (fun d ρ' n' => flatK d = true ∧ k d ρ' n') ke
def cKeyT (ta : CA) : CE := fun ρ n k ke => ta ρ n (fun ds ρ' n' => ds.all flatK = true ∧ ds.length ≤ lim ∧ k (.tuple ds) ρ' n') ke
theorem Is.key {T : Tab} {H Hh : Hp} {v : V} {d : D} (h : Is T H v d) (f : flatK d = true) : KeyAt Hh v d := by
  cases h <;> first | exact .k (.inl _) | exact .k (.inr _) | (cases f)
theorem pk_val {e : Expr} {t : CE} (h : PD X g xk e t) : PDK X g xk e (cKey t) :=
  ⟨PE.imp h.pe fun σ H Q ⟨C, ρ, n, O, k, ke, hK, E, t, x, q⟩ => ⟨C, ρ, n, O, _, ke, hK, E, t, x, fun d ρ' n' v H' O' a b c i => q _ _ _ _ _ _ a.2 b c (i.key a.1)⟩⟩
theorem isL_keys {T : Tab} {H : Hp} : ∀ {vs : List V} {ds : List D}, IsL T H vs ds → ds.all flatK = true → ∃ ks : List L2.Key, ds = ks.map kD ∧ vs = ks.map kV
  | _, _, .nil, _ => ⟨[], rfl, rfl⟩
  | _, _, .cons h r, f => by
    rw [List.all_cons, Bool.and_eq_true] at f
    obtain ⟨ks, e1, e2⟩ := isL_keys r f.2
    obtain ⟨k, rfl⟩ := flat_key f.1
    refine ⟨k :: ks, by rw [e1]; rfl, ?_⟩
    rw [e2]
    cases k with
    | inl i => rw [h.int']; rfl
    | inr i => rw [h.str']; rfl
theorem pk_tup {es : List Expr} {ta : CA} {x1} (h : PDA X g xk es ta) : PDK X g xk (.Tuple es x1 pos) (cKeyT ta) := by
  refine ⟨PE.imp (pe_tup h.pa) fun σ H Q r => ?_⟩
  obtain ⟨C, ρ, n, O, k, ke, hK, E, t, x, q⟩ := r
  refine ⟨C, ρ, n, O, _, ke, hK, E, t, x, fun ds ρ1 n1 vs H1 O1 k1 E1 S1 i1 => ⟨by rw [i1.length]; exact lim_le k1.2.1, fun p hp => ?_⟩⟩
  obtain ⟨a, b, c⟩ := E1.new (o := .tup vs) hp
  obtain ⟨ks, rfl, rfl⟩ := isL_keys i1 k1.1
  exact q _ _ _ _ _ _ k1.2.2 a (S1.trans b) (.t c)
def cDGet (o : Opd) (tk : CE) : CE := fun ρ n k ke => cOpd o ρ n (fun get ρ1 n1 => tk ρ1 n1 (fun y ρ2 n2 => ∃ x z, get ρ2 = some x ∧ lookD x y = some (some z) ∧ k z ρ2 n2) ke) ke
def cDGet2 (o : Opd) (tk tx : CE) : CE := fun ρ n k ke => cOpd o ρ n (fun get ρ1 n1 => (∃ x0, get ρ1 = some x0 ∧ isDct x0 = true) ∧ tk ρ1 n1 (fun y ρ2 n2 => tx ρ2 n2 (fun dv ρ3 n3 => ∃ x z, get ρ3 = some x ∧ lookD x y = some z ∧ k (z.getD dv) ρ3 n3) ke) ke) ke
def cDGet1 (o : Opd) (tk : CE) : CE := fun ρ n k ke => cOpd o ρ n (fun get ρ1 n1 => (∃ x0, get ρ1 = some x0 ∧ isDct x0 = true) ∧ tk ρ1 n1 (fun y ρ2 n2 => ∃ x z, get ρ2 = some x ∧ lookD x y = some z ∧ k (z.getD .none) ρ2 n2) ke) ke
def cDIn (b : Bool) (tk : CE) (o : Opd) : CE := fun ρ n k ke => tk ρ n (fun y ρ1 n1 => cOpd o ρ1 n1 (fun get ρ2 n2 => ∃ x z, get ρ2 = some x ∧ lookD x y = some z ∧ k (.bool (z.isSome != b)) ρ2 n2) ke) ke
theorem pd_dget {a b : Expr} {o : Opd} {tk : CE} (hu : X.A.units + 1 < cLine) (ha : PDQ X g xk a o) (hb : PDK X g xk b tk) (hs : NoSl b) : PD X g xk (.Subscript a b pos) (cDGet o tk) := by
  refine ⟨PE.imp (pe_dget hu ha.pe hb.pe hs) fun σ H Q h => ?_⟩
  obtain ⟨C, ρ, n, O, k, ke, hK, E, t, x, q⟩ := h
  refine ⟨C, ρ, n, O, _, ke, hK, E, t, x, fun get ρ1 n1 v H1 O1 k1 E1 S1 p1 => ⟨C, ρ1, n1, O1, _, ke, hK, E1, k1, x, fun y ρ2 n2 v2 H2 O2 k2 E2 S2 i2 => ?_⟩⟩
  obtain ⟨x0, z, h1, h2, k2⟩ := k2
  obtain ⟨a, ov, rfl, dg, r⟩ := look_use hid_le (p1 _ _ _ _ _ E2 S2 h1) i2 h2
  cases ov with
  | none => exact r.elim
  | some w => exact ⟨a, w, rfl, dg, q _ _ _ _ _ _ k2 E2 (S1.trans S2) r⟩
theorem pd_dget2 {a b c : Expr} {apos : Pos} {o : Opd} {tk tx : CE} (hu : X.A.units + 1 < cLine) (ha : PDQ X g xk a o) (hb : PDK X g xk b tk) (hc : PD X g xk c tx) (m : M2 X a "get" apos b c pos) : PD X g xk (.Call (.Attribute a "get" apos) [b, c] [] pos) (cDGet2 o tk tx) := by
  refine ⟨PE.imp (pe_dget2 hu ha.pe hb.pe hc.pe m) fun σ H Q h => ?_⟩
  obtain ⟨C, ρ, n, O, k, ke, hK, E, t, x, q⟩ := h
  refine ⟨C, ρ, n, O, _, ke, hK, E, t, x, fun get ρ1 n1 v H1 O1 k1 E1 S1 p1 => ?_⟩
  obtain ⟨⟨x0, h0, hd⟩, k1⟩ := k1
  obtain ⟨a0, rfl, isd⟩ := dct_use hid_le (p1 _ _ _ _ _ E1 (Same.refl _) h0) hd
  refine ⟨a0, rfl, isd, C, ρ1, n1, O1, _, ke, hK, E1, k1, x, fun y ρ2 n2 v2 H2 O2 k2 E2 S2 i2 => ⟨C, ρ2, n2, O2, _, ke, hK, E2, k2, x, fun dv ρ3 n3 v3 H3 O3 k3 E3 S3 i3 => ?_⟩⟩
  obtain ⟨x1, z, h1, h2, k3⟩ := k3
  obtain ⟨a, ov, e, dg, r⟩ := look_use hid_le (p1 _ _ _ _ _ E3 (S2.trans S3) h1) (i2.same S3) h2
  cases e
  refine ⟨ov, dg, ?_⟩
  cases ov with
  | none =>
    cases z with
    | none => exact q _ _ _ _ _ _ k3 E3 ((S1.trans S2).trans S3) i3
    | some z => exact r.elim
  | some w =>
    cases z with
    | none => exact r.elim
    | some z => exact q _ _ _ _ _ _ k3 E3 ((S1.trans S2).trans S3) r
theorem pd_dget1 {a b : Expr} {apos : Pos} {o : Opd} {tk : CE} (hu : X.A.units + 1 < cLine) (ha : PDQ X g xk a o) (hb : PDK X g xk b tk) (m : M1 X a "get" apos b pos) : PD X g xk (.Call (.Attribute a "get" apos) [b] [] pos) (cDGet1 o tk) := by
  refine ⟨PE.imp (pe_dget1 hu ha.pe hb.pe m) fun σ H Q h => ?_⟩
  obtain ⟨C, ρ, n, O, k, ke, hK, E, t, x, q⟩ := h
  refine ⟨C, ρ, n, O, _, ke, hK, E, t, x, fun get ρ1 n1 v H1 O1 k1 E1 S1 p1 => ?_⟩
  obtain ⟨⟨x0, h0, hd⟩, k1⟩ := k1
  obtain ⟨a0, rfl, isd⟩ := dct_use hid_le (p1 _ _ _ _ _ E1 (Same.refl _) h0) hd
  refine ⟨a0, rfl, isd, C, ρ1, n1, O1, _, ke, hK, E1, k1, x, fun y ρ2 n2 v2 H2 O2 k2 E2 S2 i2 => ?_⟩
  obtain ⟨x1, z, h1, h2, k3⟩ := k2
  obtain ⟨a, ov, e, dg, r⟩ := look_use hid_le (p1 _ _ _ _ _ E2 S2 h1) i2 h2
  cases e
  refine ⟨ov, dg, ?_⟩
  cases ov with
  | none =>
    cases z with
    | none => exact q _ _ _ _ _ _ k3 E2 (S1.trans S2) .non
    | some z => exact r.elim
  | some w =>
    cases z with
    | none => exact r.elim
    | some z => exact q _ _ _ _ _ _ k3 E2 (S1.trans S2) r
theorem relod_some {T : Tab} {H : Hp} {ov : Option V} {z : Option D} (r : RelOD T H ov z) : ov.isSome = z.isSome := by
  cases ov <;> cases z <;> first | rfl | exact r.elim
theorem din_use {tk : CE} {o : Opd} {σ : L2.St} {H : Hp} {Q : VK} (h : lift g xk (cDIn false tk o) σ H Q) : tDIn (liftK g xk tk) (liftQ g xk o) σ H Q := by
  obtain ⟨C, ρ, n, O, k, ke, hK, E, t, x, q⟩ := h
  refine ⟨C, ρ, n, O, _, ke, hK, E, t, x, fun y ρ1 n1 v H1 O1 k1 E1 S1 i1 => ⟨C, ρ1, n1, O1, _, ke, hK, E1, k1, x, fun get ρ2 n2 v2 H2 O2 k2 E2 S2 p2 => ?_⟩⟩
  obtain ⟨x1, z, h1, h2, k2⟩ := k2
  obtain ⟨a, ov, rfl, dg, r⟩ := look_use hid_le (p2 _ _ _ _ _ E2 (Same.refl _) h1) (i1.same S2) h2
  refine ⟨a, ov, rfl, dg, q _ _ _ _ _ _ k2 E2 (S1.trans S2) ?_⟩
  rw [relod_some r]
  cases z.isSome <;> exact .bl _
theorem dnin_use {tk : CE} {o : Opd} {σ : L2.St} {H : Hp} {Q : VK} (h : lift g xk (cDIn true tk o) σ H Q) : tDNotIn (liftK g xk tk) (liftQ g xk o) σ H Q := by
  obtain ⟨C, ρ, n, O, k, ke, hK, E, t, x, q⟩ := h
  refine ⟨C, ρ, n, O, _, ke, hK, E, t, x, fun y ρ1 n1 v H1 O1 k1 E1 S1 i1 => ⟨C, ρ1, n1, O1, _, ke, hK, E1, k1, x, fun get ρ2 n2 v2 H2 O2 k2 E2 S2 p2 => ?_⟩⟩
  obtain ⟨x1, z, h1, h2, k2⟩ := k2
  obtain ⟨a, ov, rfl, dg, r⟩ := look_use hid_le (p2 _ _ _ _ _ E2 (Same.refl _) h1) (i1.same S2) h2
  refine ⟨a, ov, rfl, dg, q _ _ _ _ _ _ k2 E2 (S1.trans S2) ?_⟩
  rw [relod_some r]
  cases z.isSome <;> exact .bl _
theorem pd_din {a b : Expr} {o : Opd} {tk : CE} (hu : X.A.units + 1 < cLine) (ha : PDK X g xk a tk) (hb : PDQ X g xk b o) (hm : behindInMarks .In b = false) : PD X g xk (.Compare a [.In] [b] pos) (cDIn false tk o) := ⟨PE.imp (pe_cmp (pc_din hu ha.pe hb.pe) hm) fun σ H Q h => din_use h⟩
theorem pd_dnin {a b : Expr} {o : Opd} {tk : CE} (hu : X.A.units + 1 < cLine) (ha : PDK X g xk a tk) (hb : PDQ X g xk b o) (hm : behindInMarks .NotIn b = false) : PD X g xk (.Compare a [.NotIn] [b] pos) (cDIn true tk o) := ⟨PE.imp (pe_cmp (pc_dnotin hu ha.pe hb.pe) hm) fun σ H Q h => dnin_use h⟩
theorem pdt_din {a b : Expr} {o : Opd} {tk : CE} (hu : X.A.units + 1 < cLine) (ha : PDK X g xk a tk) (hb : PDQ X g xk b o) (hm : behindInMarks .In b = false) : PDT X g xk (.Compare a [.In] [b] pos) (cB (cDIn false tk o)) :=
  ⟨PT.imp (pt_cmp (pc_din hu ha.pe hb.pe) hm) fun σ H Q h => tB_use (fun _ _ _ h => din_use h) h⟩
theorem pdt_dnin {a b : Expr} {o : Opd} {tk : CE} (hu : X.A.units + 1 < cLine) (ha : PDK X g xk a tk) (hb : PDQ X g xk b o) (hm : behindInMarks .NotIn b = false) : PDT X g xk (.Compare a [.NotIn] [b] pos) (cB (cDIn true tk o)) :=
  ⟨PT.imp (pt_cmp (pc_dnotin hu ha.pe hb.pe) hm) fun σ H Q h => tB_use (fun _ _ _ h => dnin_use h) h⟩
/-! a new dict, a store -/
def cDNew (b : Bool) : CE := fun ρ n k _ => k (.dict [(.none, .bool b)]) ρ n
theorem pf_dnewK : PDF X g xk (.Dict [] [] pos) (cDNew false) := ⟨PE.imp pe_dnewK fun σ H Q ⟨C, ρ, n, O, k, ke, hK, E, t, x, q⟩ => fun p hp => q _ _ _ _ _ _ _ t E (Same.refl _) hp (same_new hp) (.dk upd_same .nil) rfl⟩
theorem pf_dnewT : PDF X g xk (.Dict [] [] pos) (cDNew true) := ⟨PE.imp pe_dnewT fun σ H Q ⟨C, ρ, n, O, k, ke, hK, E, t, x, q⟩ => fun p hp => q _ _ _ _ _ _ _ t E (Same.refl _) hp (same_new hp) (.dt upd_same .nil) rfl⟩
def putKD (ks : List (D × D)) (x d : D) : List (D × D) := if (ks.any fun kv => PyData.eqv kv.1 x) = true then ks.map (fun kv => if PyData.eqv kv.1 x = true then (kv.1, d) else kv) else ks ++ [(x, d)]
def putD : D → D → D → Option D
  | .dict ((.none, .bool false) :: ks), x, d => if flatK x = true ∧ ks.length < lim then some (.dict ((.none, .bool false) :: putKD ks x d)) else none
  | .dict ((.none, .bool true) :: ks), .tuple xs, d => if xs.all flatK = true ∧ ks.length < lim then some (.dict ((.none, .bool true) :: putKD ks (.tuple xs) d)) else none
  | _, _, _ => none
theorem isK_any {T : Tab} {H : Hp} (k : L2.Key) : ∀ {kvs : List (L2.Key × V)} {ks : List (D × D)}, IsK T H kvs ks → (ks.any fun kv => PyData.eqv kv.1 (kD k)) = (kvs.any fun kv => decide (kv.1 = k))
  | _, _, .nil => rfl
  | _, _, .cons (k := k') h r => by rw [List.any_cons, List.any_cons, isK_any k r, eqv_kD]
theorem isK_map {T : Tab} {H : Hp} (k : L2.Key) {v : V} {d : D} (iv : Is T H v d) : ∀ {kvs : List (L2.Key × V)} {ks : List (D × D)}, IsK T H kvs ks → IsK T H (kvs.map fun kv => if kv.1 = k then (kv.1, v) else kv) (ks.map fun kv => if PyData.eqv kv.1 (kD k) = true then (kv.1, d) else kv)
  | _, _, .nil => .nil
  | _, _, .cons (k := k') (v := v') (d := d') h r => by
    rw [List.map_cons, List.map_cons]
    simp only [eqv_kD]
    by_cases c : k' = k
    · rw [if_pos c, if_pos (decide_eq_true c)]
      exact .cons iv (isK_map k iv r)
    · rw [if_neg c, if_neg (by rw [decide_eq_false c]; simp)]
      exact .cons h (isK_map k iv r)
theorem isK_snoc {T : Tab} {H : Hp} (k : L2.Key) {v : V} {d : D} (iv : Is T H v d) : ∀ {kvs : List (L2.Key × V)} {ks : List (D × D)}, IsK T H kvs ks → IsK T H (kvs ++ [(k, v)]) (ks ++ [(kD k, d)])
  | _, _, .nil => .cons iv .nil
  | _, _, .cons h r => .cons h (isK_snoc k iv r)
theorem isK_put {T : Tab} {H : Hp} (k : L2.Key) {v : V} {d : D} {kvs : List (L2.Key × V)} {ks : List (D × D)} (iv : Is T H v d) (i : IsK T H kvs ks) : IsK T H (L2.putK kvs k v) (putKD ks (kD k) d) := by
  unfold L2.putK putKD
  rw [isK_any k i]
  split
  · exact isK_map k iv i
  · exact isK_snoc k iv i
theorem isT_any {T : Tab} {H : Hp} (k : List L2.Key) : ∀ {kvs : List (List L2.Key × V)} {ks : List (D × D)}, IsT T H kvs ks → (ks.any fun kv => PyData.eqv kv.1 (.tuple (k.map kD))) = (kvs.any fun kv => decide (kv.1 = k))
  | _, _, .nil => rfl
  | _, _, .cons (k := k') h r => by rw [List.any_cons, List.any_cons, isT_any k r, eqv_kT]
theorem isT_map {T : Tab} {H : Hp} (k : List L2.Key) {v : V} {d : D} (iv : Is T H v d) : ∀ {kvs : List (List L2.Key × V)} {ks : List (D × D)}, IsT T H kvs ks → IsT T H (kvs.map fun kv => if kv.1 = k then (kv.1, v) else kv) (ks.map fun kv => if PyData.eqv kv.1 (.tuple (k.map kD)) = true then (kv.1, d) else kv)
  | _, _, .nil => .nil
  | _, _, .cons (k := k') (v := v') (d := d') h r => by
    rw [List.map_cons, List.map_cons]
    simp only [eqv_kT]
    by_cases c : k' = k
    · rw [if_pos c, if_pos (decide_eq_true c)]
      exact .cons iv (isT_map k iv r)
    · rw [if_neg c, if_neg (by rw [decide_eq_false c]; simp)]
      exact .cons h (isT_map k iv r)
theorem isT_snoc {T : Tab} {H : Hp} (k : List L2.Key) {v : V} {d : D} (iv : Is T H v d) : ∀ {kvs : List (List L2.Key × V)} {ks : List (D × D)}, IsT T H kvs ks → IsT T H (kvs ++ [(k, v)]) (ks ++ [(.tuple (k.map kD), d)])
  | _, _, .nil => .cons iv .nil
  | _, _, .cons h r => .cons h (isT_snoc k iv r)
theorem isT_put {T : Tab} {H : Hp} (k : List L2.Key) {v : V} {d : D} {kvs : List (List L2.Key × V)} {ks : List (D × D)} (iv : Is T H v d) (i : IsT T H kvs ks) : IsT T H (L2.putK kvs k v) (putKD ks (.tuple (k.map kD)) d) := by
  unfold L2.putK putKD
  rw [isT_any k i]
  split
  · exact isT_map k iv i
  · exact isT_snoc k iv i
theorem isK_len {T : Tab} {H : Hp} : ∀ {kvs : List (L2.Key × V)} {ks : List (D × D)}, IsK T H kvs ks → kvs.length = ks.length
  | _, _, .nil => rfl
  | _, _, .cons _ r => by rw [List.length_cons, List.length_cons, isK_len r]
theorem isT_len {T : Tab} {H : Hp} : ∀ {kvs : List (List L2.Key × V)} {ks : List (D × D)}, IsT T H kvs ks → kvs.length = ks.length
  | _, _, .nil => rfl
  | _, _, .cons _ r => by rw [List.length_cons, List.length_cons, isT_len r]
def ownD (ρ : En) (i : Nat) (d : D) : Prop := ρ[i]? = some (some (Sl.own d))
def cDPut (i : Nat) (tk tv : CE) : CS := fun ρ n e => tv ρ n (fun d ρ1 n1 => (∃ m, ownD ρ1 i m) ∧ tk ρ1 n1 (fun y ρ2 n2 => ∃ m m', ownD ρ2 i m ∧ putD m y d = some m' ∧ e.nx (ρ2.set i (some (Sl.own m'))) n2) e.xc) e.xc
theorem pds_dput (i : Nat) {x : Str} {a v : Expr} {tk tv : CE} {p1 p2 : Pos} (hu : X.A.units + 1 < cLine) (hi : PDK X g xk a tk) (he : PD X g xk v tv) (hN : X.N[i]? = some x := by rfl) (hv : Vis X.env.scope x := by first | exact Or.inl rfl | exact Or.inr (Or.inl rfl) | exact Or.inr (Or.inr rfl)) (hd : (x == ("__debug__" : Str)) = false := by decide)
    (hcd : (x == ("__classdict__" : Str)) = false := by decide) (hs : swapsWith v (some (.Subscript (.Name x p1) a p2)) pos.line X.env = pure false := by rfl) :
    PDS X g xk (.Assign [.Subscript (.Name x p1) a p2] v pos) (cDPut i tk tv) := by
  refine ⟨ps_imp (ps_dput hu (pe_var (i := i) hN hv hd hcd) hi.pe he.pe hs) fun F σ H h => ?_⟩
  obtain ⟨C, ρ, n, O, e, hK, E, t, l⟩ := h
  refine ⟨C, ρ, n, O, _, _, hK, E, t, l.xc, fun d ρ1 n1 v H1 O1 k1 E1 S1 i1 => ?_⟩
  obtain ⟨⟨m0, e0⟩, k1⟩ := k1
  obtain ⟨p, g1, g2, g3⟩ := E1.own i _ e0
  refine ⟨.ref p, g2, C, ρ1, n1, O1, _, _, hK, E1, k1, l.xc, fun y ρ2 n2 v2 H2 O2 k2 E2 S2 i2 => ?_⟩
  obtain ⟨m, m', e2, hu, k2⟩ := k2
  obtain ⟨p', w1, w2, w3⟩ := E2.own i _ e2
  rw [g2] at w2
  cases w2
  have i1' := i1.same S2
  unfold putD at hu
  split at hu
  · obtain ⟨⟨c1, c2⟩, rfl⟩ := ifs hu
    cases w3 with
    | dk h r =>
      cases i2 with
      | t h => cases c1
      | k k =>
        refine ⟨p, _, rfl, .k h (by rw [isK_len r]; exact lim_lt c2), ?_⟩
        obtain ⟨E3, S3⟩ := E2.chg (o := .dK (L2.putK _ k v)) (lt_of_get e2) w1 (.dk upd_same (isK_put k i1' r))
        exact l.nx _ _ _ _ _ k2 E3 ((S1.trans S2).trans S3)
  · obtain ⟨⟨c1, c2⟩, rfl⟩ := ifs hu
    cases w3 with
    | dt h r =>
      generalize hk : (PyData.tuple _) = key at i2
      cases i2 with
      | k k => cases k <;> cases hk
      | @t b ks hb =>
        injection hk with e4
        subst e4
        refine ⟨p, _, rfl, .t h (hid_le _ _ hb) (by rw [isT_len r]; exact lim_lt c2), ?_⟩
        obtain ⟨E3, S3⟩ := E2.chg (o := .dT (L2.putK _ ks v)) (lt_of_get e2) w1 (.dt upd_same (isT_put ks i1' r))
        exact l.nx _ _ _ _ _ k2 E3 ((S1.trans S2).trans S3)
  · cases hu
end
end RM
namespace RM
open PySem PySem.Spec PyProof.Rows L2 CS RZ
/-! ### objects -/
theorem isObj {T : Tab} {H : Hp} {v : V} {c : Nat} {fs : List (D × D)} (h : Is T H v (obj c fs)) : ∃ a dx us, v = .ref a ∧ H a = some (.ins (T.cls c) dx us) ∧ H dx = some (.own a) ∧ IsF T H us fs := by
  unfold obj at h
  generalize hd : (PyData.dict ((.none, .int (c : Nat)) :: fs)) = d at h
  cases h with
  | obj h1 h2 r =>
    injection hd with hd
    injection hd with hd hf
    injection hd with _ hd
    injection hd with hd
    rw [← Int.ofNat.inj hd] at h1
    subst hf
    exact ⟨_, _, _, rfl, h1, h2, r⟩
  | _ => cases hd
theorem ownObj {T : Tab} {Hh H : Hp} {p : Addr} {c : Nat} {fs : List (D × D)} (h : OwnAt T Hh H p (obj c fs)) : ∃ dx us, H p = some (.ins (T.cls c) dx us) ∧ Hh dx = some (.own p) ∧ IsF T Hh us fs := by
  unfold obj at h
  generalize hd : (PyData.dict ((.none, .int (c : Nat)) :: fs)) = d at h
  cases h with
  | obj h1 h2 r =>
    injection hd with hd
    injection hd with hd hf
    injection hd with _ hd
    injection hd with hd
    rw [← Int.ofNat.inj hd] at h1
    subst hf
    exact ⟨_, _, h1, h2, r⟩
  | _ => cases hd
theorem pkObj {T : Tab} {Hh H : Hp} {v : V} {c : Nat} {fs : List (D × D)} (s : Same Hh H) (h : Pk T Hh H v (obj c fs)) : ∃ a dx us, v = .ref a ∧ H a = some (.ins (T.cls c) dx us) ∧ IsF T Hh us fs := by
  generalize hd : obj c fs = d at h
  cases h with
  | val h =>
    subst hd
    obtain ⟨a, dx, us, e, h1, _, r⟩ := isObj h
    exact ⟨a, dx, us, e, s _ _ h1, r⟩
  | own h =>
    subst hd
    obtain ⟨dx, us, h1, _, r⟩ := ownObj h
    exact ⟨_, dx, us, rfl, h1, r⟩
def fieldD (fs : List (D × D)) (f : Str) : Option D := (fs.find? fun kv => PyData.eqv kv.1 (.str f)).map (·.2)
theorem eqv_str (a b : Str) : PyData.eqv (.str a) (.str b) = decide (a = b) := by
  show (a == b) = _
  by_cases c : a = b
  · rw [decide_eq_true c, c]
    exact beq_self_eq_true b
  · rw [decide_eq_false c]
    exact beq_eq_false_iff_ne.mpr c
theorem isF_look {T : Tab} {H : Hp} (f : Str) : ∀ {us : List (Str × V)} {fs : List (D × D)}, IsF T H us fs → match fieldD fs f with
    | some d => ∃ v, us.lookup f = some v ∧ Is T H v d
    | none => us.lookup f = none
  | _, _, .nil => rfl
  | _, _, .cons (f := f') (v := v) (d := d) h r => by
    have ih := isF_look f r
    unfold fieldD at ih ⊢
    rw [List.find?_cons]
    show match (match PyData.eqv (.str f') (.str f) with | true => _ | false => _ : Option (D × D)).map (·.2) with | some d => _ | none => _
    rw [eqv_str]
    by_cases c : f' = f
    · rw [decide_eq_true c]
      subst c
      exact ⟨v, by rw [List.lookup_cons_self], h⟩
    · rw [decide_eq_false c]
      have e : (f == f') = false := beq_eq_false_iff_ne.mpr (Ne.symm c)
      simp only [List.lookup_cons, e]
      exact ih
def putFD (f : Str) (d : D) : List (D × D) → List (D × D)
  | [] => [(.str f, d)]
  | (k, x) :: r => if PyData.eqv k (.str f) = true then (k, d) :: r else (k, x) :: putFD f d r
theorem isF_put {T : Tab} {H : Hp} (f : Str) {v : V} {d : D} (iv : Is T H v d) : ∀ {us : List (Str × V)} {fs : List (D × D)}, IsF T H us fs → IsF T H (putF f v us) (putFD f d fs)
  | _, _, .nil => .cons iv .nil
  | _, _, .cons (f := f') h r => by
    unfold putF putFD
    rw [eqv_str]
    by_cases c : f' = f
    · rw [if_pos c, if_pos (decide_eq_true c)]
      exact .cons iv r
    · rw [if_neg c, if_neg (by rw [decide_eq_false c]; simp)]
      exact .cons h (isF_put f iv r)
theorem isF_len {T : Tab} {H : Hp} : ∀ {us : List (Str × V)} {fs : List (D × D)}, IsF T H us fs → us.length = fs.length
  | _, _, .nil => rfl
  | _, _, .cons _ r => by rw [List.length_cons, List.length_cons, isF_len r]
section
variable {X : Cx} {g : Glob} {xk : WX} {pos : Pos} {C : Ctx} {ρ : En} {n : Nat} {σ : L2.St} {H H' : Hp} {O : Ow}
/-- o.f, a field -/
def cFld (o : Opd) (c : Nat) (f : Str) : CE := fun ρ n k ke => cOpd o ρ n (fun get ρ1 n1 => ∃ fs d, get ρ1 = some (obj c fs) ∧ fieldD fs f = some d ∧ k d ρ1 n1) ke
theorem pd_fld {e : Expr} {o : Opd} {c : Nat} {f : Str} (G : Good X g) (h : PDQ X g xk e o) (hC : Cls X.K (g.cls c)) (hn : NoAttr X.K (g.cls c) f) (hb : attributeBase e f X.env (eval e X.env) = eval e X.env := by rfl) : PD X g xk (.Attribute e f pos) (cFld o c f) := by
  refine ⟨PE.imp (pe_fld h.pe hb) fun σ H Q r => ?_⟩
  obtain ⟨C, ρ, n, O, k, ke, hK, E, t, x, q⟩ := r
  refine ⟨C, ρ, n, O, _, ke, hK, E, t, x, fun get ρ1 n1 v H1 O1 k1 E1 S1 p1 => ?_⟩
  obtain ⟨fs, d, h1, h2, k1⟩ := k1
  obtain ⟨a, dx, us, rfl, g1, r⟩ := pkObj hid_le (p1 _ _ _ _ _ E1 (Same.refl _) h1)
  have := isF_look f r
  rw [h2] at this
  obtain ⟨v, l, iv⟩ := this
  rw [hK.2] at g1
  exact ⟨a, _, dx, us, v, rfl, g1, hC, hn, l, q _ _ _ _ _ _ k1 E1 S1 iv⟩
/-- self.f = e in __init__ -/
def cPutF (i : Nat) (c : Nat) (f : Str) (tv : CE) : CS := fun ρ n e => tv ρ n (fun d ρ1 n1 => ∃ fs, ownD ρ1 i (obj c fs) ∧ fs.length < 900 ∧ e.nx (ρ1.set i (some (Sl.own (obj c (putFD f d fs))))) n1) e.xc
theorem pds_putF (i : Nat) {x : Str} {v : Expr} {tv : CE} {c : Nat} {f : Str} {p1 p2 : Pos} (hC : Cls X.K (g.cls c)) (hn : NoAttr X.K (g.cls c) f) (he : PD X g xk v tv) (hN : X.N[i]? = some x := by rfl) (hv : Vis X.env.scope x := by first | exact Or.inl rfl | exact Or.inr (Or.inl rfl) | exact Or.inr (Or.inr rfl)) (hd : (x == ("__debug__" : Str)) = false := by decide)
    (hcd : (x == ("__classdict__" : Str)) = false := by decide) (hs : swapsWith v (some (.Attribute (.Name x p1) f p2)) pos.line X.env = pure false := by rfl) :
    PDS X g xk (.Assign [.Attribute (.Name x p1) f p2] v pos) (cPutF i c f tv) := by
  refine ⟨ps_imp (ps_fld (pe_var (i := i) hN hv hd hcd) he.pe hs) fun F σ H h => ?_⟩
  obtain ⟨C, ρ, n, O, e, hK, E, t, l⟩ := h
  refine ⟨C, ρ, n, O, _, _, hK, E, t, l.xc, fun d ρ1 n1 v H1 O1 k1 E1 S1 i1 => ?_⟩
  obtain ⟨fs, e0, hl, k1⟩ := k1
  obtain ⟨p, g1, g2, g3⟩ := E1.own i _ e0
  obtain ⟨dx, us, h1, h2, r⟩ := ownObj g3
  have hl2 := isF_len r
  rw [hK.2] at h1
  refine ⟨.ref p, g2, p, _, dx, us, rfl, h1, hC, hn, by omega, ?_⟩
  obtain ⟨E3, S3⟩ := E1.chg (d := obj c (putFD f d fs)) (o := .ins (g.cls c) dx (putF f v us)) (lt_of_get e0) g1 (by
    unfold obj
    refine .obj (dx := dx) (us := putF f v us) ?_ h2 (isF_put f i1 r)
    rw [upd_same, hK.2]) fun _ => ⟨_, e0, rfl⟩
  exact l.nx _ _ _ _ _ k1 E3 (S1.trans S3)
/-- o.f, a property: what its def tells -/
def cProp (sd : SpD) (ta : CE) (c : Nat) : CE := fun ρ n k ke => ta ρ n (fun d ρ1 n1 => (∃ fs, d = obj c fs) ∧ sd [d] n1 (fun z n2 => k z ρ1 n2) (fun _ _ => False)) ke
theorem spD_use0 {sd : SpD} {ds : List D} {vs : List V} {k : D → Nat → Prop} {Q : VK} (hK : C.On g) (E : Ev C ρ n σ H O) (i : IsL C.T (hid C O H) vs ds) (s : sd ds n k (fun _ _ => False))
    (q : ∀ (d : D) (n' : Nat) (v : V) (H' : Hp), k d n' → Ev C ρ n' σ H' O → Same (hid C O H) (hid C O H') → Is C.T (hid C O H') v d → Q v H') : spD g sd vs H Q E0 := by
  refine ⟨C.sub O H, ds, n, k, fun _ _ => False, hK, rfl, ev_sub E, by rw [hid_sub]; exact i, s, fun d n' v H' a F b => ?_, fun c fs n' dd H' a F b => a.elim⟩
  obtain ⟨e1, e2⟩ := ev_back E F
  rw [hid_sub] at b
  exact q d n' v H' a e1 e2 b
theorem pd_prop {CX : CXT} {sd : SpD} {k : Nat} {p g0 : Addr} {fd : FuncData} {ps : List Str} {e : Expr} {ta : CE} {c : Nat} {f : Str} (F : FnOk X.prog X.w X.K X.mg X.base CX k g0 fd ps (spD g sd)) (h : PD X g xk e ta) (hC : Cls X.K (g.cls c)) (hp : PropOf X.K (g.cls c) f p g0) (hr : Room (k + 1) X.A) (hb : Binds X.K fd ps []) (hx : Passes CX X.nox E0)
    (hab : attributeBase e f X.env (eval e X.env) = eval e X.env := by rfl) : PD X g xk (.Attribute e f pos) (cProp sd ta c) := by
  refine ⟨PE.imp (pe_prop h.pe hC hp F hr hb .nil hx hab) fun σ H Q r => ?_⟩
  obtain ⟨C, ρ, n, O, k, ke, hK, E, t, x, q⟩ := r
  refine ⟨C, ρ, n, O, _, ke, hK, E, t, x, fun d ρ1 n1 v H1 O1 k1 E1 S1 i1 => ?_⟩
  obtain ⟨⟨fs, rfl⟩, k1⟩ := k1
  obtain ⟨a, dx, us, rfl, g1, _, r⟩ := isObj i1
  rw [hK.2] at g1
  exact ⟨a, dx, us, rfl, hid_le _ _ g1, spD_use0 hK E1 (.cons i1 .nil) k1 fun d n' v H' a b c i => q _ _ _ _ _ _ a b (S1.trans c) i⟩
/-- o.m(..) -/
def cMeth (sd : SpD) (to : CE) (ta : CA) (c : Nat) (m : Str) : CE := fun ρ n k ke => to ρ n (fun d ρ1 n1 => (∃ fs, d = obj c fs ∧ fieldD fs m = none) ∧ ta ρ1 n1 (fun ds ρ2 n2 => sd (d :: ds) n2 (fun z n3 => k z ρ2 n3) (fun y n3 => ke y ρ2 n3)) ke) ke
theorem pd_meth {CX : CXT} {sd : SpD} {k : Nat} {f : Addr} {fd : FuncData} {ps : List Str} {o e : Expr} {es : List Expr} {to : CE} {ta : CA} {c : Nat} {m : Str} {apos : Pos} {pl : Sem Bool} (F : FnOk X.prog X.w X.K X.mg X.base CX k f fd ps (spD g sd)) (ho : PD X g xk o to) (hC : Cls X.K (g.cls c)) (hm : Meth X.K (g.cls c) m f) (hr : Room k X.A) (hb : Binds X.K fd ps [])
    (hx : ∀ σ, PassesAt CX X σ (WE xk σ)) (ha : PDA X g xk (e :: es) ta)
    (hst : starEach (e :: es) X.env = (false, eval e X.env) :: starEach es X.env := by rfl) (hpl : (backTo pos (starEach es X.env)).any (·.1) = false := by rfl)
    (ht : eval (.Call (.Attribute o m apos) (e :: es) [] pos) X.env = (do
      let ov ← eval o X.env
      standAt apos.atName
      let (f, first) ← holding [ov] (getMethod ov m pl)
      callWith pos f first (backTo pos (starEach (e :: es) X.env)) (backToKw pos (keywordEach [] X.env))) := by rfl) : PD X g xk (.Call (.Attribute o m apos) (e :: es) [] pos) (cMeth sd to ta c m) := by
  refine ⟨⟨fun pins s σ H Q I h => ?_⟩⟩
  obtain ⟨C, ρ, n, O, k, ke, hK, E, t, x, q⟩ := h
  refine PySem.W.methodCall_KW (pl := pl) (thn (ho.pe.run pins s σ H (fun v H1 => ∃ (d : D) (ρ1 : En) (n1 : Nat) (O1 : Ow), ((∃ fs, d = obj c fs ∧ fieldD fs m = none) ∧ ta ρ1 n1 (fun ds ρ2 n2 => sd (d :: ds) n2 (fun z n3 => k z ρ2 n3) (fun y n3 => ke y ρ2 n3)) ke) ∧ Ev C ρ1 n1 σ H1 O1 ∧ Same (hid C O H) (hid C O1 H1) ∧ Is C.T (hid C O1 H1) v d) I
    ⟨C, ρ, n, O, _, ke, hK, E, t, x, fun d ρ1 n1 v H1 O1 a b c i => ⟨d, ρ1, n1, O1, a, b, c, i⟩⟩) fun u s1 ⟨v, H1, I1, rx, d, ρ1, n1, O1, ⟨⟨fs, ed, hfm⟩, k1⟩, E1, S1, i1⟩ => ?_) ht
  subst ed
  obtain ⟨a, dx, us, rfl, g1, _, r⟩ := isObj i1
  have hl := isF_look m r
  rw [hfm] at hl
  rw [hK.2] at g1
  obtain rfl : u = Value.ref a := rx
  refine getmeth_ok I1 (hid_le _ _ g1) hC hm hl ?_
  refine PySem.W.callWith_K (first := [.ref a]) (h₀ := X.base) I.ok.mod.kin hm.kp (thn (ha.pa.run pos pins s1 σ H1 (fun vs H2 => spD g sd (.ref a :: vs) H2 Q (WE xk σ)) I1 ⟨C, ρ1, n1, O1, _, ke, hK, E1, k1, x, fun ds ρ2 n2 vs H2 O2 k2 E2 S2 i2 =>
    spD_use hK E2 x (.cons (i1.same S2) i2) k2 fun d n' v H' a b c i => q _ _ _ _ _ _ a b ((S1.trans S2).trans c) i⟩) fun us2 s2 ⟨vs, H2, I2, r2, q2⟩ => ⟨I2.kIn, ?_⟩) hst hpl
  exact run_fnSD (us := .ref a :: us2) (ds := []) (dvs := []) (vs := .ref a :: vs) (E := WE xk) F hr hb .nil (hx σ) I2 (.cons rfl r2) (by rw [List.append_nil]; exact q2)
theorem pd_meth0 {CX : CXT} {sd : SpD} {k : Nat} {f : Addr} {fd : FuncData} {ps : List Str} {o : Expr} {to : CE} {c : Nat} {m : Str} {apos : Pos} {pl : Sem Bool} (F : FnOk X.prog X.w X.K X.mg X.base CX k f fd ps (spD g sd)) (ho : PD X g xk o to) (hC : Cls X.K (g.cls c)) (hm : Meth X.K (g.cls c) m f) (hr : Room k X.A) (hb : Binds X.K fd ps [])
    (hx : ∀ σ, PassesAt CX X σ (WE xk σ))
    (ht : eval (.Call (.Attribute o m apos) [] [] pos) X.env = (do
      let ov ← eval o X.env
      standAt apos.atName
      let (f, first) ← holding [ov] (getMethod ov m pl)
      callWith pos f first (backTo pos (starEach [] X.env)) (backToKw pos (keywordEach [] X.env))) := by rfl) : PD X g xk (.Call (.Attribute o m apos) [] [] pos) (cMeth sd to cNil c m) := by
  refine ⟨⟨fun pins s σ H Q I h => ?_⟩⟩
  obtain ⟨C, ρ, n, O, k, ke, hK, E, t, x, q⟩ := h
  refine PySem.W.methodCall_KW (pl := pl) (thn (ho.pe.run pins s σ H (fun v H1 => ∃ (d : D) (ρ1 : En) (n1 : Nat) (O1 : Ow), ((∃ fs, d = obj c fs ∧ fieldD fs m = none) ∧ sd [d] n1 (fun z n3 => k z ρ1 n3) (fun y n3 => ke y ρ1 n3)) ∧ Ev C ρ1 n1 σ H1 O1 ∧ Same (hid C O H) (hid C O1 H1) ∧ Is C.T (hid C O1 H1) v d) I
    ⟨C, ρ, n, O, _, ke, hK, E, t, x, fun d ρ1 n1 v H1 O1 a b c i => ⟨d, ρ1, n1, O1, a, b, c, i⟩⟩) fun u s1 ⟨v, H1, I1, rx, d, ρ1, n1, O1, ⟨⟨fs, ed, hfm⟩, k1⟩, E1, S1, i1⟩ => ?_) ht
  subst ed
  obtain ⟨a, dx, us, rfl, g1, _, r⟩ := isObj i1
  have hl := isF_look m r
  rw [hfm] at hl
  rw [hK.2] at g1
  obtain rfl : u = Value.ref a := rx
  refine getmeth_ok I1 (hid_le _ _ g1) hC hm hl ?_
  exact PySem.W.callWith_K0 (first := [.ref a]) I1.kIn hm.kp (run_fnSD (us := [.ref a]) (ds := []) (dvs := []) (vs := [.ref a]) (E := WE xk) F hr hb .nil (hx σ) I1 (.cons rfl .nil)
    (spD_use hK E1 x (.cons i1 .nil) k1 fun d n' v H' a b c i => q _ _ _ _ _ _ a b (S1.trans c) i))
/-! ### a new object -/
abbrev SpI := List D → Nat → (List (D × D) → Nat → Prop) → (Xv → Nat → Prop) → Prop
def spI (g : Glob) (c : Nat) (sd : SpI) : Sp := fun vs H Q E => ∃ (C : Ctx) (x dx : Addr) (us : List V) (ds : List D) (n : Nat) (k : List (D × D) → Nat → Prop) (ke : Xv → Nat → Prop), C.On g ∧ vs = .ref x :: us ∧ H x = some (.ins (g.cls c) dx []) ∧ H dx = some (.own x) ∧ dx ≠ x ∧ C.H0 = out H x ∧ Ev C [] n [] (out H x) now ∧ IsL C.T (hid C now (out H x)) us ds ∧ ¬ C.Z dx ∧ sd ds n k ke ∧
  (∀ (fs : List (D × D)) (n' : Nat) (dx' : Addr) (vs' : List (Str × V)) (H' : Hp), k fs n' → Fin C n' H' → H' x = some (.ins (g.cls c) dx' vs') → H' dx' = some (.own x) → ¬ C.Z dx' → IsF C.T (hid C now (out H' x)) vs' fs → Q .non H') ∧
  ∀ (d : Nat) (fs : List (D × D)) (n' : Nat) (dd : Option Addr) (H' : Hp), ke (d, fs) n' → Fin C n' H' → XIs C.T (hid C now H') dd fs → E (.ref (C.T.cls d)) dd H'
theorem run_makeS {CX : CXT} {k : Nat} {f A : Addr} {fd : FuncData} {ps : List Str} {sp : Sp} {dvs : List V} {ds : List Value} {E : L2.St → XK} {pins : List (Addr × Obj)} {σ : L2.St} {H : Hp} {s : Shared} {Q : VK} {us : List Value} {vs : List V} (M : Mk X.K A f) (F : FnOk X.prog X.w X.K X.mg X.base CX k f fd ps sp) (hr : Room (k + 1) X.A) (hb : Binds X.K fd ps ds) (hd : Vals dvs ds)
    (hx : PassesAt CX X σ (E σ)) (I : Inv X pins σ H s) (r : Vals vs us)
    (h : ∀ x dx, H x = none → H dx = none → dx ≠ x → sp (.ref x :: (vs ++ dvs)) (upd (upd H dx (.own x)) x (.ins A dx [])) (fun v H2 => v = .non ∧ Q (.ref x) H2) (E σ)) :
    wpAny (model X.prog X.w) X.A (call (.ref A) us) (EP X pins σ Q) X.xe s := by
  have I2 := Inv.made (C := A) I
  refine wpAny_call (make_map I.kIn M.makes M.init (beq_iff_eq.mp M.fn) (fn_go F (hr.make A us []) (I2.env0.make A us []) I2.kIn hb (vs := V.ref (s.heap.objs.size + 1) :: (vs ++ dvs)) (.cons rfl (r.append hd)) (h _ _ (I.hok.fresh (Nat.le_succ _)) (I.hok.fresh (Nat.le_refl _)) (Nat.ne_of_lt (Nat.lt_succ_self _)))
    (fun e s' c => hx pins _ _ e s' I2 c) fun u s' c => ?_))
  obtain ⟨_, H', J, ru, rfl, q⟩ := I2.after c
  exact ⟨ru, V.ref (s.heap.objs.size + 1), H', J, rfl, q⟩
def cMake (c : Nat) (sd : SpI) (ta : CA) : CE := fun ρ n k ke => ta ρ n (fun ds ρ1 n1 => sd ds n1 (fun fs n2 => k (obj c fs) ρ1 n2) (fun y n2 => ke y ρ1 n2)) ke
/-- the promise of __init__, from a caller's reading -/
theorem spI_use {sd : SpI} {c : Nat} {ds : List D} {vs : List V} {k : List (D × D) → Nat → Prop} {ke : KE} {Q : VK} {x dx : Addr} (hK : C.On g) (E : Ev C ρ n σ H O) (xl : XL C xk ke) (i : IsL C.T (hid C O H) vs ds) (s : sd ds n k (fun y n2 => ke y ρ n2)) (hx : H x = none) (hdx : H dx = none) (ne : dx ≠ x)
    (q : ∀ (fs : List (D × D)) (n' : Nat) (v : V) (H' : Hp), k fs n' → Ev C ρ n' σ H' O → Same (hid C O H) (hid C O H') → Is C.T (hid C O H') v (obj c fs) → Q v H') :
    spI g c sd (.ref x :: vs) (upd (upd H dx (.own x)) x (.ins (g.cls c) dx [])) (fun v H2 => v = .non ∧ Q (.ref x) H2) (WE xk σ) := by
  have hx' : upd H dx (.own x) x = none := by rw [upd_ne (Ne.symm ne)]; exact hx
  have ho : out (upd (upd H dx (.own x)) x (.ins (g.cls c) dx [])) x = upd H dx (.own x) := out_new hx'
  obtain ⟨E1, S1, _⟩ := E.new (o := .own x) hdx
  obtain ⟨f1, f2, f3, f4⟩ := E.fresh hx
  obtain ⟨d1, d2, _, _⟩ := E.fresh hdx
  have keepH : ∀ H' : Hp, (∀ a o, (C.sub O (upd H dx (.own x))).H0 a = some o → C.T.bx ≠ some a → H' a = some o) → ∀ a o, H a = some o → C.T.bx ≠ some a → H' a = some o := fun H' h a o e z => h a o (by
    show upd H dx (.own x) a = some o
    rw [upd_ne (ne_of_none e hdx)]
    exact e) z
  refine ⟨C.sub O (upd H dx (.own x)), x, dx, vs, ds, n, k, fun y n2 => ke y ρ n2, hK, rfl, upd_same, ?_, ne, ho.symm, by rw [ho]; exact ev_sub E1, by rw [ho, hid_sub]; exact i.same S1, ?_, s, fun fs n' dx' vs' H' a F b b2 b3 r => ⟨rfl, ?_⟩, fun d fs n' dd H' a F b => ?_⟩
  · rw [upd_ne ne, upd_same]
  · rintro (z | ⟨j, z⟩)
    · exact d1 z
    · exact d2 j z
  · have Kb : Kb C.T H H' := keepH H' F.keep
    have E2 : Ev C ρ n' σ H' O := E.extB Kb F.box
    have S2 := E.hidKb Kb
    refine q fs n' (.ref x) H' a E2 S2 ?_
    unfold obj
    refine .obj (dx := dx') (us := vs') (hid_of (by rw [hK.2]; exact b) f1 f2) (hid_of b2 (fun z => b3 (.inl z)) fun j z => b3 (.inr ⟨j, z⟩)) ?_
    rw [hid_sub] at r
    exact r.same (hid_same out_le)
  · have Kb : Kb C.T H H' := keepH H' F.keep
    rw [hid_sub] at b
    exact xl d fs ρ n' σ H' O dd a (E.extB Kb F.box) b
theorem pd_make {CX : CXT} {sd : SpI} {k c : Nat} {f : Addr} {fd : FuncData} {ps : List Str} {x : Str} {p : Pos} {e : Expr} {es : List Expr} {ta : CA} (M : Mk X.K (g.cls c) f) (F : FnOk X.prog X.w X.K X.mg X.base CX k f fd ps (spI g c sd)) (hr : Room (k + 1) X.A) (hg : Gl X x) (hm : X.mg x = some (.ref (g.cls c))) (hb : Binds X.K fd ps [])
    (hx : ∀ σ, PassesAt CX X σ (WE xk σ)) (ha : PDA X g xk (e :: es) ta) (hdb : (x == ("__debug__" : Str)) = false := by decide) (he : starEach (e :: es) X.env = (false, eval e X.env) :: starEach es X.env := by rfl) (hpl : (backTo pos (starEach es X.env)).any (·.1) = false := by rfl) :
    PD X g xk (.Call (.Name x p) (e :: es) [] pos) (cMake c sd ta) := by
  refine ⟨⟨fun pins s σ H Q I h => ?_⟩⟩
  obtain ⟨C, ρ, n, O, k, ke, hK, E, t, xl, q⟩ := h
  refine wpAny_Call_Name_kw (ld_glob I hg hm ?_ hdb)
  refine PySem.W.callWith_K (h₀ := X.base) I.ok.mod.kin M.kp (thn (ha.pa.run pos pins s σ H (fun vs H1 => ∀ x dx, H1 x = none → H1 dx = none → dx ≠ x → spI g c sd (.ref x :: (vs ++ [])) (upd (upd H1 dx (.own x)) x (.ins (g.cls c) dx [])) (fun v H2 => v = .non ∧ Q (.ref x) H2) (WE xk σ)) I ⟨C, ρ, n, O, _, ke, hK, E, t, xl, fun ds ρ1 n1 vs H1 O1 k1 E1 S1 i1 => fun x dx hx hdx ne => ?_⟩) fun us s1 ⟨vs, H1, I1, r, q1⟩ => ⟨I1.kIn, ?_⟩) he hpl
  · rw [List.append_nil]
    exact spI_use hK E1 xl i1 k1 hx hdx ne fun fs n' v H' a b c i => q _ _ _ _ _ _ a b (S1.trans c) i
  · exact run_makeS (ds := []) (dvs := []) (E := WE xk) M F hr hb .nil (hx σ) I1 r q1
end
end RM
namespace L2
open PySem PySem.Spec PyProof.Rows CS
section
variable {X : Cx} {e : Expr} {es : List Expr} {ta : TA} {p pos : Pos}
/-- C(e, ..) for a raise, C an own error class whose __init__ stores fields, over any built-in base -/
theorem pmk_ox {CX : CXT} {x : Str} {C fI : Addr} {k : Nat} {fd : FuncData} {ps : List Str} {sp : Sp} (T : OxC X.K C fI) (exC : PySem.W.subIn X.K (.ref C) (.type "BaseException") = some true) (tyC : PySem.W.typeIn X.K (.ref C) = some (.type "type"))
    (F1 : FnOk X.prog X.w X.K X.mg X.base CX k fI fd ps sp) (hr : Room (k + 1) X.A) (hb : Binds X.K fd ps []) (hx : Passes CX X (fun _ _ _ => False)) (hg : Gl X x) (hm : X.mg x = some (.ref C)) (ha : PA X (e :: es) ta)
    (hdb : (x == ("__debug__" : Str)) = false := by decide) (he : starEach (e :: es) X.env = (false, eval e X.env) :: starEach es X.env := by rfl) (hpl : (backTo pos (starEach es X.env)).any (·.1) = false := by rfl) :
    PMk X (.Call (.Name x p) (e :: es) [] pos) (tMkO C sp [] ta) := by
  intro pins s σ H Q I h
  obtain ⟨B, newId, initId, bm, F, _, _, nm, q, N, bs, sn, sub, ab, col, dd, k0, k1, k2, k3, k5, hC⟩ := T.base
  refine wpAny_Call_Name_kw (ld_glob I hg hm ?_ hdb)
  refine PySem.W.callWith_K (h₀ := X.base) I.ok.mod.kin T.kC (thn (ha.run pos pins s σ H _ I h) fun us s1 ⟨vs, H1, I1, r1, hz, q1⟩ => ⟨I1.kIn, ?_⟩) he hpl
  show wpAny _ _ (call (.ref C) us) _ _ _
  obtain ⟨hp, g, dr, tk, os⟩ := s1
  have hsz : hp.objs.size ≤ hp.objs.size + 1 := Nat.le_succ _
  have hn : H1 (hp.objs.size + 1) = none := I1.hok.fresh hsz
  have hq := q1 (hp.objs.size + 1) hn
  rw [List.append_nil] at hq
  have kk : ∀ b o, hp.get? b = some o → ((hp.push (PySem.W.kdv_tup us)).push (PySem.HandSPX.excO C hp.objs.size)).get? b = some o := fun b o e => Heap.get?_push_of_some _ (Heap.get?_push_of_some _ e)
  have hget : ((hp.push (PySem.W.kdv_tup us)).push (PySem.HandSPX.excO C hp.objs.size)).get? (hp.objs.size + 1) = some (PySem.HandSPX.excO C hp.objs.size) := by heap_get
  have I2 : Inv X pins σ (upd H1 (hp.objs.size + 1) (exo (hp.objs.size + 1) C none)) ⟨(hp.push (PySem.W.kdv_tup us)).push (PySem.HandSPX.excO C hp.objs.size), g, dr, tk, os⟩ :=
    I1.laid (t' := tk) (a := hp.objs.size + 1) (o := exo (hp.objs.size + 1) C none) (h' := (hp.push (PySem.W.kdv_tup us)).push (PySem.HandSPX.excO C hp.objs.size)) kk hsz (exo_ok hget)
  have r2 : Vals (V.ref (hp.objs.size + 1) :: vs) (Value.ref (hp.objs.size + 1) :: us) := .cons rfl r1
  have hus : us.length ≤ sizeLine := by
    rw [← Paired.length r1, sizeLine_eq]
    omega
  refine wpAny_call (PySem.HandSPX.call_own F (fun _ => rfl) (I1.kIn _ _ hC) (PySem.W.looks_findIn I1.kIn T.iC) (fun self => PySem.W.bind_fn I1.kIn self T.tI) hus ?_)
  refine RM.fn_go F1 (hr.make C us []) (I2.env0.make C us []) I2.kIn hb (vs := V.ref (hp.objs.size + 1) :: vs) (by rw [List.append_nil]; exact r2) hq (fun er s' c => hx pins σ _ _ er s' I2 c) fun u s' c => ?_
  obtain ⟨_, H2, os2, bare2, un2, hok2, ru, rfl, d, fs, ea, ed, hd1, q2⟩ := c
  cases s'
  exact ⟨ru, mk_end (raises_own exC tyC) I1 hsz kk un2 hok2 os2 bare2 ea ed hd1 q2⟩
end
end L2
namespace RM
open PySem PySem.Spec PyProof.Rows L2 CS RZ
/-! ### __init__ -/
def startI (N : List Str) (c : Nat) (ds : List D) : En := some (Sl.own (obj c [])) :: (ds.map (fun d => some (Sl.v d)) ++ List.replicate (N.length - (ds.length + 1)) none)
section
variable {P : Program} {w : World} {K : PySem.W.Frag} {mg : Str → Option Value} {base : Heap} {g : Glob}
theorem startI_get {N : List Str} {c : Nat} {ds : List D} {i : Nat} {d : D} (h : (startI N c ds)[i]? = some (some (Sl.v d))) : ∃ j, i = j + 1 ∧ ds[j]? = some d := by
  cases i with
  | zero => cases h
  | succ j =>
    refine ⟨j, rfl, ?_⟩
    replace h : (ds.map (fun d => some (Sl.v d)) ++ List.replicate (N.length - (ds.length + 1)) none)[j]? = some (some (Sl.v d)) := h
    by_cases c : j < ds.length
    · rw [List.getElem?_append_left (by rw [List.length_map]; exact c), List.getElem?_map] at h
      rw [List.getElem?_eq_getElem c] at h ⊢
      cases h
      rfl
    · rw [List.getElem?_append_right (by rw [List.length_map]; omega), List.getElem?_replicate] at h
      split at h <;> cases h
theorem startI_own {N : List Str} {c : Nat} {ds : List D} {i : Nat} {d : D} (h : (startI N c ds)[i]? = some (some (Sl.own d))) : i = 0 ∧ d = obj c [] := by
  cases i with
  | zero =>
    cases h
    exact ⟨rfl, rfl⟩
  | succ j =>
    replace h : (ds.map (fun d => some (Sl.v d)) ++ List.replicate (N.length - (ds.length + 1)) none)[j]? = some (some (Sl.own d)) := h
    by_cases c : j < ds.length
    · rw [List.getElem?_append_left (by rw [List.length_map]; exact c), List.getElem?_map] at h
      rw [List.getElem?_eq_getElem c] at h
      cases h
    · rw [List.getElem?_append_right (by rw [List.length_map]; omega), List.getElem?_replicate] at h
      split at h <;> cases h
def at0 (x : Addr) : Ow := fun i => if i = 0 then some x else none
theorem hid_at0 {C : Ctx} {x : Addr} {H : Hp} : hid C (at0 x) H = hid C now (out H x) := by
  funext a
  unfold hid
  by_cases c : a = x
  · subst c
    rw [if_pos (.inr ⟨0, rfl⟩), out_same]
    split <;> rfl
  · rw [out_ne c]
    by_cases z : C.Z a
    · rw [if_pos (.inl z), if_pos (.inl z)]
    · rw [if_neg, if_neg]
      · rintro (q | ⟨i, q⟩)
        · exact z q
        · cases q
      · rintro (q | ⟨i, q⟩)
        · exact z q
        · unfold at0 at q
          split at q
          · cases q
            exact c rfl
          · cases q
theorem fnIXD {x qual : Str} {st : Stmt} {f : Addr} {fd : FuncData} {N ps : List Str} {k c : Nat} {sd : SpI} {cs : CS} {dvs : List V} {kws : List (Str × V)} (F : FunD K x qual (defArgs st) (defBody st) (defScope st) dvs kws f fd) (S : FnScope N ps (defScope st)) (hl : ∀ ds n k ke, sd ds n k ke → ds.length + 1 = ps.length)
    (hbody : ∀ (cdv : Value) (A : Around) (outer : List Env) (s : Shared) (H : Hp) (E : XK), Room k (A.deeper (envOfC qual (defScope st) s.heap.objs.size f cdv)) → Takes (cxOf (L2.CX P w) P w K mg base N qual (defScope st) f cdv A outer s H E) (fun cls d _ H => E cls d H) →
      PDSs (cxOf (L2.CX P w) P w K mg base N qual (defScope st) f cdv A outer s H E) g (fun cls d _ H => E cls d H) (defBody st) cs)
    (himp : ∀ ds n k ke, sd ds n k ke → cs (startI N c ds) n ⟨fun ρ n' => ∃ fs, ownD ρ 0 (obj c fs) ∧ k fs n', fun _ _ => False, fun _ _ => False, fun _ _ => False, fun x _ n' => ke x n'⟩) : FnOk P w K mg base (L2.CX P w) (k + 1) f fd ps (spI g c sd) := by
  refine F.ok S (fun vs H Q E h => ?_) (fun cdv A outer s H vs Q E hr h => ?_)
  · obtain ⟨C, x, dx, us, ds, n, k, ke, _, rfl, _, _, _, _, _, i, _, sdd, _, _⟩ := h
    rw [List.length_cons, i.length]
    exact hl _ _ _ _ sdd
  · refine ⟨_, (hbody cdv A outer s H E hr (takes_of rfl rfl rfl rfl)).pss, ?_⟩
    obtain ⟨C, x, dx, us, ds, n, k, ke, hK, rfl, hx, hdx, ne, e0, Ev0, i, nz, sdd, q, qe⟩ := h
    have hz : ¬ C.Z x := fun z => by
      obtain ⟨o, ho⟩ := Ev0.zs x z
      rw [e0, out_same] at ho
      cases ho
    let C2 : Ctx := { C with slf := some x }
    have hC2 : ∀ O H, hid C2 O H = hid C O H := fun _ _ => rfl
    have E0 : Ev C2 (startI N c ds) n (L2.start N (.ref x :: us)) H (at0 x) := by
      refine ⟨?_, fun j d h => ?_, fun j d h => ?_, fun j p h => ?_, fun j j' p h h' => ?_, Ev0.zs, Ev0.zt, fun a o h z => ?_, fun b h => ⟨(Ev0.box b h).1, ?_⟩, fun p hp j q d h _ _ => ?_, by rw [hC2, hid_at0]; exact Ev0.vis⟩
      · unfold startI L2.start
        rw [List.length_cons, List.length_append, List.length_append, List.length_map, List.length_map, List.length_replicate, List.length_replicate, List.length_cons, i.length]
        omega
      · obtain ⟨m, rfl, hm⟩ := startI_get h
        obtain ⟨v, h1, h2⟩ := i.get hm
        refine ⟨v, ?_, by rw [hC2, hid_at0]; exact h2⟩
        unfold L2.start
        rw [List.getElem?_append_left (by rw [List.length_map, List.length_cons]; have := lt_of_get h1; omega), List.getElem?_map, List.getElem?_cons_succ, h1]
        rfl
      · obtain ⟨rfl, rfl⟩ := startI_own h
        refine ⟨x, rfl, rfl, ?_⟩
        unfold obj
        refine .obj (dx := dx) (us := []) (by rw [hx]; exact congrArg (fun f => some (HO.ins (f c) dx [])) hK.2.symm) ?_ .nil
        rw [hC2, hid_at0]
        refine hid_of ?_ nz fun j z => nomatch z
        rw [out_ne ne]
        exact hdx
      · unfold at0 at h
        split at h
        · rename_i hj
          cases h
          subst hj
          exact ⟨⟨_, rfl⟩, by show C.H0 x = none; rw [e0, out_same]⟩
        · cases h
      · unfold at0 at h h'
        split at h
        · split at h'
          · rename_i a b
            rw [a, b]
          · cases h'
        · cases h
      · exact out_le _ _ (Ev0.keep a o h z)
      · exact (Ev0.box b h).2.same out_le
      · cases hp
        unfold at0 at h
        split at h
        · cases h
          rfl
        · cases h
    have hbx : C.T.bx ≠ some x := fun z => hz (Ev0.box x z).1
    refine ⟨C2, _, n, at0 x, _, hK, E0, himp _ _ _ _ sdd, ⟨fun ρ n' σ' H' O' a E' S' => ?_, fun _ _ _ _ h => h.elim, fun _ _ _ _ _ h => h.elim, fun _ _ _ _ _ h => h.elim, fun c' fs ρ' n' σ' H' O' dd a E' b => qe c' fs n' dd H' a ⟨E'.keep, E'.fin.box⟩ (b.same hid_now)⟩⟩
    obtain ⟨fs, o1, kk⟩ := a
    obtain ⟨p, g1, g2, g3⟩ := E'.own 0 _ o1
    have ep : p = x := E'.slf x rfl 0 p _ g1 o1 rfl
    subst ep
    obtain ⟨dx', us', h1, h2, r⟩ := ownObj g3
    refine q fs n' dx' us' H' kk ⟨E'.keep, E'.fin.box⟩ (by rw [← hK.2]; exact h1) (hid_le _ _ h2) (hid_some h2).2.1 (r.same fun a o e => ?_)
    obtain ⟨e1, e2, e3⟩ := hid_some e
    refine hid_of ?_ e2 fun j z => nomatch z
    have c : a ≠ p := fun z => e3 0 (z ▸ g1)
    rw [out_ne c]
    exact e1
theorem fnIX {x qual : Str} {st : Stmt} {f : Addr} {fd : FuncData} {N ps : List Str} {k c : Nat} {sd : SpI} {cs : CS} (F : Fun K x qual st f fd) (S : FnScope N ps (defScope st)) (hl : ∀ ds n k ke, sd ds n k ke → ds.length + 1 = ps.length)
    (hbody : ∀ (cdv : Value) (A : Around) (outer : List Env) (s : Shared) (H : Hp) (E : XK), Room k (A.deeper (envOfC qual (defScope st) s.heap.objs.size f cdv)) → Takes (cxOf (L2.CX P w) P w K mg base N qual (defScope st) f cdv A outer s H E) (fun cls d _ H => E cls d H) →
      PDSs (cxOf (L2.CX P w) P w K mg base N qual (defScope st) f cdv A outer s H E) g (fun cls d _ H => E cls d H) (defBody st) cs)
    (himp : ∀ ds n k ke, sd ds n k ke → cs (startI N c ds) n ⟨fun ρ n' => ∃ fs, ownD ρ 0 (obj c fs) ∧ k fs n', fun _ _ => False, fun _ _ => False, fun _ _ => False, fun x _ n' => ke x n'⟩) : FnOk P w K mg base (L2.CX P w) (k + 1) f fd ps (spI g c sd) := by
  obtain ⟨oc, od, kV, doc, pm, an, cdv, ct, osl, e, lk, hcd⟩ := F.ex
  exact fnIXD (dvs := []) (kws := []) ⟨⟨oc, od, .none, kV, doc, pm, an, cdv, ct, osl, e, lk, hcd, .inl ⟨rfl, rfl⟩, .inl rfl⟩, F.kp⟩ S hl hbody himp
end
/-! ### own errors -/
structure ErrC (K : PySem.W.Frag) (C fI : Addr) (fs : List Str) : Prop where
  o : OxC K C fI
  no : ∀ f ∈ fs, PySem.W.findIn K (.ref C) f = some none
  ex : PySem.W.subIn K (.ref C) (.type "BaseException") = some true
  ty : PySem.W.typeIn K (.ref C) = some (.type "type")
def spErr (K : PySem.W.Frag) (C fI : Addr) (fs : List Str) : Sp := fun vs H Q _ => ∃ (a : Addr) (ys : List V), vs = .ref a :: ys ∧ ys.length = fs.length ∧ ErrC K C fI fs ∧ H a = some (exo a C none) ∧
  ∀ (dx : Addr) (H' : Hp), H dx = none → dx ≠ a → H' a = some (exo a C (some dx)) → H' dx = some (exd dx (fs.zip ys).reverse) → (∀ b, b ≠ a → b ≠ dx → H' b = H b) → Q .non H'
section
variable {P : Program} {w : World} {K : PySem.W.Frag} {mg : Str → Option Value} {base : Heap} {g : Glob}
/-- an __init__ of one field -/
theorem err1 {qual : Str} {st : Stmt} {f C fI : Addr} {fd : FuncData} {k : Nat} {f1 : Str} (F : Fun K "__init__" qual st f fd) (S : FnScope ["self", f1] ["self", f1] (defScope st))
    (hb : ∀ (cdv : Value) (A : Around) (outer : List Env) (s : Shared) (H : Hp) (E : XK), PSs (cxOf CX0 P w K mg base ["self", f1] qual (defScope st) f cdv A outer s H E).nox (defBody st) (tOx K f1 (tVar 0) (tVar 1))) :
    FnOk P w K mg base CX0 (k + 1) f fd ["self", f1] (spErr K C fI [f1]) := by
  refine F.ok S (fun vs H Q E h => ?_) (fun cdv A outer s H vs Q E hr h => ?_)
  · obtain ⟨a, ys, rfl, hl, _⟩ := h
    rw [List.length_cons, hl]
    rfl
  · obtain ⟨a, ys, rfl, hl, T, ea, q⟩ := h
    obtain ⟨x0, rfl⟩ : ∃ x0, ys = [x0] := by
      match ys, hl with
      | [x0], _ => exact ⟨x0, rfl⟩
    refine ⟨_, hb cdv A outer s H E, ?_⟩
    refine ⟨x0, rfl, .ref a, rfl, a, C, fI, rfl, T.o, T.no f1 (by simp), .inl ⟨ea, fun dx nd ne => ?_⟩⟩
    refine q dx _ nd ne upd_same ?_ fun b h1 h2 => ?_
    · rw [upd_ne ne, upd_same]
      rfl
    · rw [upd_ne h1, upd_ne h2]
theorem err2 {qual : Str} {st : Stmt} {f C fI : Addr} {fd : FuncData} {k : Nat} {f1 f2 : Str} (F : Fun K "__init__" qual st f fd) (S : FnScope ["self", f1, f2] ["self", f1, f2] (defScope st))
    (hb : ∀ (cdv : Value) (A : Around) (outer : List Env) (s : Shared) (H : Hp) (E : XK), PSs (cxOf CX0 P w K mg base ["self", f1, f2] qual (defScope st) f cdv A outer s H E).nox (defBody st) (tSeq (tOx K f1 (tVar 0) (tVar 1)) (tOx K f2 (tVar 0) (tVar 2)))) :
    FnOk P w K mg base CX0 (k + 1) f fd ["self", f1, f2] (spErr K C fI [f1, f2]) := by
  refine F.ok S (fun vs H Q E h => ?_) (fun cdv A outer s H vs Q E hr h => ?_)
  · obtain ⟨a, ys, rfl, hl, _⟩ := h
    rw [List.length_cons, hl]
    rfl
  · obtain ⟨a, ys, rfl, hl, T, ea, q⟩ := h
    obtain ⟨x0, x1, rfl⟩ : ∃ x0 x1, ys = [x0, x1] := by
      match ys, hl with
      | [x0, x1], _ => exact ⟨x0, x1, rfl⟩
    refine ⟨_, hb cdv A outer s H E, ?_⟩
    refine ⟨x0, rfl, .ref a, rfl, a, C, fI, rfl, T.o, T.no f1 (by simp), .inl ⟨ea, fun dx nd ne => ?_⟩⟩
    have p0 : (upd (upd H dx (exd dx [(f1, x0)])) a (exo a C (some dx))) a = some (exo a C (some dx)) := upd_same
    have q0 : (upd (upd H dx (exd dx [(f1, x0)])) a (exo a C (some dx))) dx = some (exd dx [(f1, x0)]) := by
      rw [upd_ne ne, upd_same]
    refine ⟨x1, rfl, .ref a, rfl, a, C, fI, rfl, T.o, T.no f2 (by simp), .inr ⟨dx, _, p0, q0, (by show 1 ≤ 900; decide), ?_⟩⟩
    refine q dx _ nd ne ?_ upd_same fun b h1 h2 => ?_
    · rw [upd_ne (Ne.symm ne), upd_same]
    · rw [upd_ne h2, upd_ne h1, upd_ne h2]
theorem err3 {qual : Str} {st : Stmt} {f C fI : Addr} {fd : FuncData} {k : Nat} {f1 f2 f3 : Str} (F : Fun K "__init__" qual st f fd) (S : FnScope ["self", f1, f2, f3] ["self", f1, f2, f3] (defScope st))
    (hb : ∀ (cdv : Value) (A : Around) (outer : List Env) (s : Shared) (H : Hp) (E : XK), PSs (cxOf CX0 P w K mg base ["self", f1, f2, f3] qual (defScope st) f cdv A outer s H E).nox (defBody st) (tSeq (tOx K f1 (tVar 0) (tVar 1)) (tSeq (tOx K f2 (tVar 0) (tVar 2)) (tOx K f3 (tVar 0) (tVar 3))))) :
    FnOk P w K mg base CX0 (k + 1) f fd ["self", f1, f2, f3] (spErr K C fI [f1, f2, f3]) := by
  refine F.ok S (fun vs H Q E h => ?_) (fun cdv A outer s H vs Q E hr h => ?_)
  · obtain ⟨a, ys, rfl, hl, _⟩ := h
    rw [List.length_cons, hl]
    rfl
  · obtain ⟨a, ys, rfl, hl, T, ea, q⟩ := h
    obtain ⟨x0, x1, x2, rfl⟩ : ∃ x0 x1 x2, ys = [x0, x1, x2] := by
      match ys, hl with
      | [x0, x1, x2], _ => exact ⟨x0, x1, x2, rfl⟩
    refine ⟨_, hb cdv A outer s H E, ?_⟩
    refine ⟨x0, rfl, .ref a, rfl, a, C, fI, rfl, T.o, T.no f1 (by simp), .inl ⟨ea, fun dx nd ne => ?_⟩⟩
    have p0 : (upd (upd H dx (exd dx [(f1, x0)])) a (exo a C (some dx))) a = some (exo a C (some dx)) := upd_same
    have q0 : (upd (upd H dx (exd dx [(f1, x0)])) a (exo a C (some dx))) dx = some (exd dx [(f1, x0)]) := by
      rw [upd_ne ne, upd_same]
    have r0 : ∀ b, b ≠ a → b ≠ dx → (upd (upd H dx (exd dx [(f1, x0)])) a (exo a C (some dx))) b = H b := fun b h1 h2 => by
      rw [upd_ne h1, upd_ne h2]
    generalize (upd (upd H dx (exd dx [(f1, x0)])) a (exo a C (some dx))) = G0 at p0 q0 r0 ⊢
    refine ⟨x1, rfl, .ref a, rfl, a, C, fI, rfl, T.o, T.no f2 (by simp), .inr ⟨dx, _, p0, q0, (by show 1 ≤ 900; decide), ?_⟩⟩
    have p1 : (upd G0 dx (exd dx [(f2, x1), (f1, x0)])) a = some (exo a C (some dx)) := by
      rw [upd_ne (Ne.symm ne)]
      exact p0
    refine ⟨x2, rfl, .ref a, rfl, a, C, fI, rfl, T.o, T.no f3 (by simp), .inr ⟨dx, _, p1, upd_same, (by show 2 ≤ 900; decide), ?_⟩⟩
    refine q dx _ nd ne ?_ upd_same fun b h1 h2 => ?_
    · rw [upd_ne (Ne.symm ne), upd_ne (Ne.symm ne)]
      exact p0
    · rw [upd_ne h2, upd_ne h2, r0 b h1 h2]
end
def errF (fs : List Str) (ds : List D) : List (D × D) := ((fs.zip ds).map fun p => (.str p.1, p.2)).reverse
def cRaise (c : Nat) (fs : List Str) (ta : CA) : CS := fun ρ n e => ta ρ n (fun ds ρ' n' => ds.length = fs.length ∧ e.xc (c, errF fs ds) ρ' n') e.xc
theorem isF_snoc {T : Tab} {H : Hp} {f : Str} {v : V} {d : D} (iv : Is T H v d) : ∀ {us : List (Str × V)} {fs : List (D × D)}, IsF T H us fs → IsF T H (us ++ [(f, v)]) (fs ++ [(.str f, d)])
  | _, _, .nil => .cons iv .nil
  | _, _, .cons h r => .cons h (isF_snoc iv r)
theorem isF_zip {T : Tab} {H : Hp} : ∀ (fs : List Str) {vs : List V} {ds : List D}, IsL T H vs ds → IsF T H (fs.zip vs).reverse (errF fs ds)
  | [], _, _, _ => .nil
  | _ :: _, _, _, .nil => .nil
  | f :: fs, _, _, .cons h r => by
    unfold errF
    rw [List.zip_cons_cons, List.zip_cons_cons, List.map_cons, List.reverse_cons, List.reverse_cons]
    exact isF_snoc h (isF_zip fs r)
section
variable {X : Cx} {g : Glob} {xk : WX} {pos : Pos}
theorem pds_raise {x : Str} {c : Nat} {fI : Addr} {k : Nat} {fd : FuncData} {ps fs : List Str} {p pos2 : Pos} {e : Expr} {es : List Expr} {ta : CA} (hc : X.calm = true) (tk : Takes X xk) (T : ErrC X.K (g.cls c) fI fs) (F1 : FnOk X.prog X.w X.K X.mg X.base CX0 k fI fd ps (spErr X.K (g.cls c) fI fs)) (hr : Room (k + 1) X.A) (hb : Binds X.K fd ps [])
    (hg : Gl X x) (hm : X.mg x = some (.ref (g.cls c))) (ha : PDA X g xk (e :: es) ta) (hn : fs.length ≤ 1000 := by decide) (hdb : (x == ("__debug__" : Str)) = false := by decide) (he : starEach (e :: es) X.env = (false, eval e X.env) :: starEach es X.env := by rfl) (hpl : (backTo pos2 (starEach es X.env)).any (·.1) = false := by rfl) :
    PDS X g xk (.Raise (some (.Call (.Name x p) (e :: es) [] pos2)) none pos) (cRaise c fs ta) := by
  refine ⟨ps_imp (ps_raise hc tk (pmk_ox T.o T.ex T.ty F1 hr hb L2.pass0 hg hm ha.pa hdb he hpl)) fun F σ H h => ?_⟩
  obtain ⟨C, ρ, n, O, e, hK, E, t, l⟩ := h
  refine ⟨C, ρ, n, O, _, _, hK, E, t, l.xc, fun ds ρ1 n1 vs H1 O1 k1 E1 S1 i1 => ?_⟩
  have hlen : vs.length = fs.length := by rw [i1.length]; exact k1.1
  refine ⟨by omega, fun a na => ⟨a, vs, by rw [List.append_nil], hlen, T, upd_same, fun dx H' nd ne e1 e2 rest => ⟨rfl, dx, _, e1, e2, ?_, ?_⟩⟩⟩
  · rw [upd_ne ne] at nd
    exact nd
  · rw [upd_ne ne] at nd
    have S2 : Same H1 (upd (del H' a) dx (.xd (fs.zip vs).reverse)) := fun b o hb => by
      have h1 : b ≠ a := ne_of_none hb na
      have h2 : b ≠ dx := ne_of_none hb nd
      rw [upd_ne h2, del_ne h1, rest b h1 h2, upd_ne h1]
      exact hb
    have E2 := E1.ext S2
    obtain ⟨f1, f2, _, _⟩ := E1.fresh nd
    have h2 := l.xc c (errF fs ds) ρ1 n1 σ _ O1 (some dx) k1.2 E2 (.inr ⟨dx, _, rfl, hid_of upd_same f1 f2, (isF_zip fs i1).same (hid_same S2)⟩)
    rw [hK.2] at h2
    exact h2
end
end RM
namespace RM
open PySem PySem.Spec PyProof.Rows L2 CS RZ
/-! ### try: .. except C as n: .. -/
/-- what is seen now stays in sight -/
def Ctx.see (C : Ctx) (B : Hp) : Ctx := { C with B := B }
section
variable {C : Ctx} {ρ : En} {n : Nat} {σ : L2.St} {H H' B : Hp} {O : Ow}
theorem hid_see : hid (C.see B) O H = hid C O H := rfl
theorem Ev.see (E : Ev C ρ n σ H O) : Ev (C.see (hid C O H)) ρ n σ H O := ⟨E.len, E.val, E.own, E.only, E.inj, E.zs, E.zt, E.keep, E.box, E.slf, Same.refl _⟩
theorem Ev.unsee (E : Ev (C.see B) ρ n σ H O) (s : Same C.B B) : Ev C ρ n σ H O ∧ Same B (hid C O H) := ⟨⟨E.len, E.val, E.own, E.only, E.inj, E.zs, E.zt, E.keep, E.box, E.slf, s.trans E.vis⟩, E.vis⟩
end
def cTry (cn : Nat) (ms : List Nat) (i : Nat) (body suite : CS) : CS := fun ρ n e => body ρ n { e with xc := fun x ρ' n' => x.1 ∈ ms ∧ if x.1 = cn then suite (ρ'.set i (some (Sl.v (exc x.1 x.2)))) n' { nx := fun ρ2 n2 => e.nx (ρ2.set i none) n2, rt := e.rt, bk := fun ρ2 n2 => e.bk (ρ2.set i none) n2, ct := fun ρ2 n2 => e.ct (ρ2.set i none) n2, xc := kF } else e.xc x ρ' n' }
theorem exc_is {T : Tab} {H : Hp} {a : Addr} {c : Nat} {dd : Option Addr} {fs : List (D × D)} (h : H a = some (XO (.ref (T.cls c)) dd a)) (x : XIs T H dd fs) : Is T H (.ref a) (exc c fs) := by
  rcases x with ⟨rfl, rfl⟩ | ⟨d, us, rfl, h1, h2⟩
  · exact .exn h
  · exact .exc h h1 h2
section
variable {X : Cx} {g : Glob} {xk : WX} {pos : Pos}
theorem pds_try {x n : Str} {cn i : Nat} {ms : List Nat} {body suite : List Stmt} {b1 : Stmt} {np pos' : Pos} {cb cs : CS} (hs : X.stack = X.env :: X.outer) (hf : X.env.frame = some X.env.locals) (hex : X.ex = []) (hN : X.N.Nodup) (hi : X.N[i]? = some n)
    (hln : X.env.kindOf n = some .local) (hc : Names X x (.ref (g.cls cn))) (tk : Takes X xk) (hm : ∀ c ∈ ms, PySem.W.exmOne X.K (.ref (g.cls c)) (.ref (g.cls cn)) = some (decide (c = cn)))
    (hb : ∀ (W : WX) (pn : List (Addr × Obj)) (xe : Value → Shared → Prop), Takes (X.tr pn xe) W → PassesOwn (model X.prog X.w) X.A X.env xe → PDSs (X.tr pn xe) g W body cb)
    (hsu : ∀ (a : Addr) (pn : List (Addr × Obj)), PDSs (X.suite a pn) g xF (b1 :: suite) cs) :
    PDS X g xk (.Try body [.ExceptHandler (some (.Name x np)) (some n) (b1 :: suite) pos'] [] [] pos) (cTry cn ms i cb cs) := by
  refine ⟨ps_imp (ps_try_hold (tb := fun W => liftS g W cb) (ts := liftS g xF cs) hs hf hex hN hi hln hc tk (fun W pn xe tw pw => (hb W pn xe tw pw).pss) (fun a pn => (hsu a pn).pss)) fun F σ H h => ?_⟩
  obtain ⟨C, ρ, n0, O, e, hK, E, t, l⟩ := h
  refine ⟨C.see (hid C O H), ρ, n0, O, _, hK, E.see, t, ⟨fun ρ1 n1 σ1 H1 O1 a E1 S1 => l.nx _ _ _ _ _ a (E1.unsee E.vis).1 S1, fun d n1 v H1 a Fn iv => l.rt _ _ _ _ a ⟨Fn.keep, Fn.box⟩ iv, fun ρ1 n1 σ1 H1 O1 a E1 S1 => l.bk _ _ _ _ _ a (E1.unsee E.vis).1 S1, fun ρ1 n1 σ1 H1 O1 a E1 S1 => l.ct _ _ _ _ _ a (E1.unsee E.vis).1 S1, fun c fs ρ1 n1 σ1 H1 O1 dd a E1 xi => ?_⟩⟩
  obtain ⟨E2, S2⟩ := E1.unsee E.vis
  obtain ⟨hlt, a⟩ := a
  have hK2 : C.T.cls c = g.cls c := by rw [hK.2]
  refine ⟨decide (c = cn), by show PySem.W.exmOne X.K (.ref (C.T.cls c)) _ = _; rw [hK2]; exact hm c hlt, fun hy ad na => ?_, fun hn => ?_⟩
  · have hcn : c = cn := of_decide_eq_true hy
    rw [if_pos hcn] at a
    obtain ⟨E3, S3, h3⟩ := E2.new (o := XO (.ref (C.T.cls c)) dd ad) na
    obtain ⟨E4, S4⟩ := E3.set (i := i) (v := .ref ad) (d := exc c fs) (exc_is h3 (xi.same S3))
    refine ⟨C, _, n1, _, _, hK, E4, a, ?_⟩
    have Sb := (S2.trans S3).trans S4
    refine ⟨fun ρ5 n5 σ5 H5 O5 x5 E5 S5 => ?_, fun d n5 v5 H5 x5 Fn iv => l.rt _ _ _ _ x5 Fn iv, fun ρ5 n5 σ5 H5 O5 x5 E5 S5 => ?_, fun ρ5 n5 σ5 H5 O5 x5 E5 S5 => ?_, xl_F⟩
    · exact l.nx _ _ _ _ _ x5 (E5.wipe1 i) ((Sb.trans S5).trans hid_cut)
    · exact l.bk _ _ _ _ _ x5 (E5.wipe1 i) ((Sb.trans S5).trans hid_cut)
    · exact l.ct _ _ _ _ _ x5 (E5.wipe1 i) ((Sb.trans S5).trans hid_cut)
  · have hcn : ¬ c = cn := of_decide_eq_false hn
    rw [if_neg hcn] at a
    exact l.xc c fs ρ1 n1 σ1 H1 O1 dd a E2 xi
/-! ### errors looked at -/
theorem isExc {T : Tab} {H : Hp} {v : V} {c : Nat} {fs : List (D × D)} (h : Is T H v (exc c fs)) : ∃ a dd, v = .ref a ∧ H a = some (XO (.ref (T.cls c)) dd a) ∧ XIs T H dd fs := by
  unfold exc at h
  generalize hd : (PyData.dict ((.none, .list [.int (c : Nat)]) :: fs)) = d at h
  cases h with
  | exc h1 h2 r =>
    injection hd with hd
    injection hd with hd hf
    injection hd with _ hd
    injection hd with hd
    injection hd with hd _
    injection hd with hd
    rw [← Int.ofNat.inj hd] at h1
    subst hf
    exact ⟨_, _, rfl, h1, .inr ⟨_, _, rfl, h2, r⟩⟩
  | exn h1 =>
    injection hd with hd
    injection hd with hd hf
    injection hd with _ hd
    injection hd with hd
    injection hd with hd _
    injection hd with hd
    rw [← Int.ofNat.inj hd] at h1
    subst hf
    exact ⟨_, _, rfl, h1, .inl ⟨rfl, rfl⟩⟩
  | _ => cases hd
theorem pkExc {T : Tab} {Hh H : Hp} {v : V} {c : Nat} {fs : List (D × D)} (h : Pk T Hh H v (exc c fs)) : Is T Hh v (exc c fs) := by
  generalize hd : exc c fs = d at h ⊢
  cases h with
  | val h => exact h
  | own h =>
    unfold exc at hd
    cases h <;> cases hd
def cXFld (o : Opd) (ms : List Nat) (f : Str) : CE := fun ρ n k ke => cOpd o ρ n (fun get ρ1 n1 => ∃ c fs d, get ρ1 = some (exc c fs) ∧ c ∈ ms ∧ fieldD fs f = some d ∧ k d ρ1 n1) ke
/-- e.f of an own error -/
theorem pd_xfld {e : Expr} {o : Opd} {ms : List Nat} {f : Str} (G : Good X g) (h : PDQ X g xk e o) (hf : ∀ c ∈ ms, XfC X.K (g.cls c)) (hn : ∀ c ∈ ms, PySem.W.findIn X.K (.ref (g.cls c)) f = some none) (hb : attributeBase e f X.env (eval e X.env) = eval e X.env := by rfl) : PD X g xk (.Attribute e f pos) (cXFld o ms f) := by
  refine ⟨PE.imp (pe_xof h.pe hb) fun σ H Q r => ?_⟩
  obtain ⟨C, ρ, n, O, k, ke, hK, E, t, x, q⟩ := r
  refine ⟨C, ρ, n, O, _, ke, hK, E, t, x, fun get ρ1 n1 v H1 O1 k1 E1 S1 p1 => ?_⟩
  obtain ⟨c, fs, d, h1, hc, h2, k1⟩ := k1
  obtain ⟨a, dd, rfl, g1, xi⟩ := isExc (pkExc (p1 _ _ _ _ _ E1 (Same.refl _) h1))
  rw [hK.2] at g1
  rcases xi with ⟨_, rfl⟩ | ⟨ad, us, rfl, g2, r⟩
  · cases h2
  · have := isF_look f r
    rw [h2] at this
    obtain ⟨w, l, iw⟩ := this
    exact ⟨a, _, ad, us, w, rfl, hid_le _ _ g1, hid_le _ _ g2, hf c hc, hn c hc, l, q _ _ _ _ _ _ k1 E1 S1 iw⟩
def cIsX (o : Opd) (ms : List Nat) (kb : Nat → Bool) : CE := fun ρ n k ke => cOpd o ρ n (fun get ρ1 n1 => ∃ c fs, get ρ1 = some (exc c fs) ∧ c ∈ ms ∧ k (.bool (kb c)) ρ1 n1) ke
/-- isinstance(e, C) of an own error -/
theorem pd_isX {x : Str} {p : Pos} {e ce : Expr} {o : Opd} {ms : List Nat} {kb : Nat → Bool} {cv : V} {u : Value} (h : PDQ X g xk e o) (hce : PE X ce (tC cv)) (hr : ∀ w, RelV cv w → w = u) (hc : ∀ c ∈ ms, PySem.W.CsxC X.K (g.cls c)) (hk : ∀ c ∈ ms, PySem.W.kitOne X.K (.ref (g.cls c)) u = some (kb c))
    (hg : Gl X x) (hm : X.mg x = none) (hv : bootBuiltins x = some (.builtin "isinstance")) (hn : x ≠ "__name__" := by decide) (hdb : (x == ("__debug__" : Str)) = false := by decide) (hs : starEach [e, ce] X.env = (false, eval e X.env) :: starEach [ce] X.env := by rfl) (hs2 : starEach [ce] X.env = (false, eval ce X.env) :: starEach [] X.env := by rfl)
    (hpl : (backTo pos (starEach [ce] X.env)).any (·.1) = false := by rfl) : PD X g xk (.Call (.Name x p) [e, ce] [] pos) (cIsX o ms kb) := by
  refine ⟨PE.imp (pe_callB call_isX hg hm hv (pa_cons h.pe (pa_cons hce pa_nil hs2) hs) hn hdb hs hpl) fun σ H Q r => ?_⟩
  obtain ⟨C, ρ, n, O, k, ke, hK, E, t, x, q⟩ := r
  refine ⟨C, ρ, n, O, _, ke, hK, E, t, x, fun get ρ1 n1 v H1 O1 k1 E1 S1 p1 => ?_⟩
  obtain ⟨c, fs, h1, hc', k1⟩ := k1
  obtain ⟨a, dd, rfl, g1, xi⟩ := isExc (pkExc (p1 _ _ _ _ _ E1 (Same.refl _) h1))
  rw [hK.2] at g1
  refine ⟨a, _, dd, cv, u, kb c, rfl, hid_le _ _ g1, ?_, hc c hc', hr, hk c hc', q _ _ _ _ _ _ k1 E1 S1 (.bl _)⟩
  rcases xi with ⟨rfl, _⟩ | ⟨ad, us, rfl, g2, _⟩
  · exact .inl rfl
  · exact .inr ⟨ad, us, rfl, hid_le _ _ g2⟩
end
end RM
namespace RM
open PySem PySem.Spec PyProof.Rows L2 CS RZ
/-! ### operators of own classes -/
section
variable {X : Cx} {g : Glob} {xk : WX} {pos : Pos}
theorem inst_of {pins : List (Addr × Obj)} {σ : L2.St} {H : Hp} {s : Shared} {a A dx : Addr} {us : List (Str × V)} (I : Inv X pins σ H s) (e : H a = some (.ins A dx us)) : ∃ ox od, PySem.W.InstAt s.heap a ox A od := by
  obtain ⟨mA, O, _, _, _, _⟩ := ins_get I.hok e
  obtain ⟨od, J, _⟩ := O.look
  exact ⟨_, _, J⟩
theorem cmpBack_of {Q : Value → Shared → Prop} {v : V} {u : Value} {s : Shared} (r : RelV v u) (h : Q u s) : PySem.W.CmpBack Q u s := by
  cases v <;> first | (obtain ⟨_, rfl⟩ := r; exact h) | (cases r; exact h) | (obtain rfl := (show u = _ from r); exact h)
def cBinO (sd : SpD) (ta tb : CE) (c : Nat) : CE := fun ρ n k ke => ta ρ n (fun x ρ1 n1 => tb ρ1 n1 (fun y ρ2 n2 => (∃ fs, x = obj c fs) ∧ (∃ fs, y = obj c fs) ∧ sd [x, y] n2 (fun z n3 => k z ρ2 n3) (fun w n3 => ke w ρ2 n3)) ke) ke
theorem pd_binO {CX : CXT} {sd : SpD} {k : Nat} {f : Addr} {fd : FuncData} {ps : List Str} {op : Operator} {a b : Expr} {ta tb : CE} {c : Nat} (F : FnOk X.prog X.w X.K X.mg X.base CX k f fd ps (spD g sd)) (hr : Room k X.A) (hb : Binds X.K fd ps []) (hx : ∀ σ, PassesAt CX X σ (WE xk σ))
    (hc : PySem.W.selfFirst X.K (g.cls c) = true) (hs : PySem.W.findIn X.K (.ref (g.cls c)) (PySem.dunder op.info.2) = some (some (.ref f))) (hf : PySem.W.isFn X.K (.ref f) = true) (h1 : PD X g xk a ta) (h2 : PD X g xk b tb) : PD X g xk (.BinOp a op b pos) (cBinO sd ta tb c) := by
  refine ⟨⟨fun pins s σ H Q I h => ?_⟩⟩
  obtain ⟨C, ρ, n, O, kk, ke, hK, E, t, x, q⟩ := h
  refine wpAny_BinOp (binT (R := fun v w H2 => ∃ (d1 d2 : D) (ρ2 : En) (n2 : Nat) (O2 : Ow), ((∃ fs, d1 = obj c fs) ∧ (∃ fs, d2 = obj c fs) ∧ sd [d1, d2] n2 (fun z n3 => kk z ρ2 n3) (fun w n3 => ke w ρ2 n3)) ∧ Ev C ρ2 n2 σ H2 O2 ∧ Same (hid C O H) (hid C O2 H2) ∧ Is C.T (hid C O2 H2) v d1 ∧ Is C.T (hid C O2 H2) w d2) h1.pe h2.pe I
    ⟨C, ρ, n, O, _, ke, hK, E, t, x, fun d1 ρ1 n1 v H1 O1 k1 E1 S1 i1 => ⟨C, ρ1, n1, O1, _, ke, hK, E1, k1, x, fun d2 ρ2 n2 w H2 O2 k2 E2 S2 i2 => ⟨d1, d2, ρ2, n2, O2, k2, E2, S1.trans S2, i1.same S2, i2⟩⟩⟩ ?_)
  rintro v u s2 x1 y1 H2 I2 rx ry ⟨d1, d2, ρ2, n2, O2, ⟨⟨fs1, e1⟩, ⟨fs2, e2⟩, sdd⟩, E2, S2, i1, i2⟩
  subst e1
  subst e2
  obtain ⟨p1, dx1, us1, ex1, g1, _, _⟩ := isObj i1
  obtain ⟨p2, dx2, us2, ey1, g2, _, _⟩ := isObj i2
  subst ex1
  subst ey1
  obtain rfl : v = Value.ref p1 := rx
  obtain rfl : u = Value.ref p2 := ry
  rw [hK.2] at g1 g2
  obtain ⟨ox, od, J1⟩ := inst_of I2 (hid_le _ _ g1)
  obtain ⟨ox2, od2, J2⟩ := inst_of I2 (hid_le _ _ g2)
  obtain ⟨m, hfr⟩ := I2.fr
  refine PySem.W.binop_K hfr I2.ok.mod.kin J1 (J2.type) hc hs hf ?_
  refine thn (run_fnSD (us := [.ref p1, .ref p2]) (ds := []) (dvs := []) (vs := [.ref p1, .ref p2]) (Q := Q) (E := WE xk) F hr hb .nil (hx σ) I2 (.cons rfl (.cons rfl .nil)) (spD_use hK E2 x (.cons i1 (.cons i2 .nil)) sdd fun d n' v H' a b c i => q _ _ _ _ _ _ a b (S2.trans c) i)) fun r s' hr' => ?_
  obtain ⟨v3, H3, I3, rv3, q3⟩ := hr'
  exact cmpBack_of rv3 ⟨v3, H3, I3, rv3, q3⟩
/-! o[e] -/
theorem run_in1 {CX : CXT} {k : Nat} {f : Addr} {fd : FuncData} {ps : List Str} {sp : Sp} {E : L2.St → XK} {pins : List (Addr × Obj)} {σ : L2.St} {H : Hp} {s : Shared} {Q : VK} {us : List Value} {vs : List V} (F : FnOk X.prog X.w X.K X.mg X.base CX k f fd ps sp) (hr : Room (k + 1) X.A) (hb : Binds X.K fd ps []) (hx : PassesAt CX X σ (E σ))
    (I : Inv X pins σ H s) (r : Vals vs us) (h : sp vs H Q (E σ)) : wpAny (model X.prog X.w) X.A.in1 (call (.ref f) us) (EP X pins σ Q) X.xe s := by
  exact wpAny_call (fn_go F hr.in1 I.env0.in1 I.kIn hb (by rw [List.append_nil]; exact r) h (fun e s' c => hx pins H s e s' I c) fun _ _ c => I.after c)
def cSubO (sd : SpD) (ta tb : CE) (c : Nat) : CE := fun ρ n k ke => ta ρ n (fun x ρ1 n1 => tb ρ1 n1 (fun y ρ2 n2 => (∃ fs, x = obj c fs) ∧ sd [x, y] n2 (fun z n3 => k z ρ2 n3) (fun w n3 => ke w ρ2 n3)) ke) ke
theorem pd_subO {CX : CXT} {sd : SpD} {k : Nat} {f : Addr} {fd : FuncData} {ps : List Str} {a b : Expr} {ta tb : CE} {c : Nat} (F : FnOk X.prog X.w X.K X.mg X.base CX k f fd ps (spD g sd)) (hr : Room (k + 1) X.A) (hb : Binds X.K fd ps []) (hx : ∀ σ, PassesAt CX X σ (WE xk σ))
    (hs : PySem.W.findIn X.K (.ref (g.cls c)) "__getitem__" = some (some (.ref f))) (hfn : PySem.W.fnIn X.K f = true) (hf : PySem.W.isFn X.K (.ref f) = true) (h1 : PD X g xk a ta) (h2 : PD X g xk b tb)
    (hsl : ∀ x i, subscripted b true (.ref x) i = runValue (.builtin "lifetime.subscript" ⟨[.ref x, i], []⟩) := by intros; with_unfolding_all rfl) : PD X g xk (.Subscript a b pos) (cSubO sd ta tb c) := by
  refine ⟨⟨fun pins s σ H Q I h => ?_⟩⟩
  obtain ⟨C, ρ, n, O, kk, ke, hK, E, t, x, q⟩ := h
  refine Subscript_ (binT (f := fun v u => subscriptTail a b v u) (R := fun v w H2 => ∃ (d1 d2 : D) (ρ2 : En) (n2 : Nat) (O2 : Ow), ((∃ fs, d1 = obj c fs) ∧ sd [d1, d2] n2 (fun z n3 => kk z ρ2 n3) (fun w n3 => ke w ρ2 n3)) ∧ Ev C ρ2 n2 σ H2 O2 ∧ Same (hid C O H) (hid C O2 H2) ∧ Is C.T (hid C O2 H2) v d1 ∧ Is C.T (hid C O2 H2) w d2) h1.pe h2.pe I
    ⟨C, ρ, n, O, _, ke, hK, E, t, x, fun d1 ρ1 n1 v H1 O1 k1 E1 S1 i1 => ⟨C, ρ1, n1, O1, _, ke, hK, E1, k1, x, fun d2 ρ2 n2 w H2 O2 k2 E2 S2 i2 => ⟨d1, d2, ρ2, n2, O2, k2, E2, S1.trans S2, i1.same S2, i2⟩⟩⟩ ?_)
  rintro v u s2 x1 y1 H2 I2 rx ry ⟨d1, d2, ρ2, n2, O2, ⟨⟨fs1, e1⟩, sdd⟩, E2, S2, i1, i2⟩
  subst e1
  obtain ⟨p1, dx1, us1, ex1, g1, _, _⟩ := isObj i1
  subst ex1
  obtain rfl : v = Value.ref p1 := rx
  rw [hK.2] at g1
  obtain ⟨ox, od, J1⟩ := inst_of I2 (hid_le _ _ g1)
  obtain ⟨m, hfr⟩ := I2.fr
  refine PySem.W.sub_K hfr I2.ok.mod.kin J1 hs hfn hf ?_ (hsl p1 u)
  exact run_in1 (us := [.ref p1, u]) (vs := [.ref p1, y1]) (E := WE xk) F hr hb (hx σ) I2 (.cons rfl (.cons ry .nil)) (spD_use hK E2 x (.cons i1 (.cons i2 .nil)) sdd fun d n' v H' a b c i => q _ _ _ _ _ _ a b (S2.trans c) i)
/-! e in o, e not in o -/
def cInO (neg : Bool) (sd : SpD) (ta tb : CE) (c : Nat) : CE := fun ρ n k ke => ta ρ n (fun x ρ1 n1 => tb ρ1 n1 (fun y ρ2 n2 => (∃ fs, y = obj c fs) ∧ sd [y, x] n2 (fun z n3 => ∃ b, z = .bool b ∧ k (.bool (b != neg)) ρ2 n3) (fun w n3 => ke w ρ2 n3)) ke) ke
theorem inO_run {CX : CXT} {sd : SpD} {k : Nat} {f : Addr} {fd : FuncData} {ps : List Str} {a b : Expr} {ta tb : CE} {c : Nat} {op : CmpOp} {neg : Bool} (hop : (op = .In ∧ neg = false) ∨ (op = .NotIn ∧ neg = true)) (F : FnOk X.prog X.w X.K X.mg X.base CX k f fd ps (spD g sd)) (hr : Room k X.A) (hb : Binds X.K fd ps []) (hx : ∀ σ, PassesAt CX X σ (WE xk σ))
    (hs : PySem.W.findIn X.K (.ref (g.cls c)) "__contains__" = some (some (.ref f))) (hf : PySem.W.isFn X.K (.ref f) = true) (h1 : PD X g xk a ta) (h2 : PD X g xk b tb) (hm : behindInMarks op b = false) : PD X g xk (.Compare a [op] [b] pos) (cInO neg sd ta tb c) := by
  refine ⟨⟨fun pins s σ H Q I h => ?_⟩⟩
  obtain ⟨C, ρ, n, O, kk, ke, hK, E, t, x, q⟩ := h
  refine wpAny_Compare1 (binT (R := fun v w H2 => ∃ (d1 d2 : D) (ρ2 : En) (n2 : Nat) (O2 : Ow), ((∃ fs, d2 = obj c fs) ∧ sd [d2, d1] n2 (fun z n3 => ∃ b, z = .bool b ∧ kk (.bool (b != neg)) ρ2 n3) (fun w n3 => ke w ρ2 n3)) ∧ Ev C ρ2 n2 σ H2 O2 ∧ Same (hid C O H) (hid C O2 H2) ∧ Is C.T (hid C O2 H2) v d1 ∧ Is C.T (hid C O2 H2) w d2) h1.pe h2.pe I
    ⟨C, ρ, n, O, _, ke, hK, E, t, x, fun d1 ρ1 n1 v H1 O1 k1 E1 S1 i1 => ⟨C, ρ1, n1, O1, _, ke, hK, E1, k1, x, fun d2 ρ2 n2 w H2 O2 k2 E2 S2 i2 => ⟨d1, d2, ρ2, n2, O2, k2, E2, S1.trans S2, i1.same S2, i2⟩⟩⟩ ?_) hm
  rintro v u s2 x1 y1 H2 I2 rx ry ⟨d1, d2, ρ2, n2, O2, ⟨⟨fs1, e1⟩, sdd⟩, E2, S2, i1, i2⟩
  subst e1
  obtain ⟨p1, dx1, us1, ex1, g1, _, _⟩ := isObj i2
  subst ex1
  obtain rfl : u = Value.ref p1 := ry
  rw [hK.2] at g1
  obtain ⟨ox, od, J1⟩ := inst_of I2 (hid_le _ _ g1)
  obtain ⟨m, hfr⟩ := I2.fr
  have body : ∀ (f2 : Bool → Value), (∀ b : Bool, f2 b = .bool (b != neg)) → wpAny (model X.prog X.w) X.A (call (.ref f) [.ref p1, v]) (fun r s' => wpAny (model X.prog X.w) X.A (truthy r) (fun b => EP X pins σ Q (f2 b)) X.xe s') X.xe s2 := fun f2 hf2 => by
    refine thn (run_fnSD (us := [.ref p1, v]) (ds := []) (dvs := []) (vs := [.ref p1, x1]) (Q := fun w H3 => ∃ b, w = .bl b ∧ Q (.bl (b != neg)) H3) (E := WE xk) F hr hb .nil (hx σ) I2 (.cons rfl (.cons rx .nil)) (spD_use hK E2 x (.cons i2 (.cons i1 .nil)) sdd fun d n' v H' a b c i => ?_)) fun r s' hr' => ?_
    · obtain ⟨bb, rfl, a⟩ := a
      exact ⟨bb, isBl i, q _ _ _ _ _ _ a b (S2.trans c) (.bl _)⟩
    · obtain ⟨v3, H3, I3, rv3, bb, rfl, q3⟩ := hr'
      obtain rfl : r = Value.bool bb := rv3
      refine thn (tru_ok pins s' σ H3 (.bl bb) (.bool bb) (fun k H4 => k = bb ∧ H4 = H3) I3 rfl ⟨bb, rfl, rfl, rfl⟩) fun b s'' hz => ?_
      obtain ⟨H4, I4, eb, eH⟩ := hz
      rw [hf2, eb]
      rw [eH] at I4
      exact ⟨.bl (bb != neg), H3, I4, rfl, q3⟩
  rcases hop with ⟨rfl, rfl⟩ | ⟨rfl, rfl⟩
  · exact PySem.W.in_K hfr I2.ok.mod.kin J1 hs hf (body _ fun b => by cases b <;> rfl)
  · exact PySem.W.notIn_K hfr I2.ok.mod.kin J1 hs hf (body _ fun b => by cases b <;> rfl)
theorem pdt_of_cmp {op : CmpOp} {a b : Expr} {t : CE} (h : PD X g xk (.Compare a [op] [b] pos) t) (h2 : ∀ whole, isTrue (.Compare a [op] [b] pos) X.env whole = (do let v ← whole; standAt (Expr.pos (.Compare a [op] [b] pos)); holding [v] (truthy v)) := by intro _; rfl) : PDT X g xk (.Compare a [op] [b] pos) (cB t) := pdt_val h h2
/-! a == b of one own class -/
def cEqO (sd : SpD) (ta tb : CE) (c : Nat) : CE := cBinO sd ta tb c
theorem pd_eqO {CX : CXT} {sd : SpD} {k : Nat} {f : Addr} {fd : FuncData} {ps : List Str} {a b : Expr} {ta tb : CE} {c : Nat} (F : FnOk X.prog X.w X.K X.mg X.base CX k f fd ps (spD g sd)) (hr : Room k X.A) (hb : Binds X.K fd ps []) (hx : ∀ σ, PassesAt CX X σ (WE xk σ))
    (hs : PySem.W.findIn X.K (.ref (g.cls c)) "__eq__" = some (some (.ref f))) (hf : PySem.W.isFn X.K (.ref f) = true) (h1 : PD X g xk a ta) (h2 : PD X g xk b tb) (hm : behindInMarks .Eq b = false) : PD X g xk (.Compare a [.Eq] [b] pos) (cEqO sd ta tb c) := by
  refine ⟨⟨fun pins s σ H Q I h => ?_⟩⟩
  obtain ⟨C, ρ, n, O, kk, ke, hK, E, t, x, q⟩ := h
  refine wpAny_Compare1 (binT (R := fun v w H2 => ∃ (d1 d2 : D) (ρ2 : En) (n2 : Nat) (O2 : Ow), ((∃ fs, d1 = obj c fs) ∧ (∃ fs, d2 = obj c fs) ∧ sd [d1, d2] n2 (fun z n3 => kk z ρ2 n3) (fun w n3 => ke w ρ2 n3)) ∧ Ev C ρ2 n2 σ H2 O2 ∧ Same (hid C O H) (hid C O2 H2) ∧ Is C.T (hid C O2 H2) v d1 ∧ Is C.T (hid C O2 H2) w d2) h1.pe h2.pe I
    ⟨C, ρ, n, O, _, ke, hK, E, t, x, fun d1 ρ1 n1 v H1 O1 k1 E1 S1 i1 => ⟨C, ρ1, n1, O1, _, ke, hK, E1, k1, x, fun d2 ρ2 n2 w H2 O2 k2 E2 S2 i2 => ⟨d1, d2, ρ2, n2, O2, k2, E2, S1.trans S2, i1.same S2, i2⟩⟩⟩ ?_) hm
  rintro v u s2 x1 y1 H2 I2 rx ry ⟨d1, d2, ρ2, n2, O2, ⟨⟨fs1, e1⟩, ⟨fs2, e2⟩, sdd⟩, E2, S2, i1, i2⟩
  subst e1
  subst e2
  obtain ⟨p1, dx1, us1, ex1, g1, _, _⟩ := isObj i1
  obtain ⟨p2, dx2, us2, ey1, g2, _, _⟩ := isObj i2
  subst ex1
  subst ey1
  obtain rfl : v = Value.ref p1 := rx
  obtain rfl : u = Value.ref p2 := ry
  rw [hK.2] at g1 g2
  obtain ⟨ox, od, J1⟩ := inst_of I2 (hid_le _ _ g1)
  obtain ⟨ox2, od2, J2⟩ := inst_of I2 (hid_le _ _ g2)
  obtain ⟨m, hfr⟩ := I2.fr
  show wpAny _ _ (richCompare .Eq (.ref p1) (.ref p2)) _ _ _
  refine PySem.W.cmp_K (by have := hr.un; omega) hfr I2.ok.mod.kin J1 (J2.type) (by unfold PySem.W.notFirst; simp) hs hf ?_
  refine thn (run_fnSD (us := [.ref p1, .ref p2]) (ds := []) (dvs := []) (vs := [.ref p1, .ref p2]) (Q := Q) (E := WE xk) F hr hb .nil (hx σ) I2 (.cons rfl (.cons rfl .nil)) (spD_use hK E2 x (.cons i1 (.cons i2 .nil)) sdd fun d n' v H' a b c i => q _ _ _ _ _ _ a b (S2.trans c) i)) fun r s' hr' => ?_
  obtain ⟨v3, H3, I3, rv3, q3⟩ := hr'
  exact cmpBack_of rv3 ⟨v3, H3, I3, rv3, q3⟩
end
end RM
namespace L2
open PySem PySem.Spec PyProof.Rows
/-! ### {k: v for ..} whose keys may be tuples -/
/-- the reading: o0 is what the new dict is at first -/
def tDcP (o0 : HO) (wi : TI) (g : TG) (tt : TT) (tk tv : TE) (vs : List Nat) : TE := fun σ H Q => wi σ H fun J H1 => ∀ D, H1 D = none → ∃ W : Nat → Nat → Hp → Prop, (∃ m, W 0 m (upd H1 D o0)) ∧
  ∀ i m H, W i m H → (J.stop i H ∧ Q (.ref D) H) ∨ (J.go i H ∧ ∃ Nx : Hp → Prop, (∀ H', Nx H' → ∃ m', m' < m ∧ W (i + 1) m' H') ∧
    ∀ x H', J.yld i H x H' → g x (wipe σ vs) H' fun σ2 H2 => wipe σ2 vs = wipe σ vs ∧ tt σ2 H2 fun b H3 => if b = true then tk σ2 H3 fun y H4 => tv σ2 H4 fun z H5 => ∃ H6, DPut H5 D y z H6 ∧ Nx H6 else Nx H3)
/-- an empty dict of either kind -/
def Void (o : HO) : Prop := o = .dK [] ∨ o = .dT []
section
variable {X : Cx} {pins : List (Addr × Obj)} {σ : St} {H H' : Hp} {s : Shared} {D : Addr}
theorem void_laid {o : HO} (v : Void o) (I : Inv X pins σ H s) : Inv X pins σ (upd H s.heap.objs.size o) { s with heap := s.heap.push { cls := .type "dict", data := .dict #[] } } :=
  I.laid (t' := s.toks) (fun _ _ q => Heap.get?_push_of_some _ q) (Nat.le_refl _) (v.elim (fun e => e ▸ dk_empty s.heap I.big) fun e => e ▸ dt_empty s.heap I.big)
/-- a comprehension's d[k] = v -/
theorem void_put {E : Value → Shared → Prop} {Q : Unit → Shared → Prop} {y z : V} {u r : Value} (hu : X.A.units + 1 < cLine) (I : Inv X pins σ H s) (p : DPut H D y z H') (ry : RelV y u) (rz : RelV z r) (q : ∀ s', Inv X pins σ H' s' → Q () s') :
    wpAny (model X.prog X.w) X.A (dictSet D u r) Q E s := by
  rcases p with ⟨kvs, k, e, rfl, l, rfl⟩ | ⟨kvs, k, b, e, rfl, eb, l, rfl⟩
  · exact d_dictSet I e l ry rz q
  · obtain rfl : u = Value.ref b := ry
    obtain ⟨small, low, xs, rel, dd⟩ := dt_of I.hok e
    have few : xs.length ≤ sizeLine := (Paired.length rel) ▸ small
    have more : (L2.putK kvs k z).length ≤ sizeLine := by
      have := length_putK kvs k z
      omega
    refine wpAny_dictSet_heap (knd := tupleKind (mixKind X.prog X.w)) (hsz := few) (show X.A.units < cLine by omega) (key_of I.hok eb) dd fun h' dd' only => q _ ?_
    obtain ⟨ob, es, ep, there, shape⟩ := dd'
    obtain ⟨s2, s3, s4, _, s5⟩ := shape
    refine d_write I (by rw [e]; trivial) only ⟨ob, there⟩ ⟨more, low, _, (rel.put k eb rz).keeps fun c ys ec => ?_, ob, es, ep, there, s2, s3, s4, s5⟩
    have ne : c ≠ D := ne_of ec e (fun w => nomatch w)
    rw [upd_ne ne]
    exact ec
end
section
variable {X : Cx} {pins : List (Addr × Obj)} {σ : St} {H : Hp} {s : Shared} {Q : VK}
/-- the block of a comprehension begins: where it stands, what of the iterator's objects holds there -/
structure Block (X : Cx) (pins : List (Addr × Obj)) (s : Shared) (H : Hp) (scope : Scope) (fp : List Addr) (vs : List Nat) (σ : St) (E : Env) (s4 : Shared) : Prop where
  env : ∃ cl, E = compEnvC scope cl s.heap.objs.size X.env
  inv : Inv (X.blk s H scope E fp) [] (wipe σ vs) H s4
  loc : E.locals = s.heap.objs.size
  old : ∀ b o, s.heap.get? b = some o → s4.heap.get? b = some o
theorem block_at {scope : Scope} {own : List (Str × Nat)} {fp : List Addr} (I : Inv X pins σ H s) (ok : BlkOk X.N X.env.scope scope own) (nd : X.N.Nodup) (f : ∀ b ∈ fp, FpOk X pins H b ∧ b < s.heap.objs.size) :
    Block X pins s H scope fp (own.map (·.2)) σ (compEnvC scope (cellsFrom (s.heap.objs.size + 1) scope.names (cloFrom X.env.cells scope.names [])) s.heap.objs.size X.env) { s with heap := pushCells (s.heap.push { cls := .type "dict", data := .dict #[] }) scope.names } :=
  ⟨⟨_, rfl⟩, block_start I ok nd f, rfl, fun b o e => pushCells_keeps _ _ _ _ (Heap.get?_push_of_some _ e)⟩
theorem dcP_core {kx vx tg iter : Expr} {ifs : List Expr} {scope : Scope} {own : List (Str × Nat)} {pos pos' : Pos} {o0 : HO} {wi : TI} {g : TG} {tt : TT} {tk tv : TE} {use : Option (Value → Sem Unit)} {Qf : Value → Shared → Prop} (v0 : Void o0) (hu : X.A.units + 1 < cLine)
    (calm : X.calm = true) (nd : X.N.Nodup) (I : Inv X pins σ H s) (hi : PI X tg iter wi) (ok : BlkOk X.N X.env.scope scope own)
    (hg : ∀ (s : Shared) (H : Hp) (C : Addr) (cl : List (Str × Addr)) (fp : List Addr), PG (X.blk s H scope (compEnvC scope cl C X.env) fp) tg g) (ht : ∀ (s : Shared) (H : Hp) (C : Addr) (cl : List (Str × Addr)) (fp : List Addr), PTs (X.blk s H scope (compEnvC scope cl C X.env) fp) ifs tt)
    (hk : ∀ (s : Shared) (H : Hp) (C : Addr) (cl : List (Str × Addr)) (fp : List Addr), PE (X.blk s H scope (compEnvC scope cl C X.env) fp) kx tk) (hv : ∀ (s : Shared) (H : Hp) (C : Addr) (cl : List (Str × Addr)) (fp : List Addr), PE (X.blk s H scope (compEnvC scope cl C X.env) fp) vx tv)
    (fold : ∀ x, foldedSetIterable iter X.env x = pure x) (h : tDcP o0 wi g tt tk tv (own.map (·.2)) σ H Q)
    (done : ∀ D C s' m H', Inv X pins σ H' s' → Q (.ref D) H' → s'.heap.Ns C m → FpOk X pins H' C → compPost (model X.prog X.w) X.A X.xe use Qf (.ref D) C (.ok .next) s') :
    wpAny (model X.prog X.w) X.A (comprehension (.DictComp kx vx [⟨tg, iter, ifs, 0⟩] scope pos) scope X.env pos' newDict false (eval iter X.env) use) Qf X.xe s := by
  have caught : ∀ y ∈ scope.names, y.2 = .free → ∃ c, X.env.cells.lookup y.1 = some c := fun y hy e => (ok.free y hy e).elim (fun k => I.ok.has _ (.inl k)) fun k => I.ok.has _ (.inr k)
  refine wpAny_comprehension_free (use := use) rfl fold (closure_ok caught) ok.kind (fun y hy e => (ok.uniq y hy).trans (congrArg some e)) (thn (hi.run pins s σ H _ I h) fun src s1 w1 => thn w1 fun walker s2 w2 => ?_)
  obtain ⟨it, fp, tn, J, H2, rfl, I2, T, at0, f2, q⟩ := w2
  refine wpAny_newObj_type (newEnv_comp ?_)
  have room : H2 s2.heap.objs.size = none := I2.hok.fresh (Nat.le_refl _)
  obtain ⟨W, ⟨m0, w0⟩, turn⟩ := q s2.heap.objs.size room
  have I3 := void_laid v0 I2
  have young : ∀ b ∈ fp, b < s2.heap.objs.size := fun b hb => let ⟨_, e, _⟩ := T.obj _ _ at0 b hb; Heap.lt_size e
  have f3 : ∀ b ∈ fp, FpOk X pins (upd H2 s2.heap.objs.size o0) b ∧ b < (s2.heap.push { cls := .type "dict", data := .dict #[] }).objs.size := fun b hb =>
    ⟨⟨(upd_ne (Nat.ne_of_lt (young b hb))).trans (f2 b hb).1, (f2 b hb).2⟩, Nat.lt_of_lt_of_le (young b hb) (by rw [Heap.size_push]; exact Nat.le_succ _)⟩
  have step0 : tn 0 (s2.heap.push { cls := .type "dict", data := .dict #[] }) := T.keep _ _ _ at0 fun b _ o e => Heap.get?_push_of_some _ e
  generalize hD : s2.heap.objs.size = D at *
  generalize hs3 : ({ s2 with heap := s2.heap.push { cls := .type "dict", data := .dict #[] } } : Shared) = s3 at *
  have e3 : s2.heap.push { cls := .type "dict", data := .dict #[] } = s3.heap := by rw [← hs3]
  rw [e3] at f3 step0
  generalize hH : upd H2 D o0 = H3 at *
  have B := block_at I3 ok nd f3
  have step1 : tn 0 (pushCells (s3.heap.push { cls := .type "dict", data := .dict #[] }) scope.names) := T.keep _ _ _ step0 fun b _ o e => B.old b o e
  show codeAny _ _ (.compStart _ 0 (.ref it) (.ref D) (compEnvC scope (cellsFrom (s3.heap.objs.size + 1) scope.names (cloFrom X.env.cells scope.names [])) s3.heap.objs.size X.env)) (compPost _ X.A X.xe use Qf (.ref D) s3.heap.objs.size) { s3 with heap := pushCells (s3.heap.push { cls := .type "dict", data := .dict #[] }) scope.names }
  have nG := hg s3 H3 s3.heap.objs.size (cellsFrom (s3.heap.objs.size + 1) scope.names (cloFrom X.env.cells scope.names [])) fp
  have nT := ht s3 H3 s3.heap.objs.size (cellsFrom (s3.heap.objs.size + 1) scope.names (cloFrom X.env.cells scope.names [])) fp
  have nK := hk s3 H3 s3.heap.objs.size (cellsFrom (s3.heap.objs.size + 1) scope.names (cloFrom X.env.cells scope.names [])) fp
  have nV := hv s3 H3 s3.heap.objs.size (cellsFrom (s3.heap.objs.size + 1) scope.names (cloFrom X.env.cells scope.names [])) fp
  generalize hce : compEnvC scope (cellsFrom (s3.heap.objs.size + 1) scope.names (cloFrom X.env.cells scope.names [])) s3.heap.objs.size X.env = ce at B nG nT nK nV ⊢
  have free0 : ∀ b ∈ fp, H3 b = none := fun b hb => (f3 b hb).1.1
  have I4 := B.inv
  have cL := B.loc
  have mine : ∀ {σ' : St} {H' : Hp} {s' : Shared}, Inv (X.blk s3 H3 scope ce fp) [] σ' H' s' → (∀ b ∈ fp, H' b = none) → ∀ b ∈ fp, FpOk (X.blk s3 H3 scope ce fp) [] H' b := fun J' no b hb =>
    ⟨no b hb, (J'.ok.exf b hb).1, J'.ok.exfs b hb, .inl hb, fun x c e => (J'.ok.exf b hb).2 x c e, fun p hp => nomatch (show p ∈ ([] : List (Addr × Obj)) by simpa using hp)⟩
  generalize hs4 : ({ s3 with heap := pushCells (s3.heap.push { cls := .type "dict", data := .dict #[] }) scope.names } : Shared) = s4 at I4 ⊢
  have step4 : tn 0 s4.heap := by
    rw [← hs4]
    exact step1
  have turns : codeAny (model X.prog X.w) X.A (.compLoop (.DictComp kx vx [⟨tg, iter, ifs, 0⟩] scope pos) 0 (.ref it) (.ref D) ce) (compPost (model X.prog X.w) X.A X.xe use Qf (.ref D) s3.heap.objs.size) s4 := by
    refine compLoop_anyD (fun m t => ∃ i G, Inv (X.blk s3 H3 scope ce fp) [] (wipe σ (own.map (·.2))) G t ∧ tn i t.heap ∧ (∀ b ∈ fp, G b = none) ∧ W i m G) ?_ m0 ⟨0, H3, I4, step4, free0, w0⟩
    rintro m t ⟨i, G, IG, stepG, freeG, wG⟩
    rcases turn i m G wG with ⟨halt, qG⟩ | ⟨goes, Nx, toNx, each⟩
    · refine thnF (T.done (X.blk s3 H3 scope ce fp) rfl rfl rfl calm i [] t _ G (fun _ _ => False) IG (mine IG freeG) stepG halt) fun r t1 ⟨rNone, I1⟩ => ?_
      subst rNone
      have home : Inv X pins σ G t1 := I3.call' (ch := fp) I1.os I1.base I1.hok I1.bare fun b hb => let z := (f3 b hb).1; ⟨z.2.2.2.1, z.2.1, z.2.2.2.2.1, z.2.2.2.2.2⟩
      have noC : G s3.heap.objs.size = none := by
        rw [← cL]
        exact I1.free
      obtain ⟨mm, names, _⟩ := I1.loc
      rw [show (X.blk s3 H3 scope ce fp).env.locals = s3.heap.objs.size from cL] at names
      exact done D s3.heap.objs.size t1 mm G home qG names (I3.fpOk (Nat.le_refl _) noC)
    · refine thnF (T.item (X.blk s3 H3 scope ce fp) rfl rfl rfl calm i [] t _ G (fun _ _ => False) IG (mine IG freeG) stepG goes) fun r t1 ⟨u, rSome, w1⟩ => ?_
      subst rSome
      refine thnF w1 fun _ t2 ⟨x, G2, I2', r2, y2, step2, free2⟩ => ?_
      refine thnF (nG.run _ t2 _ G2 x u _ (I2'.pinned (mine I2' free2) (T.obj _ _ step2)) r2 (each x G2 y2)) fun _ t3 ⟨σ3, G3, I3', wiped, q3⟩ => ?_
      refine thnF (nT.run _ t3 σ3 G3 _ I3' q3) fun b t4 ⟨G4, I4', q4⟩ => ?_
      have next : ∀ {t' : Shared} {G' : Hp}, Inv (X.blk s3 H3 scope ce fp) ([] ++ pinsAt fp t2.heap) σ3 G' t' → Nx G' → ∃ k, k < m ∧ ∃ i G, Inv (X.blk s3 H3 scope ce fp) [] (wipe σ (own.map (·.2))) G t' ∧ tn i t'.heap ∧ (∀ b ∈ fp, G b = none) ∧ W i k G := fun {t' G'} I' nx => by
        obtain ⟨k, less, w'⟩ := toNx G' nx
        have held : ∀ b ∈ fp, ∀ o, t2.heap.get? b = some o → t'.heap.get? b = some o ∧ G' b = none := fun b hb o e =>
          let z := I'.pin (b, o) (List.mem_append_right _ (List.mem_append_right _ (mem_pinsAt hb e)))
          ⟨z.1, z.2.1⟩
        have len : (wipe σ (own.map (·.2))).length = σ3.length := by
          rw [← wiped, wipe_length]
        refine ⟨k, less, i + 1, G', (I'.unpinned (pins := [])).weak len (fun j v e => ?_), T.keep _ _ _ step2 fun b hb o e => (held b hb o e).1, fun b hb => ?_, w'⟩
        · rw [← wiped] at e
          exact (wipe_some e).1
        · obtain ⟨o, e, _⟩ := T.obj _ _ step2 b hb
          exact (held b hb o e).2
      cases b with
      | false =>
        rw [if_neg Bool.false_ne_true] at q4 ⊢
        exact next I4' q4
      | true =>
        rw [if_pos rfl] at q4 ⊢
        refine thnF (nK.run _ t4 σ3 G4 _ I4' q4) fun a t5 ⟨y, G5, I5', r5, q5⟩ => ?_
        refine thnF (nV.run _ t5 σ3 G5 _ I5' q5) fun b t6 ⟨z, G6, I6', r6, G7, put, nx⟩ => ?_
        exact void_put (X := X.blk s3 H3 scope ce fp) hu I6' put r5 r6 fun t7 I7' => next I7' nx
  exact codeAny_compStart_dict turns (T.self X.A 0 _ _ _ step4 turns)
theorem pe_dcP {kx vx tg iter : Expr} {ifs : List Expr} {scope : Scope} {own : List (Str × Nat)} {pos : Pos} {o0 : HO} {wi : TI} {g : TG} {tt : TT} {tk tv : TE} (v0 : Void o0) (hu : X.A.units + 1 < cLine) (calm : X.calm = true) (nd : X.N.Nodup) (hi : PI X tg iter wi) (ok : BlkOk X.N X.env.scope scope own)
    (hg : ∀ (s : Shared) (H : Hp) (C : Addr) (cl : List (Str × Addr)) (fp : List Addr), PG (X.blk s H scope (compEnvC scope cl C X.env) fp) tg g) (ht : ∀ (s : Shared) (H : Hp) (C : Addr) (cl : List (Str × Addr)) (fp : List Addr), PTs (X.blk s H scope (compEnvC scope cl C X.env) fp) ifs tt)
    (hk : ∀ (s : Shared) (H : Hp) (C : Addr) (cl : List (Str × Addr)) (fp : List Addr), PE (X.blk s H scope (compEnvC scope cl C X.env) fp) kx tk) (hv : ∀ (s : Shared) (H : Hp) (C : Addr) (cl : List (Str × Addr)) (fp : List Addr), PE (X.blk s H scope (compEnvC scope cl C X.env) fp) vx tv)
    (fold : ∀ x, foldedSetIterable iter X.env x = pure x := by intro _; rfl) : PE X (.DictComp kx vx [⟨tg, iter, ifs, 0⟩] scope pos) (tDcP o0 wi g tt tk tv (own.map (·.2))) := by
  constructor
  intro pins s σ H Q I h
  rw [arm_eval_DictComp]
  refine dcP_core v0 hu calm nd I hi ok hg ht hk hv fold h fun D C s' m H' I' q names f => ⟨m, names, fun h'' same => ?_⟩
  exact ⟨.ref D, H', I'.turned (t' := s'.toks) (fun b o hb e => (same.2 b hb).trans e) f.1 f.2.1 f.2.2.2.1 f.2.2.2.2.1 f.2.2.2.2.2, rfl, q⟩
end
end L2
namespace RM
open PySem PySem.Spec PyProof.Rows L2 CS RZ
/-! ### dict comprehensions -/
theorem put_use {T : Tab} {Hh H : Hp} {p : Addr} {y v : V} {m m' key d : D} (s : Same Hh H) (ow : OwnAt T Hh H p m) (hy : KeyAt Hh y key) (iv : Is T Hh v d) (e : putD m key d = some m') : ∃ o', DPut H p y v (upd H p o') ∧ OwnAt T Hh (upd H p o') p m' ∧ isObjD m' = false := by
  unfold putD at e
  split at e
  · obtain ⟨⟨c1, c2⟩, rfl⟩ := ifs e
    cases ow with
    | dk h r =>
      cases hy with
      | t h => cases c1
      | k k => exact ⟨_, .k h (by rw [isK_len r]; exact lim_lt c2), .dk upd_same (isK_put k iv r), rfl⟩
  · obtain ⟨⟨c1, c2⟩, rfl⟩ := ifs e
    cases ow with
    | dt h r =>
      generalize hk : (PyData.tuple _) = kk at hy
      cases hy with
      | k k => cases k <;> cases hk
      | @t b ks hb =>
        injection hk with e4
        subst e4
        exact ⟨_, .t h (s _ _ hb) (by rw [isT_len r]; exact lim_lt c2), .dt upd_same (isT_put ks iv r), rfl⟩
  · cases e
theorem dcP_it {J : It} {m : Nat} {G : Hp → Prop} {Y : Nat → Hp → V → Hp → Prop} (w : Walk J m G Y) {o0 : HO} {g : TG} {tt : TT} {tk tv : TE} {vs : List Nat} {σ : L2.St} {H1 : Hp} {Da : Addr} {Qd : Hp → Prop} (Pv : Nat → Hp → Prop) (h0 : Pv 0 (upd H1 Da o0)) (hG : ∀ i H, i ≤ m → Pv i H → G H)
    (hs : ∀ i x H H', i < m → Pv i H → Y i H x H' → g x (wipe σ vs) H' fun σ2 H2 => wipe σ2 vs = wipe σ vs ∧ tt σ2 H2 fun b H3 => if b = true then tk σ2 H3 fun y H4 => tv σ2 H4 fun z H5 => ∃ H6, DPut H5 Da y z H6 ∧ Pv (i + 1) H6 else Pv (i + 1) H3) (hd : ∀ H, Pv m H → Qd H) :
    ∃ W : Nat → Nat → Hp → Prop, (∃ k, W 0 k (upd H1 Da o0)) ∧ ∀ i k H, W i k H → (J.stop i H ∧ Qd H) ∨ (J.go i H ∧ ∃ Nx : Hp → Prop, (∀ H', Nx H' → ∃ k', k' < k ∧ W (i + 1) k' H') ∧
      ∀ x H', J.yld i H x H' → g x (wipe σ vs) H' fun σ2 H2 => wipe σ2 vs = wipe σ vs ∧ tt σ2 H2 fun b H3 => if b = true then tk σ2 H3 fun y H4 => tv σ2 H4 fun z H5 => ∃ H6, DPut H5 Da y z H6 ∧ Nx H6 else Nx H3) := by
  refine ⟨fun i k H => k + i = m ∧ Pv i H, ⟨m, rfl, h0⟩, fun i k H z => ?_⟩
  have g0 := hG i H (by omega) z.2
  rcases Nat.lt_or_ge i m with lt | ge
  · exact .inr ⟨w.goes i H lt g0, Pv (i + 1), fun H' q => ⟨m - (i + 1), by omega, by omega, q⟩, fun x H' y => hs i x H H' lt z.2 (w.yields i H x H' lt g0 y)⟩
  · have e : i = m := by omega
    subst e
    exact .inl ⟨w.stops H g0, hd H z.2⟩
def cDcL (cg : CG) (tt : CT) (tk tv : CE) (vs : List Nat) : List D → En → Nat → D → (D → En → Nat → Prop) → Prop
  | [], ρ, n, m, k => k m ρ n
  | d :: ds, ρ, n, m, k => ∃ ρ1, cg d ρ = some ρ1 ∧ tt ρ1 n (fun b ρ2 n2 => if b = true then tk ρ2 n2 (fun y ρ3 n3 => tv ρ3 n3 (fun z ρ4 n4 => ∃ m', putD m y z = some m' ∧ cDcL cg tt tk tv vs ds (wipeE ρ4 vs) n4 m' k) kF) kF
      else cDcL cg tt tk tv vs ds (wipeE ρ2 vs) n2 m k) kF
def cDc (b : Bool) (ci : CA) (cg : CG) (tt : CT) (tk tv : CE) (vs : List Nat) : CE := fun ρ n k ke => ci ρ n (fun ds ρ' n' => cDcL cg tt tk tv vs ds (wipeE ρ' vs) n' (.dict [(.none, .bool b)]) k) ke
def void (b : Bool) : HO := if b = true then .dT [] else .dK []
theorem void_is (b : Bool) : Void (void b) := by
  cases b
  · exact .inl rfl
  · exact .inr rfl
theorem void_own {T : Tab} {Hh H : Hp} {p : Addr} (b : Bool) (h : H p = some (void b)) : OwnAt T Hh H p (.dict [(.none, .bool b)]) := by
  cases b
  · exact .dk h .nil
  · exact .dt h .nil
section
variable {X : Cx} {g : Glob} {xk : WX} {pos : Pos}
theorem wipe_again {σ : L2.St} {vs : List Nat} : wipe (wipe σ vs) vs = wipe σ vs := by
  refine List.ext_getElem? fun j => ?_
  rw [wipe_get, wipe_get]
  split
  · cases σ[j]? <;> rfl
  · rfl
theorem dc_use {b0 : Bool} {ci : CA} {cg : CG} {js vs : List Nat} {tt : CT} {tk tv : CE} (hj : ∀ j ∈ js, j ∈ vs) {σ : L2.St} {H : Hp} {Q : VK} (r : liftF g xk (cDc b0 ci cg tt tk tv vs) σ H Q) : tDcP (void b0) (liftI g xk ci) (liftG g js cg) (liftT g xF tt) (liftK g xF tk) (lift g xF tv) vs σ H Q := by
  obtain ⟨C, ρ, n, O, k, ke, hK, E, t, x, q⟩ := r
  refine ⟨C, ρ, n, O, _, ke, hK, E, t, x, fun ds ρ1 n1 J H1 O1 k1 E1 S1 WD => ?_⟩
  intro Da nD
  obtain ⟨f1, f2, f3, f4⟩ := E1.fresh nD
  obtain ⟨Gd, Y, WK, hG, hY⟩ := WD.ex
  refine dcP_it WK (fun i H => ∃ (ρ : En) (n : Nat) (O : Ow) (m : D), Ev C ρ n (wipe σ vs) (out H Da) O ∧ OwnAt C.T (hid C O (out H Da)) H Da m ∧ isObjD m = false ∧ cDcL cg tt tk tv vs (ds.drop i) ρ n m k ∧ Same (hid C O1 H1) (hid C O (out H Da))) ?_ ?_ ?_ ?_
  · refine ⟨_, n1, _, _, (by rw [out_new nD]; exact E1.wipes vs), void_own b0 upd_same, rfl, k1, ?_⟩
    rw [out_new nD]
    exact hid_cuts vs
  · rintro i H2 _ ⟨ρ2, n2, O2, m, E2, ow, no, c2, S2⟩
    exact hG _ ((S2.trans hid_le).trans out_le)
  · rintro i x0 H2 H3 hi' ⟨ρ2, n2, O2, m, E2, ow, no, c2, S2⟩ y
    obtain ⟨o, eD⟩ := ow.some
    have hd : ds.drop i = ds[i] :: ds.drop (i + 1) := List.drop_eq_getElem_cons hi'
    rw [hd] at c2
    obtain ⟨ρ3, e3, c3⟩ := c2
    obtain ⟨sY, iY⟩ := hY i x0 H2 H3 ds[i] ((S2.trans hid_le).trans out_le) y (List.getElem?_eq_getElem hi')
    have E4 := E2.hide eD fun xs z => ow.notup xs (eD.trans (congrArg some z))
    have E5 := E4.ext sY
    have h45 := hid_same (C := C.plus Da o) (O := O2) sY
    have S6 : Same (hid C O1 H1) (hid (C.plus Da o) O2 H3) := by
      refine Same.trans ?_ h45
      rw [hid_plus]
      exact S2
    have ix : Is C.T (hid (C.plus Da o) O2 H3) x0 ds[i] := iY _ S6 fun b u h1 h2 => let ⟨g1, g2, _, _⟩ := E4.fresh h2; hid_of h1 g1 g2
    refine ⟨C.plus Da o, ρ2, ρ3, n2, O2, ds[i], hK, E5, ix, e3, fun σ4 O4 E6 S7 A4 => ?_⟩
    have wp : wipe σ4 vs = wipe σ vs := (wipe_agree (σ := wipe σ vs) A4 hj).trans wipe_again
    refine ⟨wp, C.plus Da o, ρ3, n2, O4, _, kF, hK, E6, c3, xl_F, fun b ρ5 n5 H5 O5 c5 E7 S8 => ?_⟩
    cases b with
    | false =>
      show ∃ _, _
      obtain ⟨E8, eD8⟩ := E7.unhide f1 f4 f3
      have E9 := E8.wipes vs
      rw [wp] at E9
      have Sx := (h45.trans S7).trans S8
      rw [hid_plus, hid_plus] at Sx
      exact ⟨_, _, _, m, E9, (ow.same Sx (eD8.trans eD.symm)).same (hid_cuts vs) rfl, no, c5, (S2.trans Sx).trans (hid_cuts vs)⟩
    | true =>
      refine ⟨C.plus Da o, ρ5, n5, O5, _, kF, hK, E7, c5, xl_F, fun yd ρ6 n6 yv H6 O6 c6 E8 S9 ky => ?_⟩
      refine ⟨C.plus Da o, ρ6, n6, O6, _, kF, hK, E8, c6, xl_F, fun zd ρ7 n7 zv H7 O7 c7 E9 S10 iz => ?_⟩
      obtain ⟨m', hp, c7⟩ := c7
      obtain ⟨E10, eD10⟩ := E9.unhide f1 f4 f3
      have E11 := E10.wipes vs
      rw [wp] at E11
      have Sx := ((h45.trans S7).trans S8).trans (S9.trans S10)
      have ky2 := ky.same S10
      rw [hid_plus, hid_plus] at Sx
      rw [hid_plus] at ky2 iz
      obtain ⟨o', pu, ow', no'⟩ := put_use (Same.trans hid_le out_le) (ow.same Sx (eD10.trans eD.symm)) ky2 iz hp
      refine ⟨_, pu, _, _, cutOs O7 vs, m', ?_, ?_, no', c7, ?_⟩
      · rw [out_upd]
        exact E11
      · rw [out_upd]
        exact ow'.same (hid_cuts vs) rfl
      · rw [out_upd]
        exact (S2.trans Sx).trans (hid_cuts vs)
  · rintro H2 ⟨ρ2, n2, O2, m, E2, ow, no, c2, S2⟩
    rw [List.drop_length] at c2
    exact q _ _ _ _ _ _ _ c2 E2.unwipe (S1.trans S2) out_same out_le ow no
theorem pf_dc (b0 : Bool) {kx vx tg iter : Expr} {ifs : List Expr} {scope : Scope} {own : List (Str × Nat)} {ci : CA} {cg : CG} {js : List Nat} {tt : CT} {tk tv : CE} (hu : X.A.units + 1 < cLine) (hc : X.calm = true) (hN : X.N.Nodup) (hi : PDI X g xk tg iter ci) (ok : BlkOk X.N X.env.scope scope own)
    (hg : ∀ (s : Shared) (H : Hp) (C : Addr) (cl : List (Str × Addr)) (fp : List Addr), PDG (X.blk s H scope (compEnvC scope cl C X.env) fp) g js tg cg) (ht : ∀ (s : Shared) (H : Hp) (C : Addr) (cl : List (Str × Addr)) (fp : List Addr), PDTs (X.blk s H scope (compEnvC scope cl C X.env) fp) g xF ifs tt)
    (hk : ∀ (s : Shared) (H : Hp) (C : Addr) (cl : List (Str × Addr)) (fp : List Addr), PDK (X.blk s H scope (compEnvC scope cl C X.env) fp) g xF kx tk) (hv : ∀ (s : Shared) (H : Hp) (C : Addr) (cl : List (Str × Addr)) (fp : List Addr), PD (X.blk s H scope (compEnvC scope cl C X.env) fp) g xF vx tv)
    (hj : ∀ j ∈ js, j ∈ own.map (·.2) := by decide) (hs : ∀ x, foldedSetIterable iter X.env x = pure x := by intro _; rfl) :
    PDF X g xk (.DictComp kx vx [⟨tg, iter, ifs, 0⟩] scope pos) (cDc b0 ci cg tt tk tv (own.map (·.2))) :=
  ⟨PE.imp (pe_dcP (void_is b0) hu hc hN hi.pi ok (fun s H C cl fp => (hg s H C cl fp).pg) (fun s H C cl fp => (ht s H C cl fp).pts) (fun s H C cl fp => (hk s H C cl fp).pe) (fun s H C cl fp => (hv s H C cl fp).pe) hs) fun σ H Q r => dc_use hj r⟩
/-! ### stars, and, or, not, minus -/
def cStar (t : CE) (u : CA) : CA := fun ρ n k ke => t ρ n (fun d ρ1 n1 => ∃ xs, seqD d = some xs ∧ u ρ1 n1 (fun ds ρ2 n2 => k (xs ++ ds) ρ2 n2) ke) ke
theorem pda_star {e : Expr} {es : List Expr} {t : CE} {u : CA} {p : Pos} (G : Good X g) (ha : PD X g xk e t) (hr : PDA X g xk es u) (hs : starEach (.Starred e p :: es) X.env = (true, eval e X.env) :: starEach es X.env := by rfl) : PDA X g xk (.Starred e p :: es) (cStar t u) := by
  refine ⟨PA.imp (StX.pa_star ha.pe hr.pa hs) fun σ H Q r => ?_⟩
  obtain ⟨C, ρ, n, O, k, ke, hK, E, t, x, q⟩ := r
  refine ⟨C, ρ, n, O, _, ke, hK, E, t, x, fun d ρ1 n1 v H1 O1 k1 E1 S1 i1 => ?_⟩
  obtain ⟨xs, hs, k1⟩ := k1
  obtain ⟨a, us, rfl, r, c⟩ := i1.seq hs
  refine ⟨a, us, rfl, ?_, C, ρ1, n1, O1, _, ke, hK, E1, k1, x, fun ds ρ2 n2 vs H2 O2 k2 E2 S2 i2 => q _ _ _ _ _ _ k2 E2 (S1.trans S2) ((r.same S2).append i2)⟩
  rcases c with ⟨_, c⟩ | ⟨_, c⟩
  · exact .inr (SqL.of (hid_le _ _ c))
  · exact .inl ((hK.1.trans G.K) ▸ sqt_same hid_le c)
def cAndV (ta tb : CE) : CE := fun ρ n k ke => ta ρ n (fun d ρ1 n1 => ∃ b, d = .bool b ∧ if b = true then tb ρ1 n1 k ke else k (.bool false) ρ1 n1) ke
def cOrV (ta tb : CE) : CE := fun ρ n k ke => ta ρ n (fun d ρ1 n1 => ∃ b, d = .bool b ∧ if b = true then k (.bool true) ρ1 n1 else tb ρ1 n1 k ke) ke
def cNotV (ta : CE) : CE := fun ρ n k ke => ta ρ n (fun d ρ1 n1 => ∃ b, d = .bool b ∧ k (.bool (!b)) ρ1 n1) ke
def cNeg (ta : CE) : CE := fun ρ n k ke => ta ρ n (fun d ρ1 n1 => ∃ i, d = .int i ∧ k (.int (-i)) ρ1 n1) ke
variable {a b : Expr} {rest : List Expr} {ta tb : CE} {ca cb : CT}
theorem pd_one {op} (h : PD X g xk a ta) : PD X g xk (.BoolOp op [a] pos) ta := ⟨pe_one h.pe⟩
theorem pd_and (ha : PD X g xk a ta) (hb : PD X g xk (.BoolOp .And (b :: rest) pos) tb) : PD X g xk (.BoolOp .And (a :: b :: rest) pos) (cAndV ta tb) := by
  refine ⟨PE.imp (pe_and ha.pe hb.pe) fun σ H Q r => ?_⟩
  obtain ⟨C, ρ, n, O, k, ke, hK, E, t, x, q⟩ := r
  refine ⟨C, ρ, n, O, _, ke, hK, E, t, x, fun d ρ1 n1 v H1 O1 k1 E1 S1 i1 => ?_⟩
  obtain ⟨b, rfl, k1⟩ := k1
  refine ⟨b, isBl i1, ?_⟩
  cases b with
  | true => exact ⟨C, ρ1, n1, O1, k, ke, hK, E1, k1, x, fun d ρ2 n2 v H2 O2 k2 E2 S2 i2 => q _ _ _ _ _ _ k2 E2 (S1.trans S2) i2⟩
  | false => exact q _ _ _ _ _ _ k1 E1 S1 (.bl false)
theorem pd_or (ha : PD X g xk a ta) (hb : PD X g xk (.BoolOp .Or (b :: rest) pos) tb) : PD X g xk (.BoolOp .Or (a :: b :: rest) pos) (cOrV ta tb) := by
  refine ⟨PE.imp (pe_or ha.pe hb.pe) fun σ H Q r => ?_⟩
  obtain ⟨C, ρ, n, O, k, ke, hK, E, t, x, q⟩ := r
  refine ⟨C, ρ, n, O, _, ke, hK, E, t, x, fun d ρ1 n1 v H1 O1 k1 E1 S1 i1 => ?_⟩
  obtain ⟨b, rfl, k1⟩ := k1
  refine ⟨b, isBl i1, ?_⟩
  cases b with
  | true => exact q _ _ _ _ _ _ k1 E1 S1 (.bl true)
  | false => exact ⟨C, ρ1, n1, O1, k, ke, hK, E1, k1, x, fun d ρ2 n2 v H2 O2 k2 E2 S2 i2 => q _ _ _ _ _ _ k2 E2 (S1.trans S2) i2⟩
theorem pd_not (ha : PD X g xk a ta) : PD X g xk (.UnaryOp .Not a pos) (cNotV ta) := by
  refine ⟨PE.imp (pe_not ha.pe) fun σ H Q r => ?_⟩
  obtain ⟨C, ρ, n, O, k, ke, hK, E, t, x, q⟩ := r
  refine ⟨C, ρ, n, O, _, ke, hK, E, t, x, fun d ρ1 n1 v H1 O1 k1 E1 S1 i1 => ?_⟩
  obtain ⟨b, rfl, k1⟩ := k1
  exact ⟨b, isBl i1, q _ _ _ _ _ _ k1 E1 S1 (.bl _)⟩
theorem pd_neg (ha : PD X g xk a ta) : PD X g xk (.UnaryOp .USub a pos) (cNeg ta) := by
  refine ⟨PE.imp (pe_un un_neg ha.pe) fun σ H Q r => ?_⟩
  obtain ⟨C, ρ, n, O, k, ke, hK, E, t, x, q⟩ := r
  refine ⟨C, ρ, n, O, _, ke, hK, E, t, x, fun d ρ1 n1 v H1 O1 k1 E1 S1 i1 => ?_⟩
  obtain ⟨i, rfl, k1⟩ := k1
  exact ⟨i, i1.int', q _ _ _ _ _ _ k1 E1 S1 (.int _)⟩
/-! tests of and, or -/
structure PDW (X : Cx) (g : Glob) (xk : WX) (e : Expr) (td : CT) : Prop where
  pw : PW X e (liftT g xk td)
theorem pw_imp {e : Expr} {t t' : TT} (h : PW X e t) (q : ∀ σ H Q, t' σ H Q → t σ H Q) : PW X e t' := ⟨fun wh pins s σ H Q I r => h.run wh pins s σ H Q I (q _ _ _ r)⟩
def cAndT (ta tb : CT) : CT := fun ρ n k ke => ta ρ n (fun b ρ1 n1 => if b = true then tb ρ1 n1 k ke else k false ρ1 n1) ke
def cOrT (ta tb : CT) : CT := fun ρ n k ke => ta ρ n (fun b ρ1 n1 => if b = true then k true ρ1 n1 else tb ρ1 n1 k ke) ke
theorem pdw_and1 (h : PDT X g xk a ca) : PDW X g xk (.BoolOp .And [a] pos) ca := ⟨pw_and1 h.pt⟩
theorem pdw_or1 (h : PDT X g xk a ca) : PDW X g xk (.BoolOp .Or [a] pos) ca := ⟨pw_or1 h.pt⟩
theorem pdw_and (ha : PDT X g xk a ca) (hb : PDW X g xk (.BoolOp .And (b :: rest) pos) cb) : PDW X g xk (.BoolOp .And (a :: b :: rest) pos) (cAndT ca cb) := by
  refine ⟨pw_imp (pw_and ha.pt hb.pw) fun σ H Q r => ?_⟩
  obtain ⟨C, ρ, n, O, k, ke, hK, E, t, x, q⟩ := r
  refine ⟨C, ρ, n, O, _, ke, hK, E, t, x, fun b ρ1 n1 H1 O1 k1 E1 S1 => ?_⟩
  cases b with
  | true => exact ⟨C, ρ1, n1, O1, k, ke, hK, E1, k1, x, fun d ρ2 n2 H2 O2 k2 E2 S2 => q _ _ _ _ _ k2 E2 (S1.trans S2)⟩
  | false => exact q _ _ _ _ _ k1 E1 S1
theorem pdw_or (ha : PDT X g xk a ca) (hb : PDW X g xk (.BoolOp .Or (b :: rest) pos) cb) : PDW X g xk (.BoolOp .Or (a :: b :: rest) pos) (cOrT ca cb) := by
  refine ⟨pw_imp (pw_or ha.pt hb.pw) fun σ H Q r => ?_⟩
  obtain ⟨C, ρ, n, O, k, ke, hK, E, t, x, q⟩ := r
  refine ⟨C, ρ, n, O, _, ke, hK, E, t, x, fun b ρ1 n1 H1 O1 k1 E1 S1 => ?_⟩
  cases b with
  | true => exact q _ _ _ _ _ k1 E1 S1
  | false => exact ⟨C, ρ1, n1, O1, k, ke, hK, E1, k1, x, fun d ρ2 n2 H2 O2 k2 E2 S2 => q _ _ _ _ _ k2 E2 (S1.trans S2)⟩
theorem PDW.pdt {e : Expr} (h : PDW X g xk e ca) : PDT X g xk e ca := ⟨h.pw.pt⟩
end
end RM
namespace RM
open PySem PySem.Spec PyProof.Rows L2 CS RZ
/-! ### short words for what is generated -/
theorem hu1 {k : Nat} {A : Around} (r : Room k A) : A.units + 1 < cLine := by have := r.un; omega
theorem hu64 {k : Nat} {A : Around} (r : Room k A) : A.units + 64 < cLine := by have := r.un; omega
theorem hu65 {k : Nat} {A : Around} (r : Room k A) : A.units + 65 < cLine := by have := r.un; omega
/-- the built-in names are what they are -/
structure Bl (mg : Str → Option Value) : Prop where
  len : mg "len" = none
  sum : mg "sum" = none
  all : mg "all" = none
  any : mg "any" = none
  min : mg "min" = none
  max : mg "max" = none
  sorted : mg "sorted" = none
  tuple : mg "tuple" = none
  list : mg "list" = none
  set : mg "set" = none
  dict : mg "dict" = none
  range : mg "range" = none
  zip : mg "zip" = none
  enumerate : mg "enumerate" = none
  isinstance : mg "isinstance" = none
  abs : mg "abs" = none
  int : mg "int" = none
  str : mg "str" = none
  repr : mg "repr" = none
  bool : mg "bool" = none
  ValueError : mg "ValueError" = none
  LookupError : mg "LookupError" = none
/-- a def of the module, by its name, and what it keeps -/
structure HasF (P : Program) (w : World) (K : PySem.W.Frag) (mg : Str → Option Value) (base : Heap) (CX : CXT) (g : Glob) (k : Nat) (x : Str) (ps : List Str) (sd : SpD) : Prop where
  ex : ∃ f fd, FnOk P w K mg base CX k f fd ps (spD g sd) ∧ Binds K fd ps [] ∧ PySem.W.keepIn K (.ref f) = true ∧ mg x = some (.ref f)
section
variable {P : Program} {w : World} {K : PySem.W.Frag} {mg : Str → Option Value} {base : Heap} {X : Cx} {g : Glob} {xk : WX} {pos : Pos} {CX : CXT} {k j : Nat} {x : Str} {ps : List Str} {sd : SpD}
theorem HasF.up (h : HasF P w K mg base CX g j x ps sd) (l : j ≤ k) : HasF P w K mg base CX g k x ps sd := let ⟨f, fd, a, b⟩ := h.ex; ⟨f, fd, a.mono l, b⟩
theorem pd_fun {p : Pos} {e : Expr} {es : List Expr} {ta : CA} (h : HasF X.prog X.w X.K X.mg X.base CX g j x ps sd) (hr : Room k X.A) (l : j ≤ k) (hg : Gl X x) (hx : ∀ σ, PassesAt CX X σ (WE xk σ)) (ha : PDA X g xk (e :: es) ta)
    (hdb : (x == ("__debug__" : Str)) = false := by decide) (he : starEach (e :: es) X.env = (false, eval e X.env) :: starEach es X.env := by rfl) (hpl : (backTo pos (starEach es X.env)).any (·.1) = false := by rfl) : PD X g xk (.Call (.Name x p) (e :: es) [] pos) (cCall sd ta) := by
  obtain ⟨f, fd, a, b, c, d⟩ := h.ex
  exact pd_call a (hr.mono l) hg d c b hx ha hdb he hpl
theorem pd_fun0 {p : Pos} (h : HasF X.prog X.w X.K X.mg X.base CX g j x ps sd) (hr : Room k X.A) (l : j ≤ k) (hg : Gl X x) (hx : ∀ σ, PassesAt CX X σ (WE xk σ)) (hdb : (x == ("__debug__" : Str)) = false := by decide) : PD X g xk (.Call (.Name x p) [] [] pos) (cCall sd cNil) := by
  obtain ⟨f, fd, a, b, c, d⟩ := h.ex
  exact pd_call0 a (hr.mono l) hg d c b hx hdb
end
end RM
namespace RM
open PySem PySem.Spec PyProof.Rows L2 CS RZ
/-! ### sorted of a dict whose keys are tuples -/
theorem keys_zs {H : Hp} : ∀ {kvs : List (List L2.Key × V)} {bs : List Addr}, L2.IsKeys H kvs bs → ∃ zs : List (V × D), zs.map Prod.fst = bs.map V.ref ∧ zs.map Prod.snd = kvs.map (fun kv => PyData.tuple (kv.1.map kD)) ∧ ∀ z ∈ zs, ∃ (b : Addr) (k : List L2.Key), z = (.ref b, .tuple (k.map kD)) ∧ H b = some (.tup (k.map kV))
  | [], [], _ => ⟨[], rfl, rfl, fun _ h => by cases h⟩
  | kv :: kvs, b :: bs, h => by
    cases h with
    | cons h t =>
      obtain ⟨zs, h1, h2, h3⟩ := keys_zs t
      refine ⟨(.ref b, .tuple (kv.1.map kD)) :: zs, by rw [List.map_cons, h1, List.map_cons], by rw [List.map_cons, h2, List.map_cons], fun z hz => ?_⟩
      rcases List.mem_cons.mp hz with rfl | hz
      · exact ⟨b, kv.1, rfl, h⟩
      · exact h3 z hz
  | [], _ :: _, h => nomatch h
  | _ :: _, [], h => nomatch h
theorem dp_keys {K : PySem.W.Frag} {H : Hp} : ∀ k : List L2.Key, DpAll K H (k.map kV) (k.map kD)
  | [] => .nil
  | .inl i :: r => .cons (.int i) (dp_keys r)
  | .inr i :: r => .cons (.str i) (dp_keys r)
def rSortedTk : List V → Hp → VK → Prop := fun vs H Q => ∃ (d : Addr) (kvs : List (List L2.Key × V)), vs = [.ref d] ∧ Rd H d (.dT kvs) ∧ PySem.W.AllAlike (kvs.map fun kv => PyData.tuple (kv.1.map kD)) ∧ PySem.W.Sortable (kvs.map fun kv => PyData.tuple (kv.1.map kD)) ∧
  (∀ kv ∈ kvs, (PyData.tuple (kv.1.map kD)).depth ≤ 60) ∧ ∀ (zs : List (V × D)) (p : Addr), zs.map Prod.snd = kvs.map (fun kv => PyData.tuple (kv.1.map kD)) → (∀ z ∈ zs, ∃ (b : Addr) (k : List L2.Key), z = (.ref b, .tuple (k.map kD)) ∧ H b = some (.tup (k.map kV))) →
    H p = none → Q (.ref p) (upd H p (.lst ((zs.mergeSort ordD).map Prod.fst)))
section
variable {X : Cx}
theorem cr_sortedTk (hc : X.calm = true) (hu : X.A.units + 64 < cLine) : CallR X (.builtin "sorted") rSortedTk := by
  intro pins s σ H xs us Q I r h
  obtain ⟨d, kvs, rfl, hd, hal, hso, hdp, q⟩ := h
  obtain ⟨u, rfl, rx⟩ := r.one
  cases rx
  obtain ⟨z, hs, ks, pr, o, es, ep, ho, hx, hdt, he, hn⟩ := (show ObjOk X.prog X.w H s.heap d (.dT kvs) from hd.ok I.hok)
  have l1 : es.size = ks.length := size_of_entries he
  have l2 : kvs.length = ks.length := Paired.length pr
  refine Calls.call_function_entry PyProof.Rows.kind_sorted PyProof.Rows.plain_sorted PyProof.Rows.entry_sorted (PyProof.Rows.args_sorted1 _) ?_
  unfold Builtin.«sorted»
  refine wpAny_bind (m := checkCount "sorted" 1 1 _) (wpAny_pure ?_)
  refine wpAny_bind (PySem.W.kdu_collect (A := X.A.in1) (kdl_raw hs hx hdt) (I.ok.hd hc) ho (by omega) fun h' tk acc' kp it => ?_)
  have ea : acc'.toList = ks.map fun x => Value.ref x.2.1 := by
    have hl : acc'.toList.length = ks.length := by rw [Array.length_toList, it.1]; exact l1
    apply List.ext_getElem?
    intro j
    rw [List.getElem?_map]
    cases hj : acc'.toList[j]? with
    | none =>
      have h1 := List.getElem?_eq_none_iff.mp hj
      rw [List.getElem?_eq_none (by omega)]
      all_goals rfl
    | some v =>
      obtain ⟨en, hen, hv⟩ := it.2 j v (by rw [← Array.getElem?_toList]; exact hj)
      have qe := entry_at he j
      rw [hen] at qe
      cases hb : ks[j]? with
      | none =>
        rw [hb] at qe
        exact nomatch (show some en = none from qe)
      | some b =>
        rw [hb] at qe
        have e2 : en = entryOfKey (tupleKind (mixKind X.prog X.w)) b := Option.some.inj qe
        rw [hv, e2]
        all_goals rfl
  obtain ⟨zs, z1, z2, z3⟩ := keys_zs (isKeys_of pr)
  have rv : Vals (zs.map Prod.fst) acc'.toList := by
    rw [z1, ea, show (ks.map fun x => Value.ref x.2.1) = (ks.map fun x => x.2.1).map Value.ref by rw [List.map_map]; rfl]
    exact vals_refs _
  have lz : zs.length = acc'.toList.length := by
    have := rv.length
    rw [List.length_map] at this
    exact this
  have hL : acc'.toList.length ≤ sizeLine := by rw [Array.length_toList, it.1]; omega
  have I1 : Inv X pins σ H { s with heap := h', toks := tk } := I.kept kp
  refine wpAny_bind (wpAny_newList ?_ hL)
  show wpAny _ _ _ _ _ { s with heap := h'.push (seqObj "list" acc'.toList.toArray 0), toks := tk }
  have hoL : (h'.push (seqObj "list" acc'.toList.toArray 0)).get? h'.objs.size = some (seqObj "list" acc'.toList.toArray 0) := Heap.get?_push_size _ rfl
  have e1 : PySem.W.EachIs (fun u (b : V × PyData) => RelV b.1 u) acc'.toList zs := each_of_vals (β := Unit) Prod.fst (fun b u h => h) rv
  have lift : ∀ {b : Addr} {ob : Obj}, h'.get? b = some ob → (PySem.W.sortingHeap (h'.push (seqObj "list" acc'.toList.toArray 0)) h'.objs.size acc'.toList).get? b = some ob := fun {b ob} e =>
    PySem.W.sortingHeap_old (Nat.ne_of_lt (Heap.lt_size e)) (Heap.get?_push_of_some _ e)
  have aux : ∀ (zs : List (V × PyData)) (its : List Value), (∀ z ∈ zs, Dp X.K H z.1 z.2) → PySem.W.EachIs (fun u (b : V × PyData) => RelV b.1 u) its zs → PySem.W.EachIs (fun u (b : V × PyData) => ∃ as, Reads (PySem.W.sortingHeap (h'.push (seqObj "list" acc'.toList.toArray 0)) h'.objs.size acc'.toList) u b.2 as) its zs := by
    intro zs
    induction zs with
    | nil =>
      intro its _ e
      cases e
      exact .nil
    | cons z zs ih =>
      intro its hd e
      cases e with
      | cons h t =>
        obtain ⟨as, r⟩ := Dp.reads I1 _ _ _ (hd z (List.mem_cons_self ..)) h
        exact .cons ⟨as, PyProof.Rows.Reads.keeps (fun _ _ => lift) r⟩ (ih _ (fun y hy => hd y (List.mem_cons_of_mem _ hy)) t)
  have er := aux zs acc'.toList (fun z hz => by
    obtain ⟨b, k, rfl, hb⟩ := z3 z hz
    exact .tup (.inl (.inl hb)) (dp_keys k)) e1
  have S := PySem.W.SortsAt.data (prog := X.prog) (w := X.w) (A := X.A.in1.in1) (s := { s with heap := PySem.W.sortingHeap (h'.push (seqObj "list" acc'.toList.toArray 0)) h'.objs.size acc'.toList, toks := tk }) (PySem.W.each_map (R := fun v d => ∃ as, Reads (PySem.W.sortingHeap (h'.push (seqObj "list" acc'.toList.toArray 0)) h'.objs.size acc'.toList) v d as) Prod.snd er)
    (by rw [z2]; exact hal) (by rw [z2]; exact hso) (PySem.W.bound_map (enc := Prod.snd) fun b hb => by
      have : b.2 ∈ kvs.map fun kv => PyData.tuple (kv.1.map kD) := by
        rw [← z2]
        exact List.mem_map_of_mem hb
      obtain ⟨kv, h1, h2⟩ := List.mem_map.mp this
      have := hdp kv h1
      rw [h2] at this
      have e3 : X.A.in1.in1.units = X.A.units + 2 := rfl
      rw [e3]
      omega)
  refine wpAny_bind (wpAny_holding (wpAny_call_entry slot_list_sort ⟨_, hoL, rfl⟩ entry_list_sort ?_ (args_list_sort _)))
  show wpAny (model X.prog X.w) X.A.in1.in1 (Builtin.«list.sort» ⟨[.ref h'.objs.size], []⟩) _ _ _
  refine PySem.W.list_sort_vals (s := { s with heap := h'.push (seqObj "list" acc'.toList.toArray 0), toks := tk }) hoL S hL ?_
  refine ⟨_, rfl, wpAny_pure ⟨_, rfl, ?_⟩⟩
  have eo := PySem.W.sortVals_data (enc := fun b : V × PyData => b.2) (R := fun u (b : V × PyData) => RelV b.1 u) false e1 er (by rw [z2]; exact hal)
  obtain ⟨e', he'⟩ := PyProof.Rows.sortedHeap_at (vs := acc'.toList) (out := (PySem.W.sortVals (PySem.W.dataKind (PySem.W.sortingHeap (h'.push (seqObj "list" acc'.toList.toArray 0)) h'.objs.size acc'.toList) (zs.map Prod.snd)) false acc'.toList acc'.toList).toArray) hoL
  have hlen : ((zs.mergeSort ordD).map Prod.fst).length ≤ sizeLine := by
    rw [List.length_map, List.length_mergeSort, lz]
    exact hL
  refine ⟨.ref h'.objs.size, upd H h'.objs.size (.lst ((zs.mergeSort ordD).map Prod.fst)), I1.laid (t' := tk) (fun b u e => ?_) (Nat.le_refl _)
    (show ObjOk X.prog X.w _ _ _ (.lst ((zs.mergeSort ordD).map Prod.fst)) from ⟨hlen, _, e', vals_of_each Prod.fst eo, he'⟩), rfl, q zs _ z2 z3 (I1.hok.fresh (Nat.le_refl _))⟩
  have hb : b < h'.objs.size := Heap.lt_size e
  rw [PyProof.Rows.sortedHeap_old (Nat.ne_of_lt hb) (by rw [size_push']; exact Nat.lt_succ_of_lt hb)]
  exact Heap.get?_push_of_some _ e
end
end RM
namespace RM
open PySem PySem.Spec PyProof.Rows L2 CS RZ
theorem isT_keys {T : Tab} {H : Hp} : ∀ {kvs : List (List L2.Key × V)} {ks : List (D × D)}, IsT T H kvs ks → kvs.map (fun kv => PyData.tuple (kv.1.map kD)) = ks.map Prod.fst
  | _, _, .nil => rfl
  | _, _, .cons _ r => by rw [List.map_cons, List.map_cons, isT_keys r]
theorem isL_kD {T : Tab} {H : Hp} : ∀ k : List L2.Key, IsL T H (k.map kV) (k.map kD)
  | [] => .nil
  | .inl i :: r => .cons (.int i) (isL_kD r)
  | .inr i :: r => .cons (.str i) (isL_kD r)
/-- sorted of a dict with tuple keys -/
def gSortT (d : D) (z : List D) : Prop := ∃ ks : List (D × D), d = .dict ((.none, .bool true) :: ks) ∧ PySem.W.AllAlike (ks.map Prod.fst) ∧ PySem.W.Sortable (ks.map Prod.fst) ∧ (∀ kv ∈ ks, kv.1.depth ≤ 60) ∧ z = (ks.map Prod.fst).mergeSort leD'
def cSortT (o : Opd) : CE := fun ρ n k ke => cOpd o ρ n (fun get ρ1 n1 => ∃ x z, get ρ1 = some x ∧ gSortT x z ∧ k (.list z) ρ1 n1) ke
section
variable {X : Cx} {g : Glob} {xk : WX} {pos : Pos}
theorem pf_sortT {p : Pos} {e : Expr} {o : Opd} (hc : X.calm = true) (hu : X.A.units + 64 < cLine) (hg : Gl X "sorted") (hm : X.mg "sorted" = none) (ha : PDQ X g xk e o)
    (hs : starEach [e] X.env = (false, eval e X.env) :: starEach [] X.env := by rfl) (hpl : (backTo pos (starEach [] X.env)).any (·.1) = false := by rfl) : PDF X g xk (.Call (.Name "sorted" p) [e] [] pos) (cSortT o) := by
  refine ⟨PE.imp (pe_callB (cr_sortedTk hc hu) hg hm (by decide +kernel) (pa_cons ha.pe pa_nil hs) (by decide) (by decide) hs hpl) fun σ H Q h => ?_⟩
  obtain ⟨C, ρ, n, O, k, ke, hK, E, t, x, q⟩ := h
  refine ⟨C, ρ, n, O, _, ke, hK, E, t, x, fun get ρ1 n1 v H1 O1 k1 E1 S1 p1 => ?_⟩
  obtain ⟨x0, z, h1, ⟨ks, rfl, g1, g2, g3, rfl⟩, k1⟩ := k1
  obtain ⟨a, kvs, rfl, ha', r⟩ := pk_dt hid_le (p1 _ _ _ _ _ E1 (Same.refl _) h1)
  have ek := isT_keys r
  refine ⟨a, kvs, rfl, ha', ek ▸ g1, ek ▸ g2, fun kv hkv => ?_, fun zs p z1 z2 np => q _ _ _ p H1 _ O1 k1 E1 S1 np (same_new np) (.lst upd_same ?_) rfl⟩
  · have : PyData.tuple (kv.1.map kD) ∈ ks.map Prod.fst := by
      rw [← ek]
      exact List.mem_map_of_mem (f := fun kv : List L2.Key × V => PyData.tuple (kv.1.map kD)) hkv
    obtain ⟨y, h1, h2⟩ := List.mem_map.mp this
    have := g3 y h1
    rw [h2] at this
    exact this
  · have h : (zs.mergeSort ordD).map Prod.snd = (ks.map Prod.fst).mergeSort leD' := by
      have h : (zs.mergeSort ordD).map Prod.snd = (zs.map Prod.snd).mergeSort leD' := List.map_mergeSort fun a _ b _ => rfl
      rw [h, z1, ek]
    rw [← h]
    refine isL_zip fun z hz => ?_
    obtain ⟨b, k, rfl, hb⟩ := z2 z ((List.mergeSort_perm _ _).mem_iff.mp hz)
    exact .tup (.inl (.inl (E1.tup hb))) (isL_kD k)
/-! sorted of a dict with keys of text -/
def cSortK (o : Opd) : CE := fun ρ n k ke => cOpd o ρ n (fun get ρ1 n1 => ∃ (ks : List (D × D)) (ss : List Str), get ρ1 = some (.dict ((.none, .bool false) :: ks)) ∧ ks.map Prod.fst = ss.map PyData.str ∧ ss.length < 64 ∧ ∀ ys : List Str, ys.Perm ss → sortedS ys = true → k (.list (ys.map PyData.str)) ρ1 n1) ke
theorem isK_keys {T : Tab} {H : Hp} : ∀ {kvs : List (L2.Key × V)} {ks : List (D × D)} {ss : List Str}, IsK T H kvs ks → ks.map Prod.fst = ss.map PyData.str → kvs.map (·.1) = ss.map Sum.inr
  | _, _, [], .nil, _ => rfl
  | _, _, _ :: _, .nil, h => by cases h
  | _, _, [], .cons _ _, h => by cases h
  | _, _, s :: ss, .cons (k := k) _ r, h => by
    rw [List.map_cons, List.map_cons] at h
    have h1 := (List.cons.inj h).1
    rw [List.map_cons, List.map_cons, isK_keys r (List.cons.inj h).2]
    cases k with
    | inl i => cases h1
    | inr z => cases h1; rfl
theorem isL_strs {T : Tab} {H : Hp} : ∀ ss : List Str, IsL T H (ss.map V.str) (ss.map PyData.str)
  | [] => .nil
  | s :: ss => .cons (.str s) (isL_strs ss)
theorem pf_sortK {p : Pos} {e : Expr} {o : Opd} (hc : X.calm = true) (hg : Gl X "sorted") (hm : X.mg "sorted" = none) (ha : PDQ X g xk e o)
    (hs : starEach [e] X.env = (false, eval e X.env) :: starEach [] X.env := by rfl) (hpl : (backTo pos (starEach [] X.env)).any (·.1) = false := by rfl) : PDF X g xk (.Call (.Name "sorted" p) [e] [] pos) (cSortK o) := by
  refine ⟨PE.imp (pe_callB (call_sortedD hc) hg hm (by decide +kernel) (pa_cons ha.pe pa_nil hs) (by decide) (by decide) hs hpl) fun σ H Q h => ?_⟩
  obtain ⟨C, ρ, n, O, k, ke, hK, E, t, x, q⟩ := h
  refine ⟨C, ρ, n, O, _, ke, hK, E, t, x, fun get ρ1 n1 v H1 O1 k1 E1 S1 p1 => ?_⟩
  obtain ⟨ks, ss, h1, g1, g2, k1⟩ := k1
  obtain ⟨a, kvs, rfl, ha', r⟩ := pk_dk hid_le (p1 _ _ _ _ _ E1 (Same.refl _) h1)
  exact ⟨a, kvs, ss, rfl, ha', isK_keys r g1, g2, fun ys p y1 y2 np => q _ _ _ p H1 _ O1 (k1 ys y1 y2) E1 S1 np (same_new np) (.lst upd_same (isL_strs ys)) rfl⟩
/-! ### a, b = x, y -/
def cPar (i j : Nat) (ta : CA) : CS := fun ρ n e => ta ρ n (fun ds ρ' n' => ∃ x y, ds = [x, y] ∧ e.nx ((ρ'.set i (some (Sl.v x))).set j (some (Sl.v y))) n') e.xc
theorem pds_par {i j : Nat} {x y : Str} {a b : Expr} {ta : CA} {px py pt : Pos} {kt k2 pt2} (hc : X.calm = true) (hN : X.N.Nodup) (hi : X.N[i]? = some x) (hj : X.N[j]? = some y) (hij : i ≠ j)
    (hx : X.env.scope.names.lookup x = some .local) (hy : X.env.scope.names.lookup y = some .local) (ha : PDA X g xk [a, b] ta)
    (hw : swappedStores [.Tuple [.Name x px, .Name y py] kt pt] (.Tuple [a, b] k2 pt2) X.env = pure (some [x, y]) := by rfl)
    (hs : swapsWithSole [.Tuple [.Name x px, .Name y py] kt pt] (.Tuple [a, b] k2 pt2) pos.line X.env = pure false := by rfl) :
    PDS X g xk (.Assign [.Tuple [.Name x px, .Name y py] kt pt] (.Tuple [a, b] k2 pt2) pos) (cPar i j ta) := by
  refine ⟨ps_imp (ps_par hc hN hi hj hij hx hy ha.pa hw hs) fun D σ H h => ?_⟩
  obtain ⟨C, ρ, n, O, e, hK, E, t, l⟩ := h
  refine ⟨C, ρ, n, O, _, _, hK, E, t, l.xc, fun ds ρ1 n1 vs H1 O1 k1 E1 S1 i1 => ?_⟩
  obtain ⟨x, y, rfl, k1⟩ := k1
  obtain ⟨v, u, rfl, iv, iu⟩ := i1.two
  refine ⟨v, u, rfl, ?_⟩
  obtain ⟨E2, S2⟩ := E1.set (i := i) iv
  obtain ⟨E3, S3⟩ := E2.set (i := j) (iu.same S2)
  exact l.nx _ _ _ _ _ k1 E3 ((S1.trans S2).trans S3)
/-- a, b = a new list, [] : both this frame's own -/
def cPar0 (i j : Nat) (t : CE) : CS := fun ρ n e => t ρ n (fun d ρ' n' => i < ρ'.length ∧ j < ρ'.length ∧ e.nx ((ρ'.set i (some (Sl.own d))).set j (some (Sl.own (.list [])))) n') e.xc
theorem pds_par0 {i j : Nat} {x y : Str} {a : Expr} {t : CE} {px py pt pn : Pos} {kt k2 pt2} (hc : X.calm = true) (hN : X.N.Nodup) (hi : X.N[i]? = some x) (hj : X.N[j]? = some y) (hij : i ≠ j)
    (hx : X.env.scope.names.lookup x = some .local) (hy : X.env.scope.names.lookup y = some .local) (ha : PDF X g xk a t)
    (hst : starEach [a, .List [] pn] X.env = (false, eval a X.env) :: starEach [.List [] pn] X.env := by rfl)
    (hw : swappedStores [.Tuple [.Name x px, .Name y py] kt pt] (.Tuple [a, .List [] pn] k2 pt2) X.env = pure (some [x, y]) := by rfl)
    (hs : swapsWithSole [.Tuple [.Name x px, .Name y py] kt pt] (.Tuple [a, .List [] pn] k2 pt2) pos.line X.env = pure false := by rfl) :
    PDS X g xk (.Assign [.Tuple [.Name x px, .Name y py] kt pt] (.Tuple [a, .List [] pn] k2 pt2) pos) (cPar0 i j t) := by
  refine ⟨ps_imp (ps_par hc hN hi hj hij hx hy (pa_cons ha.pe (pa_cons (pe_lst pa_nil) pa_nil) hst) hw hs) fun D σ H h => ?_⟩
  obtain ⟨C, ρ, n, O, e, hK, E, t, l⟩ := h
  refine ⟨C, ρ, n, O, _, _, hK, E, t, l.xc, fun d ρ1 n1 p H1 H' O1 k1 E1 S1 hp s ow no => ⟨Nat.zero_le _, fun p2 hp2 => ⟨.ref p, .ref p2, rfl, ?_⟩⟩⟩
  obtain ⟨E2, S2⟩ := E1.setOwn (i := i) k1.1 hp s ow no
  obtain ⟨E3, S3⟩ := E2.setOwn (i := j) (by rw [List.length_set]; exact k1.2.1) hp2 (same_new hp2) (.lst upd_same .nil) rfl
  exact l.nx _ _ _ _ _ k1.2.2 E3 ((S1.trans S2).trans S3)
/-! ### list of a text -/
def charsD (z : Str) : List D := z.cps.toList.map fun c => .str ⟨#[c]⟩
def gListS (ds : List D) (z : List D) : Prop := ∃ s, ds = [.str s] ∧ s.length ≤ lim ∧ z = charsD s
end
end RM
namespace RM
open PySem PySem.Spec PyProof.Rows L2 CS RZ
section
variable {X : Cx}
def signs (z : Str) : List Str := z.cps.toList.map fun c => ⟨#[c]⟩
theorem vals_signs : ∀ (l : List Nat) (us : List Value), us.length = l.length → (∀ (j : Nat) (u : Value), us[j]? = some u → ∃ (c : Nat) (t : Tok), l[j]? = some c ∧ u = Value.str ⟨#[c]⟩ t) → Vals (l.map fun c => V.str ⟨#[c]⟩) us
  | [], [], _, _ => .nil
  | [], _ :: _, h, _ => by cases h
  | _ :: _, [], h, _ => by cases h
  | c :: l, u :: us, h, q => by
    obtain ⟨c', t, e1, e2⟩ := q 0 u rfl
    cases e1
    refine .cons ⟨t, e2⟩ (vals_signs l us (Nat.succ.inj h) fun j v e => q (j + 1) v e)
theorem call_list_txt (hc : X.calm = true) : CallR X (.type "list") (fun xs H Q => ∃ z : Str, xs = [.str z] ∧ z.cps.size ≤ lim ∧ ∀ l, H l = none → Q (.ref l) (upd H l (.lst ((signs z).map V.str)))) := by
  intro pins s σ H xs us Q I r h
  obtain ⟨z, rfl, hz, q⟩ := h
  obtain ⟨u, rfl, rx⟩ := vals1 r
  obtain ⟨t, rfl⟩ := rx
  have hfit : z.cps.size ≤ sizeLine := lim_le hz
  refine call_list_str (I.ok.hd hc) z t (fun h' tk acc c' hk hS it => ?_) hfit
  have rv : Vals ((signs z).map V.str) acc.toList := by
    unfold signs
    rw [List.map_map]
    refine vals_signs z.cps.toList acc.toList (by rw [Array.length_toList, Array.length_toList]; exact it.1) fun j u e => ?_
    rw [Array.getElem?_toList] at e
    obtain ⟨c, u', e1, e2⟩ := it.2 j u e
    exact ⟨c, u', by rw [Array.getElem?_toList]; exact e1, e2⟩
  refine ⟨.ref s.heap.objs.size, _, I.laid (t' := tk) hk (Nat.le_refl _) (show ObjOk X.prog X.w _ h' _ (.lst _) from ⟨?_, acc.toList, c', rv, ?_⟩), rfl, q _ (I.hok.fresh (Nat.le_refl _))⟩
  · unfold signs
    rw [List.length_map, List.length_map, Array.length_toList]
    exact hfit
  · simpa using hS

theorem cf_listS (hc : X.calm = true) : CallF X (.type "list") gListS := by
  refine ⟨_, call_list_txt hc, fun T Hh H vs ds z Q hK s il hg q => ?_⟩
  obtain ⟨z, rfl, hl, rfl⟩ := hg
  obtain ⟨v, rfl, iv⟩ := il.one
  rw [iv.str']
  refine ⟨z, rfl, hl, q _ ?_⟩
  have : charsD z = (signs z).map PyData.str := by
    unfold charsD signs
    rw [List.map_map]
    rfl
  rw [this]
  exact isL_strs _
def gList' (ds : List D) (z : List D) : Prop := gList ds z ∨ gListS ds z
theorem cf_list' (hc : X.calm = true) : CallF X (.type "list") gList' := cf_list.or (cf_listS hc)
end
/-! ### draws -/
def sdTake : SpD := fun ds n k _ => ∃ m : Int, ds = [boxD, .int m] ∧ n ≤ 900000 ∧ 0 < m ∧ m < 2 ^ 200 ∧ ∀ r : Int, 0 ≤ r → r < m → k (.int r) (n + 1)
theorem Is.box' {T : Tab} {H : Hp} {v : V} (h : Is T H v boxD) : ∃ a, v = .ref a ∧ T.bx = some a := by
  unfold boxD at h
  cases h with
  | box h => exact ⟨_, rfl, h⟩
theorem take_imp {g : Glob} {vs : List V} {H : Hp} {Q : VK} {E : XK} (h : spD g sdTake vs H Q E) :
    ∃ (b : Addr) (n : Nat) (m : Int), vs = [.ref b, .int m] ∧ BoxAt H b n ∧ n ≤ 1000000 ∧ 0 < m ∧ m < 2 ^ 200 ∧ ∀ (H' : Hp) (r : Int), (∀ c o, c ≠ b → H c = some o → H' c = some o) → BoxAt H' b (n + 1) → 0 ≤ r → r < m → Q (.int r) H' := by
  obtain ⟨C, ds, n, k, ke, hK, e0, E0, i, ⟨m, rfl, hn, hm, hm2, s⟩, q, _⟩ := h
  obtain ⟨v, u, rfl, iv, iu⟩ := i.two
  obtain ⟨b, rfl, hb⟩ := iv.box'
  rw [iu.int']
  refine ⟨b, n, m, rfl, (E0.box b hb).2, by omega, hm, hm2, fun H' r kp bx h0 h1 => q _ _ _ _ (s r h0 h1) ⟨fun a o h nb => kp a o (fun z => nb (z ▸ hb)) (e0 ▸ h), fun b' hb' => ?_⟩ (.int r)⟩
  rw [hb] at hb'
  cases hb'
  exact bx
/-- one of some things -/
def sdOf : SpD := fun ds n k _ => ∃ (x : D) (l : List D), ds = [boxD, x] ∧ seqD x = some l ∧ n ≤ 900000 ∧ 0 < l.length ∧ l.length < 1000000 ∧ ∀ d ∈ l, k d (n + 1)
def cs_of : CS := cRet (cOp atD (cVar 1) (cCall sdTake (cCons (cVar 0) (cCons (cCB gLen (cCons (cVar 1) (cNil))) (cNil)))))
theorem atD_seq {x : D} {l : List D} {i : Int} (h : seqD x = some l) : atD x (.int i) = atI l i := by
  unfold seqD at h
  split at h <;> cases h <;> rfl
theorem lenD_seq {x : D} {l : List D} (h : seqD x = some l) : lenD x = some l.length := by
  unfold seqD at h
  split at h <;> cases h <;> rfl
theorem atI_in {α : Type} {l : List α} {i : Int} (h0 : 0 ≤ i) (h1 : i < l.length) : ∃ d ∈ l, atI l i = some d := by
  have hj : i.toNat < l.length := by omega
  refine ⟨l[i.toNat], List.getElem_mem hj, ?_⟩
  have := atI_nat (xs := l) (j := i.toNat) (List.getElem?_eq_getElem hj)
  rwa [Int.toNat_of_nonneg h0] at this
abbrev n_of : List Str := ["_law_box_here", "_law_some"]
theorem himp_of {e : EndsD} (ds : List D) (n : Nat) (k : D → Nat → Prop) (ke : Xv → Nat → Prop) (h : sdOf ds n k ke) (he : e.rt = k) : cs_of (startE n_of ds) n e := by
  obtain ⟨x, l, rfl, hs, hn, h0, h1, q⟩ := h
  refine ⟨_, ⟨x, l.length, rfl, lenD_seq hs, rfl⟩, (l.length : Int), rfl, hn, by omega, by omega, fun r r0 r1 => ?_⟩
  obtain ⟨d, hd, e1⟩ := atI_in r0 r1
  exact ⟨d, (atD_seq hs).trans e1, he ▸ q d hd⟩
/-- up to so many of some things, in any order -/
def sdPick : SpD := fun ds n k _ => ∃ (x : D) (l : List D) (m : Int), ds = [boxD, x, .int m] ∧ gList' [x] l ∧ n ≤ 800000 ∧ 0 ≤ m ∧ m ≤ 1000 ∧ l.length ≤ 1000 ∧
  ∀ (out rest : List D) (n' : Nat), (out ++ rest).Perm l → out.length = min m.toNat l.length → n' ≤ n + 1000 → k (.list out) n'
def cs_pick : CS := cSq (cPar0 4 5 (cCF gList' (cCons (cVar 1) (cNil)))) (cSq (cFor (cRange1 (cCons (cCB (fun ds z => gMin2 ds z ∨ gMin1 ds z) (cCons (cVar 2) (cCons (cCBQ gLen (.nm 4)) (cNil)))) (cNil))) (stN 3) (cDrop (cApp 5 (cMut 4 (cCons (cCall sdTake (cCons (cVar 0) (cCons (cCBQ gLen (.nm 4)) (cNil)))) (cNil)) uPopAt)))) (cRet (cVar 5)))
abbrev n_pick : List Str := ["_law_box_here", "_law_pool_so", "_law_many_so", "_law_turn", "_law_rest", "_law_found"]
theorem erase_perm {α : Type} : ∀ {l : List α} {i : Nat} (h : i < l.length), (l[i] :: l.eraseIdx i).Perm l
  | [], _, h => absurd h (Nat.not_lt_zero _)
  | _ :: _, 0, _ => List.Perm.refl _
  | x :: l, i + 1, h => (List.Perm.swap x _ _).trans ((erase_perm (l := l) (i := i) (Nat.lt_of_succ_lt_succ h)).cons x)
theorem pick_loop {e : EndsD} {b x m : D} : ∀ (turns : List D) (t0 : Option Sl) (rest found : List D) (n : Nat), turns.length ≤ rest.length → rest.length + found.length ≤ 1000 → n ≤ 900000 → turns.length ≤ 1000 → n + turns.length ≤ 900000 → b = boxD →
    (∀ (out rest' : List D) (t : Option Sl), (out ++ rest').Perm (found ++ rest) → out.length = found.length + turns.length → e.nx [some (.v b), some (.v x), some (.v m), t, some (.own (.list rest')), some (.own (.list out))] (n + turns.length)) →
    cForL (stN 3) (cDrop (cApp 5 (cMut 4 (cCons (cCall sdTake (cCons (cVar 0) (cCons (cCBQ gLen (.nm 4)) (cNil)))) (cNil)) uPopAt))) turns [some (.v b), some (.v x), some (.v m), t0, some (.own (.list rest)), some (.own (.list found))] n e
  | [], t0, rest, found, n, _, _, _, _, _, _, q => q found rest t0 (List.Perm.refl _) rfl
  | d :: ds, t0, rest, found, n, h1, h2, h3, h4, h5, hb, q => by
    rw [List.length_cons] at h1 h4 h5
    refine ⟨_, rfl, ⟨_, rfl⟩, ⟨_, rfl⟩, ?_⟩
    refine ⟨rfl, .list rest, .int (rest.length : Nat), rfl, ⟨.list rest, rest.length, rfl, rfl, rfl⟩, rfl, ?_⟩
    refine ⟨(rest.length : Int), by rw [hb], h3, by omega, by omega, fun r r0 r1 => ?_⟩
    have hj : r.toNat < rest.length := by omega
    have hu : uPopAt rest [.int r] = some (rest[r.toNat], rest.eraseIdx r.toNat) := by
      show (if 0 ≤ r ∧ r < 2 ^ 63 then (rest[r.toNat]?).map fun d => (d, rest.eraseIdx r.toNat) else none) = _
      rw [if_pos ⟨r0, by omega⟩, List.getElem?_eq_getElem hj]
      rfl
    refine ⟨rest, _, _, rfl, by unfold lim; omega, hu, found, rfl, by unfold lim; omega, ?_⟩
    have hl : (rest.eraseIdx r.toNat).length = rest.length - 1 := List.length_eraseIdx_of_lt hj
    show cForL _ _ ds [some (.v b), some (.v x), some (.v m), some (.v d), some (.own (.list (rest.eraseIdx r.toNat))), some (.own (.list (found ++ [rest[r.toNat]])))] (n + 1) e
    refine pick_loop ds _ _ _ _ (by omega) (by rw [List.length_append, List.length_singleton]; omega) (by omega) (by omega) (by omega) hb fun out rest' t hp hl2 => ?_
    have := q out rest' t (hp.trans ?_) (by rw [hl2, List.length_append, List.length_singleton, List.length_cons]; omega)
    · rw [List.length_cons] at this
      rw [show n + 1 + ds.length = n + (ds.length + 1) by omega]
      exact this
    · rw [List.append_assoc]
      exact List.Perm.append_left found (erase_perm hj)
theorem himp_pick {e : EndsD} (ds : List D) (n : Nat) (k : D → Nat → Prop) (ke : Xv → Nat → Prop) (h : sdPick ds n k ke) (he : e.rt = k) : cs_pick (startE n_pick ds) n e := by
  obtain ⟨x, l, m, rfl, hl, hn, m0, m1, l1, q⟩ := h
  refine ⟨l, hl, (by show 4 < 6; decide), (by show 5 < 6; decide), ?_⟩
  refine ⟨rfl, .list l, .int (l.length : Nat), rfl, ⟨.list l, l.length, rfl, rfl, rfl⟩, rfl, .int (if (l.length : Int) < m then (l.length : Int) else m), .inl ⟨m, (l.length : Nat), rfl, rfl⟩, ?_⟩
  have hm : 0 ≤ (if (l.length : Int) < m then (l.length : Int) else m) ∧ (if (l.length : Int) < m then (l.length : Int) else m) ≤ 1000 ∧ (if (l.length : Int) < m then (l.length : Int) else m).toNat = min m.toNat l.length := by
    split <;> omega
  refine ⟨_, rfl, ⟨by omega, by omega⟩, ?_⟩
  have hd : (rangeD 0 (if (l.length : Int) < m then (l.length : Int) else m).toNat).length = min m.toNat l.length := by
    unfold rangeD
    rw [List.length_map, List.length_range]
    exact hm.2.2
  refine pick_loop _ _ l [] n (by omega) (by rw [List.length_nil]; omega) (by omega) (by omega) (by omega) rfl fun out rest' t hp ho => ?_
  show e.rt (.list out) _
  rw [he]
  have h1 : out.length = min m.toNat l.length := by rw [ho, List.length_nil, hd]; omega
  have h2 : n + (rangeD 0 (if (l.length : Int) < m then (l.length : Int) else m).toNat).length ≤ n + 1000 := by rw [hd]; omega
  exact q out rest' _ hp h1 h2
end RM
namespace RM
open PySem PySem.Spec PyProof.Rows L2 CS RZ
/-! ### drawn places -/
def strD (ss : List Str) : List D := ss.map PyData.str
def unS : D → Str
  | .str s => s
  | _ => ⟨#[]⟩
def pool0 : List Str := ["a", "b", "c", "d", "e", "f", "g", "h"]
def pool1 : List Str := ["a", "ab", "abc", "b", "ba", "z", "zzzzzzzz", "y"]
def pool2 : List Str := ["hall", "hal", "desk", "shop", "yard", "gate", "inn", "ford"]
def tagPool : List Str := pool0 ++ pool1 ++ pool2
theorem strD_un {l : List D} {pl : List Str} (h : ∀ d ∈ l, d ∈ strD pl) : strD (l.map unS) = l := by
  unfold strD
  rw [List.map_map]
  refine (List.map_congr_left fun d hd => ?_).trans (List.map_id l)
  obtain ⟨s, _, rfl⟩ := List.mem_map.mp (h d hd)
  rfl
/-- what is picked of texts -/
theorem pick_strs {out rest : List D} {pl : List Str} (hp : (out ++ rest).Perm (strD pl)) (hn : pl.Nodup) : ∃ ss : List Str, out = strD ss ∧ ss.Nodup ∧ (∀ s ∈ ss, s ∈ pl) ∧ ss.length = out.length := by
  have hu : (strD pl).map unS = pl := by
    unfold strD
    rw [List.map_map]
    exact List.map_id' pl
  have hm := hp.map unS
  rw [hu, List.map_append] at hm
  refine ⟨out.map unS, (strD_un fun d hd => hp.mem_iff.mp (List.mem_append_left _ hd)).symm, (List.nodup_append.mp (hm.nodup_iff.mpr hn)).1, fun s hs => hm.mem_iff.mp (List.mem_append_left _ hs), List.length_map ..⟩
theorem pool0_chars : strD pool0 = charsD "abcdefgh" := by
  have h : pool0 = signs "abcdefgh" := by decide +kernel
  rw [h]
  unfold strD charsD signs
  rw [List.map_map]
  rfl
def sdTags : SpD := fun ds n k _ => ∃ m : Int, ds = [boxD, .int m] ∧ n ≤ 700000 ∧ 0 ≤ m ∧ m ≤ 8 ∧ ∀ (ss : List Str) (n' : Nat), ss.length = m.toNat → ss.Nodup → (∀ s ∈ ss, s ∈ tagPool) → n' ≤ n + 1001 → k (.list (strD ss)) n'
def cs_tags : CS := cSq (cSet 2 (cCall sdTake (cCons (cVar 0) (cCons (cC (.int 3)) (cNil))))) (cSq (cIfS (cB (cOp eqD (cVar 2) (cC (.int 0)))) (cRet (cCall sdPick (cCons (cVar 0) (cCons (cC (.str "abcdefgh")) (cCons (cVar 1) (cNil)))))) (cNext)) (cSq (cIfS (cB (cOp eqD (cVar 2) (cC (.int 1)))) (cRet (cCall sdPick (cCons (cVar 0) (cCons (cLst (cCons (cC (.str "a")) (cCons (cC (.str "ab")) (cCons (cC (.str "abc")) (cCons (cC (.str "b")) (cCons (cC (.str "ba")) (cCons (cC (.str "z")) (cCons (cC (.str "zzzzzzzz")) (cCons (cC (.str "y")) (cNil)))))))))) (cCons (cVar 1) (cNil)))))) (cNext)) (cRet (cCall sdPick (cCons (cVar 0) (cCons (cLst (cCons (cC (.str "hall")) (cCons (cC (.str "hal")) (cCons (cC (.str "desk")) (cCons (cC (.str "shop")) (cCons (cC (.str "yard")) (cCons (cC (.str "gate")) (cCons (cC (.str "inn")) (cCons (cC (.str "ford")) (cNil)))))))))) (cCons (cVar 1) (cNil))))))))
abbrev n_tags : List Str := ["_law_box_here", "_law_many_so", "_law_kind_so"]
theorem tag_pick {pl : List Str} {x : D} {m : Int} {n n0 : Nat} {k : D → Nat → Prop} {ke : Xv → Nat → Prop} (hg : gList' [x] (strD pl)) (hl : pl.length = 8) (hn : pl.Nodup) (hp : ∀ s ∈ pl, s ∈ tagPool) (h1 : n ≤ 700001) (m0 : 0 ≤ m) (m1 : m ≤ 8) (e0 : n ≤ n0 + 1)
    (q : ∀ (ss : List Str) (n' : Nat), ss.length = m.toNat → ss.Nodup → (∀ s ∈ ss, s ∈ tagPool) → n' ≤ n0 + 1001 → k (.list (strD ss)) n') : sdPick [boxD, x, .int m] n k ke := by
  refine ⟨x, strD pl, m, rfl, hg, by omega, m0, by omega, by unfold strD; rw [List.length_map]; omega, fun out rest n' hpm ho hn' => ?_⟩
  obtain ⟨ss, rfl, g1, g2, g3⟩ := pick_strs hpm hn
  refine q ss n' ?_ g1 (fun s hs => hp s (g2 s hs)) (by omega)
  rw [g3, ho]
  unfold strD
  rw [List.length_map]
  omega
theorem eqD_int (i j : Int) : eqD (.int i) (.int j) = some (.bool (i == j)) := rfl
theorem himp_tags {e : EndsD} (ds : List D) (n : Nat) (k : D → Nat → Prop) (ke : Xv → Nat → Prop) (h : sdTags ds n k ke) (he : e.rt = k) : cs_tags (startE n_tags ds) n e := by
  obtain ⟨m, rfl, hn, m0, m1, q⟩ := h
  subst he
  refine ⟨3, rfl, by omega, by decide, by decide, fun r r0 r1 => ?_⟩
  refine ⟨_, eqD_int r 0, _, rfl, ?_⟩
  dsimp only
  split
  · exact tag_pick (ke := fun _ _ => False) (pl := pool0) (.inr ⟨"abcdefgh", rfl, by decide, pool0_chars⟩) rfl (by decide +kernel) (fun s hs => List.mem_append_left _ (List.mem_append_left _ hs)) (by omega) m0 m1 (Nat.le_refl _) q
  · refine ⟨_, eqD_int r 1, _, rfl, ?_⟩
    dsimp only
    split
    · refine ⟨by show 8 ≤ lim; decide, ?_⟩
      exact tag_pick (ke := fun _ _ => False) (pl := pool1) (.inl ⟨_, rfl, rfl⟩) rfl (by decide +kernel) (fun s hs => List.mem_append_left _ (List.mem_append_right _ hs)) (by omega) m0 m1 (Nat.le_refl _) q
    · refine ⟨by show 8 ≤ lim; decide, ?_⟩
      exact tag_pick (ke := fun _ _ => False) (pl := pool2) (.inl ⟨_, rfl, rfl⟩) rfl (by decide +kernel) (fun s hs => List.mem_append_right _ hs) (by omega) m0 m1 (Nat.le_refl _) q
end RM
namespace RM
open PySem PySem.Spec PyProof.Rows L2 CS RZ
/-! ### drawn steps -/
def triD (t : Str × Str × Int) : D := .tuple [.str t.1, .str t.2.1, .int t.2.2]
def trisD (l : List (Str × Str × Int)) : List D := l.map triD
def sdStrewn : SpD := fun ds n k _ => ∃ (ss : List Str) (most high : Int), ds = [boxD, .list (strD ss), .int most, .int high] ∧ ss.Nodup ∧ 2 ≤ ss.length ∧ ss.length ≤ 8 ∧ n ≤ 600000 ∧ 0 ≤ most ∧ most ≤ 20 ∧ 0 ≤ high ∧ high < 2 ^ 199 ∧
  ∀ (l : List (Str × Str × Int)) (n' : Nat), l.length ≤ most.toNat → (∀ t ∈ l, t.1 ∈ ss ∧ t.2.1 ∈ ss ∧ t.1 ≠ t.2.1 ∧ 0 ≤ t.2.2 ∧ t.2.2 ≤ high) → n' ≤ n + 30000 → k (.tuple (trisD l)) n'
def cs_strewn : CS := cSq (cOwn 4 (cLst (cNil))) (cSq (cFor (cRange1 (cCons (cCall sdTake (cCons (cVar 0) (cCons (cOp addD (cVar 2) (cC (.int 1))) (cNil)))) (cNil))) (stN 5) (cSq (cSet 6 (cCall sdPick (cCons (cVar 0) (cCons (cVar 1) (cCons (cC (.int 2)) (cNil)))))) (cDrop (cApp 4 (cTup (cCons (cOp atD (cVar 6) (cC (.int 0))) (cCons (cOp atD (cVar 6) (cC (.int 1))) (cCons (cCall sdTake (cCons (cVar 0) (cCons (cOp addD (cVar 3) (cC (.int 1))) (cNil)))) (cNil))))))))) (cRet (cCB gTuple (cCons (cVar 4) (cNil)))))
abbrev n_strewn : List Str := ["_law_box_here", "_law_tags_here", "_law_most_so", "_law_high_so", "_law_found", "_law_turn", "_law_near"]
theorem strewn_loop {e : EndsD} {ss : List Str} {most high : Int} (hn : ss.Nodup) (h2 : 2 ≤ ss.length) (h8 : ss.length ≤ 8) (g0 : 0 ≤ high) (g1 : high < 2 ^ 199) : ∀ (turns : List D) (t0 t1 : Option Sl) (found : List (Str × Str × Int)) (n : Nat), n + 1001 * turns.length ≤ 700000 → turns.length + found.length ≤ 20 →
    (∀ t ∈ found, t.1 ∈ ss ∧ t.2.1 ∈ ss ∧ t.1 ≠ t.2.1 ∧ 0 ≤ t.2.2 ∧ t.2.2 ≤ high) →
    (∀ (l : List (Str × Str × Int)) (t t' : Option Sl) (n' : Nat), l.length = found.length + turns.length → (∀ t ∈ l, t.1 ∈ ss ∧ t.2.1 ∈ ss ∧ t.1 ≠ t.2.1 ∧ 0 ≤ t.2.2 ∧ t.2.2 ≤ high) → n' ≤ n + 1001 * turns.length → e.nx [some (.v boxD), some (.v (.list (strD ss))), some (.v (.int most)), some (.v (.int high)), some (.own (.list (trisD l))), t, t'] n') →
    cForL (stN 5) (cSq (cSet 6 (cCall sdPick (cCons (cVar 0) (cCons (cVar 1) (cCons (cC (.int 2)) (cNil)))))) (cDrop (cApp 4 (cTup (cCons (cOp atD (cVar 6) (cC (.int 0))) (cCons (cOp atD (cVar 6) (cC (.int 1))) (cCons (cCall sdTake (cCons (cVar 0) (cCons (cOp addD (cVar 3) (cC (.int 1))) (cNil)))) (cNil)))))))) turns [some (.v boxD), some (.v (.list (strD ss))), some (.v (.int most)), some (.v (.int high)), some (.own (.list (trisD found))), t0, t1] n e
  | [], t0, t1, found, n, _, _, hf, q => q found t0 t1 n rfl hf (by simp)
  | d :: ds, t0, t1, found, n, h1, h3, hf, q => by
    rw [List.length_cons] at h1 h3
    refine ⟨_, rfl, ?_⟩
    refine ⟨.list (strD ss), strD ss, 2, rfl, .inl ⟨_, rfl, rfl⟩, by omega, by decide, by decide, by unfold strD; rw [List.length_map]; omega, fun out rest n' hp ho hn' => ?_⟩
    obtain ⟨ps, rfl, p1, p2, p3⟩ := pick_strs hp hn
    have l2 : ps.length = 2 := by
      rw [p3, ho]
      unfold strD
      rw [List.length_map]
      show min 2 ss.length = 2
      omega
    obtain ⟨a, b, rfl⟩ : ∃ a b, ps = [a, b] := by
      match ps, l2 with
      | [a, b], _ => exact ⟨a, b, rfl⟩
    have hab : a ≠ b := by
      intro z
      subst z
      simp at p1
    refine ⟨⟨_, rfl⟩, .str a, rfl, .str b, rfl, ?_⟩
    refine ⟨.int (high + 1), rfl, high + 1, rfl, by omega, by omega, by omega, fun r r0 r1 => ?_⟩
    refine ⟨by show 3 ≤ lim; decide, trisD found, rfl, by unfold trisD lim; rw [List.length_map]; omega, ?_⟩
    have e1 : trisD found ++ [.tuple [.str a, .str b, .int r]] = trisD (found ++ [(a, b, r)]) := by
      unfold trisD
      rw [List.map_append]
      rfl
    show cForL _ _ ds [some (.v boxD), some (.v (.list (strD ss))), some (.v (.int most)), some (.v (.int high)), some (.own (.list (trisD found ++ [.tuple [.str a, .str b, .int r]]))), some (.v d), some (.v (.list (strD [a, b])))] (n' + 1) e
    rw [e1]
    refine strewn_loop hn h2 h8 g0 g1 ds _ _ _ _ (by omega) (by rw [List.length_append, List.length_singleton]; omega) (fun t ht => ?_) fun l t t' n2 hl hq hn2 => q l t t' n2 (by rw [hl, List.length_append, List.length_singleton, List.length_cons]; omega) hq (by rw [List.length_cons]; omega)
    rcases List.mem_append.mp ht with ht | ht
    · exact hf t ht
    · rw [List.mem_singleton.mp ht]
      exact ⟨p2 a (by simp), p2 b (by simp), hab, r0, by show r ≤ high; omega⟩
theorem himp_strewn {e : EndsD} (ds : List D) (n : Nat) (k : D → Nat → Prop) (ke : Xv → Nat → Prop) (h : sdStrewn ds n k ke) (he : e.rt = k) : cs_strewn (startE n_strewn ds) n e := by
  obtain ⟨ss, most, high, rfl, hn, h2, h8, hN, m0, m1, g0, g1, q⟩ := h
  subst he
  refine ⟨by show 0 ≤ lim; decide, by show 4 < 7; decide, ?_⟩
  refine ⟨_, rfl, most + 1, rfl, by omega, by omega, by omega, fun r r0 r1 => ?_⟩
  refine ⟨r, rfl, ⟨by omega, by omega⟩, ?_⟩
  have hd : (rangeD 0 r.toNat).length = r.toNat := by
    unfold rangeD
    rw [List.length_map, List.length_range]
  refine strewn_loop hn h2 h8 g0 g1 _ none none [] (n + 1) (by omega) (by rw [hd, List.length_nil]; omega) (fun _ h => by cases h) fun l t t' n' hl hq hn' => ?_
  rw [hd, List.length_nil] at hl
  refine ⟨.tuple (trisD l), ⟨.list (trisD l), trisD l, rfl, rfl, rfl⟩, q l n' (by omega) hq (by rw [hd] at hn'; omega)⟩
end RM
namespace RM
open PySem PySem.Spec PyProof.Rows L2 CS RZ
/-! ### a comprehension over a list that this frame alone knows -/
def cLcLO (cg : CG) (tt : CT) (te : CE) (vs : List Nat) (i : Nat) (d0 : List D) : List D → En → Nat → List D → (List D → En → Nat → Prop) → Prop
  | [], ρ, n, acc, k => ownL ρ i d0 ∧ k acc ρ n
  | d :: ds, ρ, n, acc, k => ownL ρ i d0 ∧ ∃ ρ1, cg d ρ = some ρ1 ∧ tt ρ1 n (fun b ρ2 n2 => if b = true then te ρ2 n2 (fun y ρ3 n3 => acc.length < lim ∧ cLcLO cg tt te vs i d0 ds (wipeE ρ3 vs) n3 (acc ++ [y]) k) kF
      else cLcLO cg tt te vs i d0 ds (wipeE ρ2 vs) n2 acc k) kF
def cLcO (i : Nat) (cg : CG) (tt : CT) (te : CE) (vs : List Nat) : CE := fun ρ n k ke => ∃ d0, ownL ρ i d0 ∧ cLcLO cg tt te vs i d0 d0 (wipeE ρ vs) n [] (fun acc ρ2 n2 => k (.list acc) ρ2 n2)
section
variable {X : Cx} {g : Glob} {xk : WX} {pos : Pos}
theorem cLcLO_own {cg : CG} {tt : CT} {te : CE} {vs : List Nat} {i : Nat} {d0 : List D} {ds : List D} {ρ : En} {n : Nat} {acc : List D} {k : List D → En → Nat → Prop} (h : cLcLO cg tt te vs i d0 ds ρ n acc k) : ownL ρ i d0 := by
  cases ds with
  | nil => exact h.1
  | cons d ds => exact h.1
theorem wipe_wp {σ σ4 : L2.St} {js vs : List Nat} (A : AgreeOff js (wipe σ vs) σ4) (hj : ∀ j ∈ js, j ∈ vs) : wipe σ4 vs = wipe σ vs := (wipe_agree (σ := wipe σ vs) A hj).trans wipe_again
theorem lcO_use {i : Nat} {cg : CG} {js vs : List Nat} {tt : CT} {te : CE} (G : Good X g) (hj : ∀ j ∈ js, j ∈ vs) {σ : L2.St} {H : Hp} {Q : VK} (r : liftF g xk (cLcO i cg tt te vs) σ H Q) : tLc (iList X.K (tVar i)) (liftG g js cg) (liftT g xF tt) (lift g xF te) vs σ H Q := by
  obtain ⟨C, ρ, n, O, k, ke, hK, E, ⟨d0, own0, t⟩, x, q⟩ := r
  have eK := hK.1.trans G.K
  obtain ⟨p, us, hp, hs, hl, il⟩ := own_list E own0
  refine ⟨.ref p, hs, p, rfl, ⟨us, SqL.of hl⟩, ?_⟩
  intro Da nD
  obtain ⟨f1, f2, f3, f4⟩ := E.fresh nD
  have pD : p ≠ Da := fun z => f2 i (hp.trans (congrArg some z))
  have at_p : ∀ {ρ2 : En} {n2 : Nat} {H2 : Hp} {O2 : Ow}, Ev C ρ2 n2 (wipe σ vs) (out H2 Da) O2 → ownL ρ2 i d0 → ∃ xs, H2 p = some (.lst xs) ∧ IsL C.T (hid C O2 (out H2 Da)) xs d0 := fun {ρ2 n2 H2 O2} E2 o2 => by
    obtain ⟨p2, xs, g1, g2, g3, g4⟩ := own_list E2 o2
    have := (wipe_some g2).1
    rw [hs] at this
    cases this
    rw [out_ne pD] at g3
    exact ⟨xs, g3, g4⟩
  have WK : Walk (Itl X.K p) d0.length (fun H => ∃ xs, SqL X.K H p xs ∧ xs.length = d0.length) (fun i H x H' => H' = H ∧ ∀ xs, SqL X.K H p xs → xs[i]? = some x) :=
    ⟨fun j H hj h => let ⟨xs, a, b⟩ := h; ⟨xs, xs[j]'(b ▸ hj), a, List.getElem?_eq_getElem _⟩, fun H h => let ⟨xs, a, b⟩ := h; ⟨xs, a, Nat.le_of_eq b⟩, fun _ _ _ _ _ _ y => y⟩
  refine lc_it WK (fun j H2 => ∃ (ρ2 : En) (n2 : Nat) (O2 : Ow) (acc : List D) (accV : List V), Ev C ρ2 n2 (wipe σ vs) (out H2 Da) O2 ∧ H2 Da = some (.lst accV) ∧ IsL C.T (hid C O2 (out H2 Da)) accV acc ∧
    cLcLO cg tt te vs i d0 (d0.drop j) ρ2 n2 acc (fun acc ρ2 n2 => k (.list acc) ρ2 n2) ∧ Same (hid C O H) (hid C O2 (out H2 Da))) ?_ ?_ ?_ ?_
  · refine ⟨_, n, _, [], [], (by rw [out_new nD]; exact E.wipes vs), upd_same, .nil, t, ?_⟩
    rw [out_new nD]
    exact hid_cuts vs
  · rintro j H2 _ ⟨ρ2, n2, O2, acc, accV, E2, eD, iA, c2, S2⟩
    obtain ⟨xs, h1, h2⟩ := at_p E2 (cLcLO_own c2)
    exact ⟨xs, SqL.of h1, h2.length⟩
  · rintro j x0 H2 H3 hj' ⟨ρ2, n2, O2, acc, accV, E2, eD, iA, c2, S2⟩ ⟨rfl, y⟩
    obtain ⟨xs, h1, h2⟩ := at_p E2 (cLcLO_own c2)
    have hd : d0.drop j = d0[j] :: d0.drop (j + 1) := List.drop_eq_getElem_cons hj'
    rw [hd] at c2
    obtain ⟨_, ρ3, e3, c3⟩ := c2
    have E4 := E2.hide eD
    obtain ⟨x1, e1, ix⟩ := h2.get (List.getElem?_eq_getElem hj')
    rw [y xs (SqL.of h1)] at e1
    cases e1
    rw [← hid_plus (o := .lst accV)] at ix
    refine ⟨C.plus Da (.lst accV), ρ2, ρ3, n2, O2, d0[j], hK, E4, ix, e3, fun σ4 O4 E6 S7 A4 => ⟨wipe_wp A4 hj, ?_⟩⟩
    have wp := wipe_wp A4 hj
    refine ⟨C.plus Da (.lst accV), ρ3, n2, O4, _, kF, hK, E6, c3, xl_F, fun b ρ5 n5 H5 O5 c5 E7 S8 => ?_⟩
    cases b with
    | false =>
      show ∃ _, _
      obtain ⟨E8, eD8⟩ := E7.unhide f1 f4 f3
      have E9 := E8.wipes vs
      rw [wp] at E9
      have S10 := S7.trans S8
      rw [hid_plus, hid_plus] at S10
      exact ⟨_, _, _, acc, accV, E9, eD8, (iA.same S10).same (hid_cuts vs), c5, (S2.trans S10).trans (hid_cuts vs)⟩
    | true =>
      refine ⟨C.plus Da (.lst accV), ρ5, n5, O5, _, kF, hK, E7, c5, xl_F, fun yd ρ6 n6 yv H6 O6 c6 E8 S9 iy => ?_⟩
      obtain ⟨E9, eD9⟩ := E8.unhide f1 f4 f3
      refine ⟨accV, eD9, by rw [iA.length]; exact lim_lt c6.1, ?_⟩
      have E10 := E9.wipes vs
      rw [wp] at E10
      have S10 := (S7.trans S8).trans S9
      rw [hid_plus, hid_plus] at S10
      rw [hid_plus] at iy
      refine ⟨_, _, cutOs O6 vs, acc ++ [yd], accV ++ [yv], ?_, upd_same, ?_, c6.2, ?_⟩
      · rw [out_upd]
        exact E10
      · rw [out_upd]
        exact ((iA.same S10).append (.cons iy .nil)).same (hid_cuts vs)
      · rw [out_upd]
        exact (S2.trans S10).trans (hid_cuts vs)
  · rintro H2 ⟨ρ2, n2, O2, acc, accV, E2, eD, iA, c2, S2⟩
    rw [List.drop_length] at c2
    exact q _ _ _ _ _ _ _ c2.2 E2.unwipe S2 out_same out_le (.lst eD iA) rfl
theorem pf_lcO (i : Nat) {y : Str} {py : Pos} {elt tg : Expr} {ifs : List Expr} {scope : Scope} {own : List (Str × Nat)} {cg : CG} {js : List Nat} {tt : CT} {te : CE} (hc : X.calm = true) (hN : X.N.Nodup) (G : Good X g) (ok : BlkOk X.N X.env.scope scope own)
    (hg : ∀ (s : Shared) (H : Hp) (C : Addr) (cl : List (Str × Addr)) (fp : List Addr), PDG (X.blk s H scope (compEnvC scope cl C X.env) fp) g js tg cg) (ht : ∀ (s : Shared) (H : Hp) (C : Addr) (cl : List (Str × Addr)) (fp : List Addr), PDTs (X.blk s H scope (compEnvC scope cl C X.env) fp) g xF ifs tt)
    (he : ∀ (s : Shared) (H : Hp) (C : Addr) (cl : List (Str × Addr)) (fp : List Addr), PD (X.blk s H scope (compEnvC scope cl C X.env) fp) g xF elt te) (hj : ∀ j ∈ js, j ∈ own.map (·.2) := by decide) (hi : X.N[i]? = some y := by rfl) (hv : Vis X.env.scope y := by first | exact Or.inl rfl | exact Or.inr (Or.inl rfl) | exact Or.inr (Or.inr rfl))
    (hd : (y == ("__debug__" : Str)) = false := by decide) (hcd : (y == ("__classdict__" : Str)) = false := by decide) (hs : ∀ x, foldedSetIterable (.Name y py) X.env x = pure x := by intro _; rfl) :
    PDF X g xk (.ListComp elt [⟨tg, .Name y py, ifs, 0⟩] scope pos) (cLcO i cg tt te (own.map (·.2))) :=
  ⟨PE.imp (pe_lc hc hN (pi_list (pe_var hi hv hd hcd)) ok (fun s H C cl fp => (hg s H C cl fp).pg) (fun s H C cl fp => (ht s H C cl fp).pts) (fun s H C cl fp => (he s H C cl fp).pe) hs) fun σ H Q r => lcO_use G hj r⟩
end
end RM
namespace RM
open PySem PySem.Spec PyProof.Rows L2 CS RZ
/-! ### triples added up -/
abbrev Tri := Str × Str × Int
def pr (t : Tri) : Str × Str := (t.1, t.2.1)
def sumAt (l : List Tri) (p : Str × Str) : Int := ((l.filter fun t => pr t = p).map fun t => t.2.2).sum
def putOne (acc : List (Str × Str)) (p : Str × Str) : List (Str × Str) := if p ∈ acc then acc else acc ++ [p]
def firsts (l : List (Str × Str)) : List (Str × Str) := l.foldl putOne []
theorem firsts_snoc (l : List (Str × Str)) (p : Str × Str) : firsts (l ++ [p]) = putOne (firsts l) p := by
  unfold firsts
  rw [List.foldl_append]
  rfl
theorem mem_putOne {acc : List (Str × Str)} {p q : Str × Str} : q ∈ putOne acc p ↔ q ∈ acc ∨ q = p := by
  unfold putOne
  split
  · rename_i h
    constructor
    · exact .inl
    · rintro (h2 | rfl)
      · exact h2
      · exact h
  · rw [List.mem_append, List.mem_singleton]
theorem nodup_putOne {acc : List (Str × Str)} {p : Str × Str} (h : acc.Nodup) : (putOne acc p).Nodup := by
  unfold putOne
  split
  · exact h
  · rename_i c
    rw [List.nodup_append]
    refine ⟨h, by simp, fun a ha b hb => ?_⟩
    rw [List.mem_singleton] at hb
    subst hb
    exact fun z => c (z ▸ ha)
theorem foldl_put : ∀ (l acc : List (Str × Str)), (∀ q, q ∈ l.foldl putOne acc ↔ q ∈ acc ∨ q ∈ l) ∧ (acc.Nodup → (l.foldl putOne acc).Nodup)
  | [], acc => ⟨fun q => by simp, fun h => h⟩
  | p :: l, acc => by
    obtain ⟨h1, h2⟩ := foldl_put l (putOne acc p)
    refine ⟨fun q => ?_, fun h => h2 (nodup_putOne h)⟩
    rw [List.foldl_cons, h1, mem_putOne, List.mem_cons, or_assoc]
theorem mem_firsts {l : List (Str × Str)} {q : Str × Str} : q ∈ firsts l ↔ q ∈ l := by
  unfold firsts
  rw [(foldl_put l []).1 q]
  simp
theorem nodup_firsts (l : List (Str × Str)) : (firsts l).Nodup := (foldl_put l []).2 List.nodup_nil
theorem sumAt_snoc (l : List Tri) (t : Tri) (q : Str × Str) : sumAt (l ++ [t]) q = sumAt l q + (if pr t = q then t.2.2 else 0) := by
  unfold sumAt
  rw [List.filter_append, List.map_append, List.sum_append]
  congr 1
  by_cases h : pr t = q
  · rw [if_pos h, List.filter_cons_of_pos (by simpa using h)]
    simp
  · rw [if_neg h, List.filter_cons_of_neg (by simpa using h)]
    rfl
theorem sumAt_none {l : List Tri} {q : Str × Str} (h : q ∉ l.map pr) : sumAt l q = 0 := by
  unfold sumAt
  rw [List.filter_eq_nil_iff.mpr]
  · rfl
  · intro t ht
    simp only [decide_eq_true_eq]
    exact fun z => h (z ▸ List.mem_map_of_mem ht)
/-- what is counted: the pairs ascend, their numbers added, without 0 -/
def canon (l : List Tri) : List Tri := (((firsts (l.map pr)).mergeSort leP).filter fun p => 0 < sumAt l p).map fun p => (p.1, p.2, sumAt l p)
/-! the dict -/
def tabD (l : List Tri) : List (D × D) := (firsts (l.map pr)).map fun p => (tx p, PyData.int (sumAt l p))
theorem tx_eqv (p q : Str × Str) : PyData.eqv (tx p) (tx q) = decide (p = q) := by
  obtain ⟨a, b⟩ := p
  obtain ⟨c, d⟩ := q
  show PyData.eqv (.tuple [.str a, .str b]) (.tuple [.str c, .str d]) = _
  have : PyData.eqv (.tuple [.str a, .str b]) (.tuple [.str c, .str d]) = (PyData.eqv (.str a) (.str c) && (PyData.eqv (.str b) (.str d) && true)) := by simp [PyData.eqv, PyData.eqvAll]
  rw [this, RM.eqv_str, RM.eqv_str, Bool.and_true]
  by_cases h1 : a = c
  · by_cases h2 : b = d
    · simp [h1, h2]
    · simp [h2]
  · simp [h1]
theorem find_tx (f : Str × Str → D) (q : Str × Str) : ∀ ps : List (Str × Str), ((ps.map fun p => (tx p, f p)).find? fun kv => PyData.eqv kv.1 (tx q)) = if q ∈ ps then some (tx q, f q) else none
  | [] => rfl
  | p :: ps => by
    rw [List.map_cons, List.find?_cons, tx_eqv]
    by_cases h : p = q
    · subst h
      simp
    · rw [decide_eq_false h, find_tx f q ps]
      simp only [List.mem_cons]
      by_cases h2 : q ∈ ps
      · simp [h2]
      · simp [h2, Ne.symm h]
theorem look_tab (l : List Tri) (p : Str × Str) : lookD (.dict ((.none, .bool true) :: tabD l)) (.tuple [.str p.1, .str p.2]) = some (if p ∈ l.map pr then some (.int (sumAt l p)) else none) := by
  show (if ([PyData.str p.1, PyData.str p.2].all flatK) = true then some (keyD (tabD l) (.tuple [.str p.1, .str p.2])) else none) = _
  rw [if_pos (show ([PyData.str p.1, PyData.str p.2].all flatK) = true from rfl)]
  unfold keyD tabD
  rw [show (PyData.tuple [.str p.1, .str p.2]) = tx p from rfl, find_tx (fun p => .int (sumAt l p)) p]
  by_cases h : p ∈ l.map pr
  · rw [if_pos (mem_firsts.mpr h), if_pos h]
    rfl
  · rw [if_neg fun z => h (mem_firsts.mp z), if_neg h]
    rfl
theorem any_tx (f : Str × Str → D) (q : Str × Str) (ps : List (Str × Str)) : ((ps.map fun p => (tx p, f p)).any fun kv => PyData.eqv kv.1 (tx q)) = decide (q ∈ ps) := by
  rw [List.any_map]
  induction ps with
  | nil => rfl
  | cons p ps ih =>
    rw [List.any_cons, ih]
    show (PyData.eqv (tx p) (tx q) || _) = _
    rw [tx_eqv]
    by_cases h : p = q
    · subst h
      simp
    · simp [h, Ne.symm h]
theorem put_tab (l : List Tri) (t : Tri) (h : (firsts (l.map pr)).length < lim) : putD (.dict ((.none, .bool true) :: tabD l)) (.tuple [.str t.1, .str t.2.1]) (.int (sumAt l (pr t) + t.2.2)) = some (.dict ((.none, .bool true) :: tabD (l ++ [t]))) := by
  have hl : (tabD l).length < lim := by
    unfold tabD
    rw [List.length_map]
    exact h
  show (if ([PyData.str t.1, PyData.str t.2.1].all flatK) = true ∧ (tabD l).length < lim then some (PyData.dict ((.none, .bool true) :: putKD (tabD l) (.tuple [.str t.1, .str t.2.1]) (.int (sumAt l (pr t) + t.2.2)))) else none) = _
  rw [if_pos ⟨rfl, hl⟩]
  congr 3
  rw [show (PyData.tuple [.str t.1, .str t.2.1]) = tx (pr t) from rfl]
  unfold putKD tabD
  rw [any_tx (fun p => .int (sumAt l p)), List.map_append, List.map_cons, List.map_nil, firsts_snoc]
  unfold putOne
  by_cases c : pr t ∈ firsts (l.map pr)
  · rw [decide_eq_true c, if_pos rfl, if_pos c, List.map_map]
    refine List.map_congr_left fun q hq => ?_
    show (if PyData.eqv (tx q) (tx (pr t)) = true then (tx q, _) else (tx q, _)) = _
    rw [tx_eqv, sumAt_snoc]
    by_cases e : q = pr t
    · subst e
      simp
    · simp [e, Ne.symm e]
  · rw [decide_eq_false c, if_neg (by simp), if_neg c, List.map_append, List.map_cons, List.map_nil]
    congr 1
    · refine List.map_congr_left fun q hq => ?_
      have hne : ¬ pr t = q := fun z => c (z ▸ hq)
      rw [sumAt_snoc, if_neg hne, Int.add_zero]
    · rw [sumAt_snoc, if_pos rfl]
end RM
namespace RM
open PySem PySem.Spec PyProof.Rows L2 CS RZ
/-! ### a comprehension whose turns leave the frame as it is -/
theorem lcL_run {cg : CG} {tt : CT} {te : CE} {vs : List Nat} {ρ0 : En} {n : Nat} (f : D → Option D) {k : List D → En → Nat → Prop} : ∀ (ds acc : List D), (∀ d ∈ ds, ∃ ρ1, cg d ρ0 = some ρ1 ∧ wipeE ρ1 vs = ρ0 ∧ (∀ K1 : Bool → En → Nat → Prop, K1 (f d).isSome ρ1 n → tt ρ1 n K1 kF) ∧ ∀ y, f d = some y → ∀ K2 : D → En → Nat → Prop, K2 y ρ1 n → te ρ1 n K2 kF) →
    acc.length + ds.length ≤ lim → k (acc ++ ds.filterMap f) ρ0 n → cLcL cg tt te vs ds ρ0 n acc k
  | [], acc, _, _, q => by simpa [cLcL] using q
  | d :: ds, acc, h, hl, q => by
    obtain ⟨ρ1, h1, h2, h3, h4⟩ := h d (List.mem_cons_self ..)
    rw [List.length_cons] at hl
    refine ⟨ρ1, h1, h3 _ ?_⟩
    cases e : f d with
    | none =>
      show cLcL cg tt te vs ds (wipeE ρ1 vs) n acc k
      rw [h2]
      refine lcL_run f ds acc (fun z hz => h z (List.mem_cons_of_mem _ hz)) (by omega) ?_
      rw [List.filterMap_cons, e] at q
      exact q
    | some y =>
      show te ρ1 n _ kF
      refine h4 y e _ ⟨by omega, ?_⟩
      rw [h2]
      refine lcL_run f ds (acc ++ [y]) (fun z hz => h z (List.mem_cons_of_mem _ hz)) (by rw [List.length_append, List.length_singleton]; omega) ?_
      rw [List.filterMap_cons, e] at q
      rw [List.append_assoc]
      exact q
theorem lcLO_run {cg : CG} {tt : CT} {te : CE} {vs : List Nat} {ρ0 : En} {n i : Nat} {d0 : List D} (ho : ownL ρ0 i d0) (f : D → Option D) {k : List D → En → Nat → Prop} : ∀ (ds acc : List D), (∀ d ∈ ds, ∃ ρ1, cg d ρ0 = some ρ1 ∧ wipeE ρ1 vs = ρ0 ∧ (∀ K1 : Bool → En → Nat → Prop, K1 (f d).isSome ρ1 n → tt ρ1 n K1 kF) ∧ ∀ y, f d = some y → ∀ K2 : D → En → Nat → Prop, K2 y ρ1 n → te ρ1 n K2 kF) →
    acc.length + ds.length ≤ lim → k (acc ++ ds.filterMap f) ρ0 n → cLcLO cg tt te vs i d0 ds ρ0 n acc k
  | [], acc, _, _, q => ⟨ho, by simpa using q⟩
  | d :: ds, acc, h, hl, q => by
    obtain ⟨ρ1, h1, h2, h3, h4⟩ := h d (List.mem_cons_self ..)
    rw [List.length_cons] at hl
    refine ⟨ho, ρ1, h1, h3 _ ?_⟩
    cases e : f d with
    | none =>
      show cLcLO cg tt te vs i d0 ds (wipeE ρ1 vs) n acc k
      rw [h2]
      refine lcLO_run ho f ds acc (fun z hz => h z (List.mem_cons_of_mem _ hz)) (by omega) ?_
      rw [List.filterMap_cons, e] at q
      exact q
    | some y =>
      show te ρ1 n _ kF
      refine h4 y e _ ⟨by omega, ?_⟩
      rw [h2]
      refine lcLO_run ho f ds (acc ++ [y]) (fun z hz => h z (List.mem_cons_of_mem _ hz)) (by rw [List.length_append, List.length_singleton]; omega) ?_
      rw [List.filterMap_cons, e] at q
      rw [List.append_assoc]
      exact q
/-- rows of a triple each, lists or tuples -/
def RowsAre (rows : List D) (l : List Tri) : Prop := rows.map seqD = l.map fun t => some [PyData.str t.1, .str t.2.1, .int t.2.2]
theorem rowsAre_tris (l : List Tri) : RowsAre (trisD l) l := by
  unfold RowsAre trisD
  rw [List.map_map]
  rfl
def sdAdded : SpD := fun ds n k _ => ∃ (x : D) (rows : List D) (l : List Tri), ds = [x] ∧ seqD x = some rows ∧ RowsAre rows l ∧ l.length ≤ 1000 ∧ k (.tuple (trisD (canon l))) n
abbrev bd_added : CS := cDPut 1 (cKeyT (cCons (cVar 2) (cCons (cVar 3) (cNil)))) (cOp addD (cDGet2 (.nm 1) (cKeyT (cCons (cVar 2) (cCons (cVar 3) (cNil)))) (cC (.int 0))) (cVar 4))
def cs_added : CS := cSq (cOwn 1 (cDNew true)) (cSq (cFor (cSeq (cVar 0)) (stT (stCons (stN 2) (stCons (stN 3) (stCons (stN 4) (stNil))))) (cDPut 1 (cKeyT (cCons (cVar 2) (cCons (cVar 3) (cNil)))) (cOp addD (cDGet2 (.nm 1) (cKeyT (cCons (cVar 2) (cCons (cVar 3) (cNil)))) (cC (.int 0))) (cVar 4)))) (cRet (cCB gTuple (cCons (cLc (cSeq (cSortT (.nm 1))) (stT (stCons (stN 2) (stCons (stN 3) (stNil)))) (cB (cOp gtD (cDGet (.nm 1) (cKeyT (cCons (cVar 2) (cCons (cVar 3) (cNil))))) (cC (.int 0)))) (cTup (cCons (cVar 2) (cCons (cVar 3) (cCons (cDGet (.nm 1) (cKeyT (cCons (cVar 2) (cCons (cVar 3) (cNil))))) (cNil))))) [2, 3]) (cNil)))))
abbrev n_added : List Str := ["steps", "many", "one", "other", "number"]
theorem firsts_len (l : List (Str × Str)) : (firsts l).length ≤ l.length := by
  have : ∀ (l acc : List (Str × Str)), (l.foldl putOne acc).length ≤ acc.length + l.length := by
    intro l
    induction l with
    | nil => intro acc; simp
    | cons p l ih =>
      intro acc
      rw [List.foldl_cons, List.length_cons]
      have h1 := ih (putOne acc p)
      have h2 : (putOne acc p).length ≤ acc.length + 1 := by
        unfold putOne
        split
        · omega
        · rw [List.length_append, List.length_singleton]
          exact Nat.le_refl _
      omega
  have := this l []
  unfold firsts
  simpa using this
theorem added_loop {e : EndsD} {x : D} {n : Nat} : ∀ (rows : List D) (ts l : List Tri) (t2 t3 t4 : Option Sl), RowsAre rows ts → l.length + ts.length ≤ 1000 → (∀ (t2 t3 t4 : Option Sl), e.nx [some (.v x), some (.own (.dict ((.none, .bool true) :: tabD (l ++ ts)))), t2, t3, t4] n) →
    cForL (stT (stCons (stN 2) (stCons (stN 3) (stCons (stN 4) (stNil))))) bd_added rows [some (.v x), some (.own (.dict ((.none, .bool true) :: tabD l))), t2, t3, t4] n e
  | [], ts, l, t2, t3, t4, h, _, q => by
    cases ts with
    | nil =>
      rw [List.append_nil] at q
      exact q t2 t3 t4
    | cons => cases h
  | d :: rows, ts, l, t2, t3, t4, h, hl, q => by
    cases ts with
    | nil => cases h
    | cons t ts =>
      have h1 := (List.cons.inj h).1
      have h2 := (List.cons.inj h).2
      rw [List.length_cons] at hl
      have hf : (firsts (l.map pr)).length < lim := by
        have := firsts_len (l.map pr)
        rw [List.length_map] at this
        unfold lim
        omega
      have hg : (if pr t ∈ l.map pr then some (PyData.int (sumAt l (pr t))) else none).getD (.int 0) = .int (sumAt l (pr t)) := by
        split
        · rfl
        · rename_i c
          rw [sumAt_none c]
          rfl
      refine ⟨[some (.v x), some (.own (.dict ((.none, .bool true) :: tabD l))), some (.v (.str t.1)), some (.v (.str t.2.1)), some (.v (.int t.2.2))], by unfold stT; rw [h1]; rfl, ?_⟩
      refine ⟨rfl, ⟨_, rfl, rfl⟩, rfl, by show 2 ≤ lim; decide, _, _, rfl, look_tab l (pr t), ?_⟩
      refine ⟨.int (sumAt l (pr t) + t.2.2), by rw [hg]; rfl, ⟨_, rfl⟩, rfl, by show 2 ≤ lim; decide, _, _, rfl, put_tab l t hf, ?_⟩
      refine added_loop rows ts (l ++ [t]) _ _ _ h2 (by rw [List.length_append, List.length_singleton]; omega) fun t2 t3 t4 => ?_
      rw [List.append_assoc]
      exact q t2 t3 t4
theorem keys_tab (l : List Tri) : (tabD l).map Prod.fst = (firsts (l.map pr)).map tx := by
  unfold tabD
  rw [List.map_map]
  rfl
theorem sort_tx' (l : List (Str × Str)) : (l.map tx).mergeSort leD' = (l.mergeSort leP).map tx := (List.map_mergeSort (f := tx) fun a _ b _ => rfl).symm
def pickT (l : List Tri) : D → Option D
  | .tuple [.str a, .str b] => if 0 < sumAt l (a, b) then some (triD (a, b, sumAt l (a, b))) else none
  | _ => none
theorem pickT_tx (l : List Tri) (p : Str × Str) : pickT l (tx p) = if 0 < sumAt l p then some (triD (p.1, p.2, sumAt l p)) else none := rfl
theorem pickT_all (l : List Tri) : ∀ ps : List (Str × Str), (ps.map tx).filterMap (pickT l) = ((ps.filter fun p => 0 < sumAt l p).map fun p => (p.1, p.2, sumAt l p)).map triD
  | [] => rfl
  | p :: ps => by
    rw [List.map_cons, List.filterMap_cons, pickT_tx, List.filter_cons, pickT_all l ps]
    by_cases c : 0 < sumAt l p
    · rw [if_pos c, if_pos (decide_eq_true c)]
      rfl
    · rw [if_neg c, if_neg (by simpa using c)]
theorem himp_added {e : EndsD} (ds : List D) (n : Nat) (k : D → Nat → Prop) (ke : Xv → Nat → Prop) (h : sdAdded ds n k ke) (he : e.rt = k) : cs_added (startE n_added ds) n e := by
  obtain ⟨x, rows, l, rfl, hx, hr, hl, q⟩ := h
  subst he
  refine ⟨by show 1 < 5; decide, rows, hx, ?_⟩
  refine added_loop rows l [] none none none hr (by simpa using hl) fun t2 t3 t4 => ?_
  rw [List.nil_append]
  have hk := keys_tab l
  have hlen : (tabD l).length ≤ 1000 := by
    unfold tabD
    rw [List.length_map]
    have := firsts_len (l.map pr)
    rw [List.length_map] at this
    omega
  refine ⟨rfl, _, _, rfl, ⟨tabD l, rfl, by rw [hk]; exact tx_alike _, by rw [hk]; exact tx_sortable _, fun kv hkv => ?_, rfl⟩, ?_⟩
  · have : kv.1 ∈ (tabD l).map Prod.fst := List.mem_map_of_mem hkv
    rw [hk] at this
    obtain ⟨p, _, hp⟩ := List.mem_map.mp this
    rw [← hp]
    exact tx_depth p
  refine ⟨_, rfl, ?_⟩
  rw [hk, sort_tx']
  show cLcL _ _ _ _ _ [some (.v x), some (.own (.dict ((.none, .bool true) :: tabD l))), none, none, t4] n [] _
  refine lcL_run (pickT l) _ [] (fun d hd => ?_) ?_ ?_
  · obtain ⟨p, hp, rfl⟩ := List.mem_map.mp hd
    have hin : p ∈ l.map pr := mem_firsts.mp ((List.mergeSort_perm _ _).mem_iff.mp hp)
    have lk := look_tab l p
    rw [if_pos hin] at lk
    refine ⟨[some (.v x), some (.own (.dict ((.none, .bool true) :: tabD l))), some (.v (.str p.1)), some (.v (.str p.2)), t4], rfl, rfl, fun K1 hK => ?_, fun y hy K2 hK => ?_⟩
    · refine ⟨rfl, rfl, by show 2 ≤ lim; decide, _, _, rfl, lk, _, rfl, _, rfl, ?_⟩
      have : (pickT l (tx p)).isSome = decide (0 < sumAt l p) := by
        rw [pickT_tx]
        split
        · rename_i c
          exact (decide_eq_true c).symm
        · rename_i c
          exact (decide_eq_false c).symm
      rw [this] at hK
      exact hK
    · refine ⟨rfl, rfl, by show 2 ≤ lim; decide, _, _, rfl, lk, by show 3 ≤ lim; decide, ?_⟩
      rw [pickT_tx] at hy
      rw [← (ifs hy).2] at hK
      exact hK
  · rw [List.length_map, List.length_mergeSort, List.length_nil]
    have := firsts_len (l.map pr)
    rw [List.length_map] at this
    unfold lim
    omega
  · show ∃ z, gTuple [.list ([] ++ (((firsts (l.map pr)).mergeSort leP).map tx).filterMap (pickT l))] z ∧ e.rt z n
    rw [List.nil_append, pickT_all]
    exact ⟨_, ⟨_, _, rfl, rfl, rfl⟩, q⟩
end RM
namespace RM
open PySem PySem.Spec PyProof.Rows L2 CS RZ
/-! ### what may be compared, by depth -/
def OkN (k : Nat) (d : D) : Prop := plain d = true ∧ d.canLay0 = true ∧ d.depth ≤ k
theorem OkN.ok {k : Nat} {d : D} (h : OkN k d) (hk : k ≤ 64) : okE d = true := by
  unfold okE SeqAt.shaped
  rw [h.1, h.2.1, decide_eq_true (Nat.le_trans h.2.2 hk)]
  rfl
theorem OkN.all {k : Nat} : ∀ {ds : List D}, (∀ d ∈ ds, OkN k d) → plains ds = true ∧ PyData.canLayAll0 ds = true ∧ PyData.depthAll ds ≤ k
  | [], _ => ⟨rfl, by simp [PyData.canLayAll0], by simp [PyData.depthAll]⟩
  | d :: ds, h => by
    obtain ⟨a1, a2, a3⟩ := h d (List.mem_cons_self ..)
    obtain ⟨b1, b2, b3⟩ := OkN.all (ds := ds) fun z hz => h z (List.mem_cons_of_mem _ hz)
    refine ⟨by unfold plains; rw [a1, b1]; rfl, by simp only [PyData.canLayAll0]; rw [a2, b2]; rfl, ?_⟩
    simp only [PyData.depthAll]
    omega
theorem OkN.tuple {k : Nat} {ds : List D} (h : ∀ d ∈ ds, OkN k d) : OkN (k + 1) (.tuple ds) := by
  obtain ⟨b1, b2, b3⟩ := OkN.all h
  exact ⟨by unfold plain; exact b1, by simp only [PyData.canLay0]; exact b2, by simp only [PyData.depth]; omega⟩
theorem OkN.list {k : Nat} {ds : List D} (h : ∀ d ∈ ds, OkN k d) : OkN (k + 1) (.list ds) := by
  obtain ⟨b1, b2, b3⟩ := OkN.all h
  exact ⟨by unfold plain; exact b1, by simp only [PyData.canLay0]; exact b2, by simp only [PyData.depth]; omega⟩
theorem OkN.int (k : Nat) (i : Int) : OkN k (.int i) := ⟨rfl, by simp [PyData.canLay0], by simp [PyData.depth]⟩
def GoodS (s : Str) : Prop := (PyData.str s).canLay0 = true
theorem OkN.str (k : Nat) {s : Str} (h : GoodS s) : OkN k (.str s) := ⟨rfl, h, by simp [PyData.depth]⟩
def GoodP (p : Str × Str) : Prop := GoodS p.1 ∧ GoodS p.2
theorem OkN.tx {p : Str × Str} (h : GoodP p) : OkN 1 (tx p) := OkN.tuple fun d hd => by
  rcases List.mem_cons.mp hd with rfl | hd
  · exact .str 0 h.1
  · rw [List.mem_singleton.mp hd]
    exact .str 0 h.2
theorem tag_good : ∀ s ∈ tagPool, GoodS s := by
  intro s hs
  have : ∀ s ∈ tagPool, (PyData.str s).canLay0 = true := by decide +kernel
  exact this s hs
/-! ### by this law's own sums -/
def sdSummed : SpD := fun ds n k _ => ∃ (x : D) (l : List Tri), ds = [x] ∧ seqD x = some (trisD l) ∧ (∀ t ∈ l, GoodP (pr t)) ∧ l.length ≤ 1000 ∧ k (.tuple (trisD (canon l))) n
abbrev bd_summed : CS := cSq (cSet 3 (cCB gSum (cCons (cLc (cSeq (cVar 0)) (stN 4) (cB (cOp eqD (cSl (cVar 4) (cNo) (cPart (cC (.int 2)))) (cVar 2))) (cOp atD (cVar 4) (cC (.int 2))) [4]) (cNil)))) (cIfS (cAndT (cB (cOp gtD (cVar 3) (cC (.int 0)))) (cB (cOp ninD (cVar 2) (cLcO 1 (stN 4) (cYes) (cSl (cVar 4) (cNo) (cPart (cC (.int 2)))) [4])))) (cDrop (cApp 1 (cOp addD (cVar 2) (cTup (cCons (cVar 3) (cNil)))))) (cNext))
def cs_summed : CS := cSq (cOwn 1 (cLst (cNil))) (cSq (cFor (cSeq (cCF gSorted (cCons (cLc (cSeq (cVar 0)) (stN 4) (cYes) (cSl (cVar 4) (cNo) (cPart (cC (.int 2)))) [4]) (cNil)))) (stN 2) (cSq (cSet 3 (cCB gSum (cCons (cLc (cSeq (cVar 0)) (stN 4) (cB (cOp eqD (cSl (cVar 4) (cNo) (cPart (cC (.int 2)))) (cVar 2))) (cOp atD (cVar 4) (cC (.int 2))) [4]) (cNil)))) (cIfS (cAndT (cB (cOp gtD (cVar 3) (cC (.int 0)))) (cB (cOp ninD (cVar 2) (cLcO 1 (stN 4) (cYes) (cSl (cVar 4) (cNo) (cPart (cC (.int 2)))) [4])))) (cDrop (cApp 1 (cOp addD (cVar 2) (cTup (cCons (cVar 3) (cNil)))))) (cNext)))) (cRet (cCB gTuple (cCons (cVar 1) (cNil)))))
abbrev n_summed : List Str := ["_law_rows_so", "_law_found", "_law_own", "_law_many_so", "_law_bit"]
def cut2 : D → Option D
  | .tuple [a, b, _] => some (.tuple [a, b])
  | _ => none
theorem cut2_all (l : List Tri) : (trisD l).filterMap cut2 = (l.map pr).map tx := by
  unfold trisD
  rw [List.filterMap_map, List.map_map]
  induction l with
  | nil => rfl
  | cons t l ih =>
    rw [List.filterMap_cons, List.map_cons, ← ih]
    rfl
def takeC (p : Str × Str) : D → Option D
  | .tuple [a, b, c] => if PyData.eqv (.tuple [a, b]) (tx p) = true then some c else none
  | _ => none
theorem takeC_all (p : Str × Str) : ∀ l : List Tri, (trisD l).filterMap (takeC p) = intsD ((l.filter fun t => pr t = p).map fun t => t.2.2)
  | [] => rfl
  | t :: l => by
    have h : takeC p (triD t) = if pr t = p then some (.int t.2.2) else none := by
      show (if PyData.eqv (tx (pr t)) (tx p) = true then some _ else none) = _
      rw [tx_eqv]
      by_cases c : pr t = p
      · rw [if_pos (decide_eq_true c), if_pos c]
      · rw [if_neg (by simpa using c), if_neg c]
    have ih := takeC_all p l
    unfold trisD intsD at ih ⊢
    rw [List.map_cons, List.filterMap_cons, h, List.filter_cons, ih]
    by_cases c : pr t = p
    · rw [if_pos c, if_pos (decide_eq_true c)]
      rfl
    · rw [if_neg c, if_neg (by simpa using c)]
/-- the pairs so far that count -/
def fnd (l : List Tri) (ps : List (Str × Str)) : List Tri := ((firsts ps).filter fun p => 0 < sumAt l p).map fun p => (p.1, p.2, sumAt l p)
theorem fnd_pr (l : List Tri) (ps : List (Str × Str)) : (fnd l ps).map pr = (firsts ps).filter fun p => 0 < sumAt l p := by
  unfold fnd
  rw [List.map_map]
  exact List.map_id' _
theorem anyD_tx (ps : List (Str × Str)) (p : Str × Str) : anyD (ps.map tx) (tx p) = decide (p ∈ ps) := by
  unfold anyD
  rw [List.any_map]
  induction ps with
  | nil => rfl
  | cons q ps ih =>
    rw [List.any_cons, ih]
    show (PyData.eqv (tx q) (tx p) || _) = _
    rw [tx_eqv]
    by_cases h : q = p
    · subst h
      simp
    · simp [h, Ne.symm h]
theorem summed_loop {e : EndsD} {x : D} {l : List Tri} {n : Nat} (hx : seqD x = some (trisD l)) (hg : ∀ t ∈ l, GoodP (pr t)) (hl : l.length ≤ 1000) : ∀ (qs ps : List (Str × Str)) (t2 t3 : Option Sl), ps.length + qs.length ≤ 1000 → (∀ p ∈ ps ++ qs, GoodP p) →
    (∀ (t2 t3 : Option Sl), e.nx [some (.v x), some (.own (.list (trisD (fnd l (ps ++ qs))))), t2, t3, none] n) →
    cForL (stN 2) bd_summed (qs.map tx) [some (.v x), some (.own (.list (trisD (fnd l ps)))), t2, t3, none] n e
  | [], ps, t2, t3, _, _, q => by
    rw [List.append_nil] at q
    exact q t2 t3
  | p :: qs, ps, t2, t3, h1, h2, q => by
    rw [List.length_cons] at h1
    have gp : GoodP p := h2 p (by simp)
    have lt : (trisD l).length = l.length := by unfold trisD; rw [List.length_map]
    refine ⟨_, rfl, trisD l, hx, ?_⟩
    show cLcL _ _ _ _ _ [some (.v x), some (.own (.list (trisD (fnd l ps)))), some (.v (tx p)), t3, none] n [] _
    refine lcL_run (takeC p) _ [] (fun d hd => ?_) (by rw [lt, List.length_nil]; unfold lim; omega) ?_
    · obtain ⟨t, ht, rfl⟩ := List.mem_map.mp hd
      have e1 : eqD (tx (pr t)) (tx p) = some (.bool (PyData.eqv (tx (pr t)) (tx p))) := by
        unfold eqD
        rw [(OkN.tx (hg t ht)).ok (by decide), (OkN.tx gp).ok (by decide)]
        rfl
      refine ⟨_, rfl, rfl, fun K1 hK => ⟨2, rfl, tx (pr t), rfl, _, e1, _, rfl, ?_⟩, fun y hy K2 hK => ⟨_, rfl, ?_⟩⟩
      · have : (takeC p (triD t)).isSome = PyData.eqv (tx (pr t)) (tx p) := by
          show (if PyData.eqv (tx (pr t)) (tx p) = true then some _ else none).isSome = _
          cases PyData.eqv (tx (pr t)) (tx p) <;> rfl
        rw [← this]
        exact hK
      · have hy2 : (if PyData.eqv (tx (pr t)) (tx p) = true then some (PyData.int t.2.2) else none) = some y := hy
        rw [(ifs hy2).2]
        exact hK
    · show ∃ z, gSum [.list ([] ++ (trisD l).filterMap (takeC p))] z ∧ _
      rw [List.nil_append, takeC_all]
      refine ⟨.int (sumAt l p), ⟨_, rfl, rfl⟩, ?_⟩
      refine ⟨.bool (decide (0 < sumAt l p)), rfl, _, rfl, ?_⟩
      have hap : ps ++ p :: qs = (ps ++ [p]) ++ qs := by rw [List.append_assoc]; rfl
      have next : ∀ (t3 : Option Sl), cForL (stN 2) bd_summed (qs.map tx) [some (.v x), some (.own (.list (trisD (fnd l (ps ++ [p]))))), some (.v (tx p)), t3, none] n e := fun t3 =>
        summed_loop hx hg hl qs (ps ++ [p]) _ _ (by rw [List.length_append, List.length_singleton]; omega) (by rw [← hap]; exact h2) (by rw [← hap]; exact q)
      have fs : fnd l (ps ++ [p]) = if 0 < sumAt l p ∧ p ∉ (fnd l ps).map pr then fnd l ps ++ [(p.1, p.2, sumAt l p)] else fnd l ps := by
        rw [fnd_pr]
        unfold fnd
        rw [firsts_snoc]
        unfold putOne
        by_cases c2 : p ∈ firsts ps
        · rw [if_pos c2]
          by_cases c1 : 0 < sumAt l p
          · rw [if_neg]
            rintro ⟨_, z⟩
            exact z (List.mem_filter.mpr ⟨c2, decide_eq_true c1⟩)
          · rw [if_neg fun z => c1 z.1]
        · rw [if_neg c2, List.filter_append, List.map_append]
          by_cases c1 : 0 < sumAt l p
          · rw [if_pos ⟨c1, fun z => c2 (List.mem_filter.mp z).1⟩]
            congr 1
            rw [List.filter_cons, if_pos (decide_eq_true c1)]
            rfl
          · rw [if_neg fun z => c1 z.1, List.filter_cons, if_neg (by simpa using c1), List.filter_nil, List.map_nil, List.append_nil]
      dsimp only
      by_cases c1 : 0 < sumAt l p
      · rw [decide_eq_true c1]
        show ∃ d0, _ ∧ _
        have lf : (trisD (fnd l ps)).length ≤ 1000 := by
          have := firsts_len ps
          have h := List.length_filter_le (fun p => decide (0 < sumAt l p)) (firsts ps)
          unfold trisD fnd
          rw [List.length_map, List.length_map]
          omega
        refine ⟨trisD (fnd l ps), rfl, ?_⟩
        show cLcLO _ _ _ _ _ _ _ [some (.v x), some (.own (.list (trisD (fnd l ps)))), some (.v (tx p)), some (.v (.int (sumAt l p))), none] n [] _
        refine lcLO_run (by exact rfl) cut2 _ [] (fun d hd => ?_) (by rw [List.length_nil]; unfold lim; omega) ?_
        · obtain ⟨t, ht, rfl⟩ := List.mem_map.mp hd
          exact ⟨_, rfl, rfl, fun K1 hK => hK, fun y hy K2 hK => ⟨2, rfl, tx (pr t), rfl, by cases hy; exact hK⟩⟩
        · rw [List.nil_append, cut2_all]
          have ni : ninD (tx p) (.list (((fnd l ps).map pr).map tx)) = some (.bool (!decide (p ∈ (fnd l ps).map pr))) := by
            have k2 : okE (.list (((fnd l ps).map pr).map tx)) = true := (OkN.list fun d hd => by
              obtain ⟨r, hr, rfl⟩ := List.mem_map.mp hd
              rw [fnd_pr] at hr
              exact OkN.tx (h2 r (List.mem_append_left _ (mem_firsts.mp (List.mem_filter.mp hr).1)))).ok (by decide)
            have k3 : memD (tx p) (.list (((fnd l ps).map pr).map tx)) = some (decide (p ∈ (fnd l ps).map pr)) := by
              show (if (okE (tx p) && okE (.list (((fnd l ps).map pr).map tx))) = true then some (anyD (((fnd l ps).map pr).map tx) (tx p)) else none) = _
              rw [(OkN.tx gp).ok (by decide), k2, anyD_tx]
              rfl
            unfold ninD
            rw [k3]
            rfl
          refine ⟨_, ni, _, rfl, ?_⟩
          by_cases c2 : p ∈ (fnd l ps).map pr
          · rw [decide_eq_true c2]
            rw [if_neg fun z => z.2 c2] at fs
            have := next (some (.v (.int (sumAt l p))))
            rw [fs] at this
            exact this
          · rw [decide_eq_false c2]
            rw [if_pos ⟨c1, c2⟩] at fs
            refine ⟨⟨_, rfl⟩, by show 1 ≤ lim; decide, _, (by rfl), trisD (fnd l ps), rfl, by unfold lim; omega, ?_⟩
            have := next (some (.v (.int (sumAt l p))))
            rw [fs] at this
            unfold trisD at this ⊢
            rw [List.map_append] at this
            exact this
      · rw [decide_eq_false c1]
        rw [if_neg fun z => c1 z.1] at fs
        have := next (some (.v (.int (sumAt l p))))
        rw [fs] at this
        exact this
end RM
namespace RM
open PySem PySem.Spec PyProof.Rows L2 CS RZ
theorem firsts_sub : ∀ (l m : List (Str × Str)), (firsts m).Sublist m → (firsts (m ++ l)).Sublist (m ++ l)
  | [], m, h => by rwa [List.append_nil]
  | p :: l, m, h => by
    have e : m ++ p :: l = (m ++ [p]) ++ l := by rw [List.append_assoc]; rfl
    rw [e]
    refine firsts_sub l (m ++ [p]) ?_
    rw [firsts_snoc]
    unfold putOne
    split
    · exact h.trans (List.sublist_append_left ..)
    · exact h.append (List.Sublist.refl _)
theorem firsts_sublist (l : List (Str × Str)) : (firsts l).Sublist l := by
  have := firsts_sub l [] (List.Sublist.refl _)
  rwa [List.nil_append] at this
/-- in order with the like left out, or the other way round -/
theorem firsts_sort (l : List (Str × Str)) : firsts (l.mergeSort leP) = (firsts l).mergeSort leP := by
  have p1 : (firsts (l.mergeSort leP)).Pairwise fun a b => leP a b = true := (PySem.W.sort_pairwise leP_total l).sublist (firsts_sublist _)
  have p2 := PySem.W.sort_pairwise leP_total (firsts l)
  have hp : (firsts (l.mergeSort leP)).Perm ((firsts l).mergeSort leP) := by
    refine ((List.perm_ext_iff_of_nodup (nodup_firsts _) ((List.mergeSort_perm _ _).nodup_iff.mpr (nodup_firsts l))).mpr fun q => ?_)
    rw [mem_firsts, (List.mergeSort_perm l leP).mem_iff, (List.mergeSort_perm (firsts l) leP).mem_iff, mem_firsts]
  exact List.Perm.eq_of_pairwise (fun a b _ _ x y => leP_anti x y) p1 p2 hp
theorem fnd_sorted (l : List Tri) : fnd l ((l.map pr).mergeSort leP) = canon l := by
  unfold fnd canon
  rw [firsts_sort]
theorem himp_summed {e : EndsD} (ds : List D) (n : Nat) (k : D → Nat → Prop) (ke : Xv → Nat → Prop) (h : sdSummed ds n k ke) (he : e.rt = k) : cs_summed (startE n_summed ds) n e := by
  obtain ⟨x, l, rfl, hx, hg, hl, q⟩ := h
  subst he
  have lt : (trisD l).length = l.length := by unfold trisD; rw [List.length_map]
  refine ⟨by show 0 ≤ lim; decide, by show 1 < 5; decide, ?_⟩
  refine ⟨trisD l, hx, ?_⟩
  show cLcL _ _ _ _ _ [some (.v x), some (.own (.list (trisD (fnd l [])))), none, none, none] n [] _
  refine lcL_run cut2 _ [] (fun d hd => ?_) (by rw [lt, List.length_nil]; unfold lim; omega) ?_
  · obtain ⟨t, ht, rfl⟩ := List.mem_map.mp hd
    exact ⟨_, rfl, rfl, fun K1 hK => hK, fun y hy K2 hK => ⟨2, rfl, tx (pr t), rfl, by cases hy; exact hK⟩⟩
  · rw [List.nil_append, cut2_all]
    refine ⟨_, ⟨_, _, rfl, rfl, ?_, tx_alike _, tx_sortable _, fun d hd => ?_, rfl⟩, ?_⟩
    · exact (OkN.all (k := 1) fun d hd => by
        obtain ⟨p, hp, rfl⟩ := List.mem_map.mp hd
        obtain ⟨t, ht, rfl⟩ := List.mem_map.mp hp
        exact OkN.tx (hg t ht)).1
    · obtain ⟨p, _, rfl⟩ := List.mem_map.mp hd
      exact tx_depth p
    · refine ⟨_, rfl, ?_⟩
      rw [sort_tx']
      refine summed_loop hx hg hl _ [] none none ?_ (fun p hp => ?_) fun t2 t3 => ?_
      · rw [List.length_mergeSort, List.length_map, List.length_nil]
        omega
      · rw [List.nil_append, (List.mergeSort_perm _ _).mem_iff] at hp
        obtain ⟨t, ht, rfl⟩ := List.mem_map.mp hp
        exact hg t ht
      · rw [List.nil_append, fnd_sorted]
        exact ⟨_, ⟨_, _, rfl, rfl, rfl⟩, q⟩
end RM
namespace RM
open PySem PySem.Spec PyProof.Rows L2 CS RZ
/-! ### classes by what they keep -/
section
variable (P : Program) (w : World) (K : PySem.W.Frag) (mg : Str → Option Value) (base : Heap) (g : Glob) (j : Nat)
structure HasC (x : Str) (c : Nat) (ps : List Str) (sd : SpI) : Prop where
  ex : ∃ f fd, Mk K (g.cls c) f ∧ FnOk P w K mg base (L2.CX P w) j f fd ps (spI g c sd) ∧ Binds K fd ps [] ∧ mg x = some (.ref (g.cls c))
structure HasM (CX : CXT) (c : Nat) (m : Str) (ps : List Str) (sd : SpD) : Prop where
  ex : ∃ f fd, FnOk P w K mg base CX j f fd ps (spD g sd) ∧ Binds K fd ps [] ∧ Meth K (g.cls c) m f ∧ Cls K (g.cls c)
structure HasP (c : Nat) (m : Str) (sd : SpD) : Prop where
  ex : ∃ p f fd, FnOk P w K mg base CX0 j f fd ["self"] (spD g sd) ∧ Binds K fd ["self"] [] ∧ PropOf K (g.cls c) m p f ∧ Cls K (g.cls c)
structure HasSub (c : Nat) (ps : List Str) (sd : SpD) : Prop where
  ex : ∃ f fd, FnOk P w K mg base CX0 j f fd ps (spD g sd) ∧ Binds K fd ps [] ∧ PySem.W.findIn K (.ref (g.cls c)) "__getitem__" = some (some (.ref f)) ∧ PySem.W.fnIn K f = true ∧ PySem.W.isFn K (.ref f) = true
structure HasIn (c : Nat) (ps : List Str) (sd : SpD) : Prop where
  ex : ∃ f fd, FnOk P w K mg base CX0 j f fd ps (spD g sd) ∧ Binds K fd ps [] ∧ PySem.W.findIn K (.ref (g.cls c)) "__contains__" = some (some (.ref f)) ∧ PySem.W.isFn K (.ref f) = true
structure HasBin (op : Operator) (c : Nat) (ps : List Str) (sd : SpD) : Prop where
  ex : ∃ f fd, FnOk P w K mg base (L2.CX P w) j f fd ps (spD g sd) ∧ Binds K fd ps [] ∧ PySem.W.selfFirst K (g.cls c) = true ∧ PySem.W.findIn K (.ref (g.cls c)) (PySem.dunder op.info.2) = some (some (.ref f)) ∧ PySem.W.isFn K (.ref f) = true
structure HasEq (c : Nat) (ps : List Str) (sd : SpD) : Prop where
  ex : ∃ f fd, FnOk P w K mg base CX0 j f fd ps (spD g sd) ∧ Binds K fd ps [] ∧ PySem.W.findIn K (.ref (g.cls c)) "__eq__" = some (some (.ref f)) ∧ PySem.W.isFn K (.ref f) = true
structure HasE (x : Str) (c : Nat) (ps fs : List Str) : Prop where
  ex : ∃ fI fd, ErrC K (g.cls c) fI fs ∧ FnOk P w K mg base CX0 j fI fd ps (spErr K (g.cls c) fI fs) ∧ Binds K fd ps [] ∧ mg x = some (.ref (g.cls c))
end
section
variable {X : Cx} {g : Glob} {xk : WX} {pos p : Pos} {j k c : Nat} {x m : Str} {ps fs : List Str} {CX : CXT} {e o a b : Expr} {es : List Expr} {ta : CA} {to t1 t2 : CE}
theorem pd_new {sd : SpI} (h : HasC X.prog X.w X.K X.mg X.base g j x c ps sd) (hr : Room k X.A) (l : j + 1 ≤ k) (hg : Gl X x) (hx : ∀ σ, PassesAt (L2.CX X.prog X.w) X σ (WE xk σ)) (ha : PDA X g xk (e :: es) ta)
    (hdb : (x == ("__debug__" : Str)) = false := by decide) (he : starEach (e :: es) X.env = (false, eval e X.env) :: starEach es X.env := by rfl) (hpl : (backTo pos (starEach es X.env)).any (·.1) = false := by rfl) : PD X g xk (.Call (.Name x p) (e :: es) [] pos) (cMake c sd ta) := by
  obtain ⟨f, fd, a, b, d, m⟩ := h.ex
  exact pd_make a b (hr.mono l) hg m d hx ha hdb he hpl
theorem pd_m {sd : SpD} {apos : Pos} {pl : Sem Bool} (h : HasM X.prog X.w X.K X.mg X.base g j CX c m ps sd) (hr : Room k X.A) (l : j ≤ k) (ho : PD X g xk o to) (hx : ∀ σ, PassesAt CX X σ (WE xk σ)) (ha : PDA X g xk (e :: es) ta)
    (hst : starEach (e :: es) X.env = (false, eval e X.env) :: starEach es X.env := by rfl) (hpl : (backTo pos (starEach es X.env)).any (·.1) = false := by rfl)
    (ht : eval (.Call (.Attribute o m apos) (e :: es) [] pos) X.env = (do
      let ov ← eval o X.env
      standAt apos.atName
      let (f, first) ← holding [ov] (getMethod ov m pl)
      callWith pos f first (backTo pos (starEach (e :: es) X.env)) (backToKw pos (keywordEach [] X.env))) := by rfl) : PD X g xk (.Call (.Attribute o m apos) (e :: es) [] pos) (cMeth sd to ta c m) := by
  obtain ⟨f, fd, a, b, d, q⟩ := h.ex
  exact pd_meth a ho q d (hr.mono l) b hx ha hst hpl ht
theorem pass00 {X : Cx} {E : XK} : Passes CX0 X E := pass0
theorem pd_p {sd : SpD} (h : HasP X.prog X.w X.K X.mg X.base g j c m sd) (hr : Room k X.A) (l : j + 1 ≤ k) (ho : PD X g xk o to) (hab : attributeBase o m X.env (eval o X.env) = eval o X.env := by rfl) : PD X g xk (.Attribute o m pos) (cProp sd to c) := by
  obtain ⟨p, f, fd, a, b, d, q⟩ := h.ex
  exact pd_prop a ho q d (hr.mono l) b pass00 hab
theorem pd_sub {sd : SpD} (h : HasSub X.prog X.w X.K X.mg X.base g j c ps sd) (hr : Room k X.A) (l : j + 1 ≤ k) (h1 : PD X g xk a t1) (h2 : PD X g xk b t2)
    (hsl : ∀ x i, subscripted b true (.ref x) i = runValue (.builtin "lifetime.subscript" ⟨[.ref x, i], []⟩) := by intros; with_unfolding_all rfl) : PD X g xk (.Subscript a b pos) (cSubO sd t1 t2 c) := by
  obtain ⟨f, fd, a1, a2, a3, a4, a5⟩ := h.ex
  exact pd_subO a1 (hr.mono l) a2 (fun _ => pa0) a3 a4 a5 h1 h2 hsl
theorem pd_inO {sd : SpD} (h : HasIn X.prog X.w X.K X.mg X.base g j c ps sd) (hr : Room k X.A) (l : j ≤ k) (h1 : PD X g xk a t1) (h2 : PD X g xk b t2) (hm : behindInMarks .In b = false) : PD X g xk (.Compare a [.In] [b] pos) (cInO false sd t1 t2 c) := by
  obtain ⟨f, fd, a1, a2, a3, a4⟩ := h.ex
  exact inO_run (.inl ⟨rfl, rfl⟩) a1 (hr.mono l) a2 (fun _ => pa0) a3 a4 h1 h2 hm
theorem pd_bin {op : Operator} {sd : SpD} (h : HasBin X.prog X.w X.K X.mg X.base g j op c ps sd) (hr : Room k X.A) (l : j ≤ k) (hx : ∀ σ, PassesAt (L2.CX X.prog X.w) X σ (WE xk σ)) (h1 : PD X g xk a t1) (h2 : PD X g xk b t2) : PD X g xk (.BinOp a op b pos) (cBinO sd t1 t2 c) := by
  obtain ⟨f, fd, a1, a2, a3, a4, a5⟩ := h.ex
  exact pd_binO a1 (hr.mono l) a2 hx a3 a4 a5 h1 h2
theorem pd_eq1 {sd : SpD} (h : HasEq X.prog X.w X.K X.mg X.base g j c ps sd) (hr : Room k X.A) (l : j ≤ k) (h1 : PD X g xk a t1) (h2 : PD X g xk b t2) (hm : behindInMarks .Eq b = false) : PD X g xk (.Compare a [.Eq] [b] pos) (cEqO sd t1 t2 c) := by
  obtain ⟨f, fd, a1, a2, a3, a4⟩ := h.ex
  exact pd_eqO a1 (hr.mono l) a2 (fun _ => pa0) a3 a4 h1 h2 hm
theorem pds_raiseH {pos2 : Pos} (hc : X.calm = true) (h : HasE X.prog X.w X.K X.mg X.base g j x c ps fs) (tk : Takes X xk) (hr : Room k X.A) (l : j + 1 ≤ k) (hg : Gl X x) (ha : PDA X g xk (e :: es) ta) (hn : fs.length ≤ 1000 := by decide) (hdb : (x == ("__debug__" : Str)) = false := by decide)
    (he : starEach (e :: es) X.env = (false, eval e X.env) :: starEach es X.env := by rfl) (hpl : (backTo pos2 (starEach es X.env)).any (·.1) = false := by rfl) : PDS X g xk (.Raise (some (.Call (.Name x p) (e :: es) [] pos2)) none pos) (cRaise c fs ta) := by
  obtain ⟨fI, fd, a, b, d, m⟩ := h.ex
  exact pds_raise hc tk a b (hr.mono l) d hg m ha hn hdb he hpl
end
end RM
namespace RM
open PySem PySem.Spec PyProof.Rows L2 CS RZ
structure CntC (K : PySem.W.Frag) (C : PySem.Addr) : Prop where
  cls : L2.Cls K C
  h_start : L2.NoAttr K C "_start"
  h_steps : L2.NoAttr K C "_steps"
  h_many : L2.NoAttr K C "_many"
abbrev LtJ (j k : Nat) := j + 1 ≤ k
theorem _root_.Nat.le1 {j k : Nat} (h : j + 1 ≤ k) : j ≤ k := Nat.le_of_succ_le h
def cCnt : Nat := 20
def cStill : Nat := 4
def cBelow : Nat := 5
def cShort : Nat := 6
def cNoPlace : Nat := 0
/-! ### Counts, as data -/
def manyD (l : List Tri) : List (D × D) := l.map fun t => (tx (pr t), PyData.int t.2.2)
def cntF (s : Str) (l : List Tri) : List (D × D) := [(.str "_start", .str s), (.str "_steps", .tuple (trisD l)), (.str "_many", .dict ((.none, .bool true) :: manyD l))]
def cntD (s : Str) (l : List Tri) : D := obj cCnt (cntF s l)
theorem fld_start (s : Str) (l : List Tri) : fieldD (cntF s l) "_start" = some (.str s) := rfl
theorem fld_steps (s : Str) (l : List Tri) : fieldD (cntF s l) "_steps" = some (.tuple (trisD l)) := rfl
theorem fld_many (s : Str) (l : List Tri) : fieldD (cntF s l) "_many" = some (.dict ((.none, .bool true) :: manyD l)) := rfl
def numAt (l : List Tri) (p : Str × Str) : Int := ((l.find? fun t => pr t = p).map fun t => t.2.2).getD 0
def hasP (l : List Tri) (p : Str × Str) : Bool := decide (p ∈ l.map pr)
theorem find_many (p : Str × Str) : ∀ l : List Tri, ((manyD l).find? fun kv => PyData.eqv kv.1 (tx p)) = (l.find? fun t => pr t = p).map fun t => (tx (pr t), PyData.int t.2.2)
  | [] => rfl
  | t :: l => by
    have ih := find_many p l
    unfold manyD at ih ⊢
    rw [List.map_cons, List.find?_cons, tx_eqv, List.find?_cons]
    by_cases c : pr t = p
    · rw [decide_eq_true c]
      rfl
    · rw [decide_eq_false c]
      exact ih
theorem look_many (l : List Tri) (p : Str × Str) : lookD (.dict ((.none, .bool true) :: manyD l)) (.tuple [.str p.1, .str p.2]) = some ((l.find? fun t => pr t = p).map fun t => PyData.int t.2.2) := by
  show (if ([PyData.str p.1, PyData.str p.2].all flatK) = true then some (keyD (manyD l) (.tuple [.str p.1, .str p.2])) else none) = _
  rw [if_pos (show ([PyData.str p.1, PyData.str p.2].all flatK) = true from rfl)]
  unfold keyD
  rw [show (PyData.tuple [.str p.1, .str p.2]) = tx p from rfl, find_many, Option.map_map]
  rfl
theorem find_has (l : List Tri) (p : Str × Str) : (l.find? fun t => pr t = p).isSome = hasP l p := by
  unfold hasP
  by_cases c : p ∈ l.map pr
  · rw [decide_eq_true c]
    obtain ⟨t, h1, h2⟩ := List.mem_map.mp c
    exact List.find?_isSome.mpr ⟨t, h1, decide_eq_true h2⟩
  · rw [decide_eq_false c, ← Bool.not_eq_true]
    intro z
    obtain ⟨t, h1, h2⟩ := List.find?_isSome.mp z
    exact c (List.mem_map.mpr ⟨t, h1, of_decide_eq_true h2⟩)
/-! properties -/
def sdP_start : SpD := fun ds n k _ => ∃ s l, ds = [cntD s l] ∧ k (.str s) n
def sdP_steps : SpD := fun ds n k _ => ∃ s l, ds = [cntD s l] ∧ k (.tuple (trisD l)) n
def sdP_total : SpD := fun ds n k _ => ∃ s l, ds = [cntD s l] ∧ l.length ≤ 1000 ∧ k (.int (l.map fun t => t.2.2).sum) n
def cs_Counts_start : CS := cRet (cFld (.nm 0) cCnt "_start")
def cs_Counts_steps : CS := cRet (cFld (.nm 0) cCnt "_steps")
def cs_Counts_total : CS := cRet (cCB gSum (cCons (cLc (cSeq (cFld (.nm 0) cCnt "_steps")) (stT (stCons (stN 1) (stCons (stN 1) (stCons (stN 2) (stNil))))) (cYes) (cVar 2) [1, 2]) (cNil)))
theorem himp_Counts_start {e : EndsD} (ds : List D) (n : Nat) (k : D → Nat → Prop) (ke : Xv → Nat → Prop) (h : sdP_start ds n k ke) (he : e.rt = k) : cs_Counts_start (startE ["self"] ds) n e := by
  obtain ⟨s, l, rfl, q⟩ := h
  subst he
  exact ⟨rfl, _, _, rfl, fld_start s l, q⟩
theorem himp_Counts_steps {e : EndsD} (ds : List D) (n : Nat) (k : D → Nat → Prop) (ke : Xv → Nat → Prop) (h : sdP_steps ds n k ke) (he : e.rt = k) : cs_Counts_steps (startE ["self"] ds) n e := by
  obtain ⟨s, l, rfl, q⟩ := h
  subst he
  exact ⟨rfl, _, _, rfl, fld_steps s l, q⟩
theorem tris_len (l : List Tri) : (trisD l).length = l.length := by
  unfold trisD
  rw [List.length_map]
/-- a member's part, of those that are asked for -/
def part (f : Tri → Bool) (v : Tri → D) : D → Option D
  | .tuple [.str a, .str b, .int c] => if f (a, b, c) = true then some (v (a, b, c)) else none
  | _ => none
theorem part_all (f : Tri → Bool) (v : Tri → D) : ∀ l : List Tri, (trisD l).filterMap (part f v) = (l.filter f).map v
  | [] => rfl
  | t :: l => by
    have ih := part_all f v l
    have h : part f v (triD t) = if f t = true then some (v t) else none := rfl
    unfold trisD at ih ⊢
    rw [List.map_cons, List.filterMap_cons, h, ih, List.filter_cons]
    split
    · rename_i c
      rw [if_neg (by intro z; rw [if_pos z] at c; cases c)]
    · rename_i b c
      obtain ⟨c1, c2⟩ := ifs c
      rw [if_pos c1, ← c2]
      rfl
theorem himp_Counts_total {e : EndsD} (ds : List D) (n : Nat) (k : D → Nat → Prop) (ke : Xv → Nat → Prop) (h : sdP_total ds n k ke) (he : e.rt = k) : cs_Counts_total (startE ["self", "_", "number"] ds) n e := by
  obtain ⟨s, l, rfl, hl, q⟩ := h
  subst he
  refine ⟨rfl, _, _, rfl, fld_steps s l, trisD l, rfl, ?_⟩
  refine lcL_run (part (fun _ => true) fun t => .int t.2.2) _ [] (fun d hd => ?_) (by rw [tris_len, List.length_nil]; unfold lim; omega) ?_
  · obtain ⟨t, ht, rfl⟩ := List.mem_map.mp hd
    exact ⟨_, rfl, rfl, fun K1 hK => hK, fun y hy K2 hK => by cases hy; exact hK⟩
  · rw [List.nil_append, part_all, List.filter_eq_self.mpr fun _ _ => rfl]
    exact ⟨_, ⟨l.map fun t => t.2.2, by unfold intsD; rw [List.map_map]; rfl, rfl⟩, q⟩
/-! numbers of steps -/
def sdSub : SpD := fun ds n k _ => ∃ s l x a b, ds = [cntD s l, x] ∧ seqD x = some [.str a, .str b] ∧ k (.int (numAt l (a, b))) n
def sdIn : SpD := fun ds n k _ => ∃ s l x a b, ds = [cntD s l, x] ∧ seqD x = some [.str a, .str b] ∧ k (.bool (hasP l (a, b))) n
def cs_Counts__getitem_ : CS := cSq (cAsg (stT (stCons (stN 2) (stCons (stN 3) (stNil)))) (cVar 1)) (cRet (cDGet2 (.ex (cFld (.nm 0) cCnt "_many")) (cKeyT (cCons (cVar 2) (cCons (cVar 3) (cNil)))) (cC (.int 0))))
def cs_Counts__contains_ : CS := cSq (cAsg (stT (stCons (stN 2) (stCons (stN 3) (stNil)))) (cVar 1)) (cRet (cDIn false (cKeyT (cCons (cVar 2) (cCons (cVar 3) (cNil)))) (.ex (cFld (.nm 0) cCnt "_many"))))
theorem himp_Counts__getitem_ {e : EndsD} (ds : List D) (n : Nat) (k : D → Nat → Prop) (ke : Xv → Nat → Prop) (h : sdSub ds n k ke) (he : e.rt = k) : cs_Counts__getitem_ (startE ["self", "at", "one", "other"] ds) n e := by
  obtain ⟨s, l, x, a, b, rfl, hx, q⟩ := h
  subst he
  refine ⟨[some (.v (cntD s l)), some (.v x), some (.v (.str a)), some (.v (.str b))], by unfold stT; rw [hx]; rfl, ?_⟩
  refine ⟨rfl, _, _, rfl, fld_many s l, ⟨_, rfl, rfl⟩, rfl, by show 2 ≤ lim; decide, _, _, rfl, look_many l (a, b), ?_⟩
  show e.rt (((l.find? fun t => pr t = (a, b)).map fun t => PyData.int t.2.2).getD (.int 0)) n
  have : ((l.find? fun t => pr t = (a, b)).map fun t => PyData.int t.2.2).getD (.int 0) = .int (numAt l (a, b)) := by
    unfold numAt
    cases l.find? fun t => pr t = (a, b) <;> rfl
  rw [this]
  exact q
theorem himp_Counts__contains_ {e : EndsD} (ds : List D) (n : Nat) (k : D → Nat → Prop) (ke : Xv → Nat → Prop) (h : sdIn ds n k ke) (he : e.rt = k) : cs_Counts__contains_ (startE ["self", "x", "one", "other"] ds) n e := by
  obtain ⟨s, l, x, a, b, rfl, hx, q⟩ := h
  subst he
  refine ⟨[some (.v (cntD s l)), some (.v x), some (.v (.str a)), some (.v (.str b))], by unfold stT; rw [hx]; rfl, ?_⟩
  refine ⟨rfl, by show 2 ≤ lim; decide, rfl, _, _, rfl, fld_many s l, _, _, rfl, look_many l (a, b), ?_⟩
  show e.rt (.bool (((l.find? fun t => pr t = (a, b)).map fun t => PyData.int t.2.2).isSome != false)) n
  have : (((l.find? fun t => pr t = (a, b)).map fun t => PyData.int t.2.2).isSome != false) = hasP l (a, b) := by
    rw [← find_has]
    cases l.find? fun t => pr t = (a, b) <;> rfl
  rw [this]
  exact q
end RM
namespace RM
open PySem PySem.Spec PyProof.Rows L2 CS RZ
/-! ### what leads out and in -/
theorem eqD_str {a b : Str} (ha : GoodS a) (hb : GoodS b) : eqD (.str a) (.str b) = some (.bool (decide (a = b))) := by
  unfold eqD
  rw [(OkN.str 0 ha).ok (by decide), (OkN.str 0 hb).ok (by decide), RM.eqv_str]
  rfl
def sdM_outs : SpD := fun ds n k _ => ∃ s l a, ds = [cntD s l, .str a] ∧ GoodS a ∧ (∀ t ∈ l, GoodP (pr t)) ∧ l.length ≤ 1000 ∧ k (.int ((l.filter fun t => t.1 = a).map fun t => t.2.2).sum) n
def sdM_ins : SpD := fun ds n k _ => ∃ s l a, ds = [cntD s l, .str a] ∧ GoodS a ∧ (∀ t ∈ l, GoodP (pr t)) ∧ l.length ≤ 1000 ∧ k (.int ((l.filter fun t => t.2.1 = a).map fun t => t.2.2).sum) n
def sdM_nexts : SpD := fun ds n k _ => ∃ s l a, ds = [cntD s l, .str a] ∧ GoodS a ∧ (∀ t ∈ l, GoodP (pr t)) ∧ l.length ≤ 1000 ∧ k (.tuple (strD ((l.filter fun t => t.1 = a).map fun t => t.2.1))) n
def sdM_befores : SpD := fun ds n k _ => ∃ s l a, ds = [cntD s l, .str a] ∧ GoodS a ∧ (∀ t ∈ l, GoodP (pr t)) ∧ l.length ≤ 1000 ∧ k (.tuple (strD ((l.filter fun t => t.2.1 = a).map fun t => t.1))) n
def cs_Counts_outs : CS := cRet (cCB gSum (cCons (cLc (cSeq (cFld (.nm 0) cCnt "_steps")) (stT (stCons (stN 2) (stCons (stN 3) (stCons (stN 4) (stNil))))) (cB (cOp eqD (cVar 2) (cVar 1))) (cVar 4) [2, 3, 4]) (cNil)))
def cs_Counts_ins : CS := cRet (cCB gSum (cCons (cLc (cSeq (cFld (.nm 0) cCnt "_steps")) (stT (stCons (stN 2) (stCons (stN 3) (stCons (stN 4) (stNil))))) (cB (cOp eqD (cVar 3) (cVar 1))) (cVar 4) [2, 3, 4]) (cNil)))
def cs_Counts_nexts : CS := cRet (cCB gTuple (cCons (cLc (cSeq (cFld (.nm 0) cCnt "_steps")) (stT (stCons (stN 2) (stCons (stN 3) (stCons (stN 4) (stNil))))) (cB (cOp eqD (cVar 2) (cVar 1))) (cVar 3) [2, 3, 4]) (cNil)))
def cs_Counts_befores : CS := cRet (cCB gTuple (cCons (cLc (cSeq (cFld (.nm 0) cCnt "_steps")) (stT (stCons (stN 2) (stCons (stN 3) (stCons (stN 4) (stNil))))) (cB (cOp eqD (cVar 3) (cVar 1))) (cVar 2) [2, 3, 4]) (cNil)))
abbrev nSet (a b c : Str) : List Str := ["self", "place", a, b, c]
theorem part_run {l : List Tri} {ρ0 : En} {n : Nat} {cg : CG} {tt : CT} {te : CE} {vs : List Nat} {f : Tri → Bool} {v : Tri → D} {k : List D → En → Nat → Prop} (hl : l.length ≤ 1000)
    (h : ∀ t ∈ l, ∃ ρ1, cg (triD t) ρ0 = some ρ1 ∧ wipeE ρ1 vs = ρ0 ∧ (∀ K1 : Bool → En → Nat → Prop, K1 (f t) ρ1 n → tt ρ1 n K1 kF) ∧ ∀ K2 : D → En → Nat → Prop, K2 (v t) ρ1 n → te ρ1 n K2 kF)
    (q : k ((l.filter f).map v) ρ0 n) : cLcL cg tt te vs (trisD l) ρ0 n [] k := by
  refine lcL_run (part f v) _ [] (fun d hd => ?_) (by rw [tris_len, List.length_nil]; unfold lim; omega) ?_
  · obtain ⟨t, ht, rfl⟩ := List.mem_map.mp hd
    obtain ⟨ρ1, h1, h2, h3, h4⟩ := h t ht
    have e : part f v (triD t) = if f t = true then some (v t) else none := rfl
    refine ⟨ρ1, h1, h2, fun K1 hK => h3 K1 ?_, fun y hy K2 hK => h4 K2 ?_⟩
    · rw [e] at hK
      cases c : f t with
      | true =>
        rw [c, if_pos rfl] at hK
        exact hK
      | false =>
        rw [c, if_neg (by decide)] at hK
        exact hK
    · rw [e] at hy
      rw [(ifs hy).2]
      exact hK
  · rw [List.nil_append, part_all]
    exact q
theorem himp_Counts_outs {e : EndsD} (ds : List D) (n : Nat) (k : D → Nat → Prop) (ke : Xv → Nat → Prop) (h : sdM_outs ds n k ke) (he : e.rt = k) : cs_Counts_outs (startE (nSet "one" "_" "number") ds) n e := by
  obtain ⟨s, l, a, rfl, ga, hg, hl, q⟩ := h
  subst he
  refine ⟨rfl, _, _, rfl, fld_steps s l, trisD l, rfl, part_run (f := fun t => decide (t.1 = a)) (v := fun t => .int t.2.2) hl (fun t ht => ⟨_, rfl, rfl, fun K1 hK => ⟨_, eqD_str (hg t ht).1 ga, _, rfl, hK⟩, fun K2 hK => hK⟩) ?_⟩
  exact ⟨_, ⟨(l.filter fun t => t.1 = a).map fun t => t.2.2, by unfold intsD; rw [List.map_map]; rfl, rfl⟩, q⟩
theorem himp_Counts_ins {e : EndsD} (ds : List D) (n : Nat) (k : D → Nat → Prop) (ke : Xv → Nat → Prop) (h : sdM_ins ds n k ke) (he : e.rt = k) : cs_Counts_ins (startE (nSet "_" "other" "number") ds) n e := by
  obtain ⟨s, l, a, rfl, ga, hg, hl, q⟩ := h
  subst he
  refine ⟨rfl, _, _, rfl, fld_steps s l, trisD l, rfl, part_run (f := fun t => decide (t.2.1 = a)) (v := fun t => .int t.2.2) hl (fun t ht => ⟨_, rfl, rfl, fun K1 hK => ⟨_, eqD_str (hg t ht).2 ga, _, rfl, hK⟩, fun K2 hK => hK⟩) ?_⟩
  exact ⟨_, ⟨(l.filter fun t => t.2.1 = a).map fun t => t.2.2, by unfold intsD; rw [List.map_map]; rfl, rfl⟩, q⟩
theorem himp_Counts_nexts {e : EndsD} (ds : List D) (n : Nat) (k : D → Nat → Prop) (ke : Xv → Nat → Prop) (h : sdM_nexts ds n k ke) (he : e.rt = k) : cs_Counts_nexts (startE (nSet "one" "other" "_") ds) n e := by
  obtain ⟨s, l, a, rfl, ga, hg, hl, q⟩ := h
  subst he
  refine ⟨rfl, _, _, rfl, fld_steps s l, trisD l, rfl, part_run (f := fun t => decide (t.1 = a)) (v := fun t => .str t.2.1) hl (fun t ht => ⟨_, rfl, rfl, fun K1 hK => ⟨_, eqD_str (hg t ht).1 ga, _, rfl, hK⟩, fun K2 hK => hK⟩) ?_⟩
  refine ⟨_, ⟨_, _, rfl, rfl, rfl⟩, ?_⟩
  unfold strD at q
  rw [List.map_map] at q
  exact q
theorem himp_Counts_befores {e : EndsD} (ds : List D) (n : Nat) (k : D → Nat → Prop) (ke : Xv → Nat → Prop) (h : sdM_befores ds n k ke) (he : e.rt = k) : cs_Counts_befores (startE (nSet "one" "other" "_") ds) n e := by
  obtain ⟨s, l, a, rfl, ga, hg, hl, q⟩ := h
  subst he
  refine ⟨rfl, _, _, rfl, fld_steps s l, trisD l, rfl, part_run (f := fun t => decide (t.2.1 = a)) (v := fun t => .str t.1) hl (fun t ht => ⟨_, rfl, rfl, fun K1 hK => ⟨_, eqD_str (hg t ht).2 ga, _, rfl, hK⟩, fun K2 hK => hK⟩) ?_⟩
  refine ⟨_, ⟨_, _, rfl, rfl, rfl⟩, ?_⟩
  unfold strD at q
  rw [List.map_map] at q
  exact q
/-! ### triples that are none -/
def stillT (t : Tri) : Bool := decide (t.1 = t.2.1)
def belowT (t : Tri) : Bool := decide (t.2.2 < 0)
def stillX (t : Tri) : Xv := (cStill, errF ["place"] [.str t.1])
def belowX (t : Tri) : Xv := (cBelow, errF ["one", "other", "number"] [.str t.1, .str t.2.1, .int t.2.2])
/-- what is raised for the triples, if something is -/
def wrongT (l : List Tri) : Option Xv := match l.find? stillT with
  | some t => some (stillX t)
  | none => (l.find? belowT).map belowX
def sdCheck : SpD := fun ds n k ke => ∃ (x : D) (rows : List D) (l : List Tri), ds = [x] ∧ seqD x = some rows ∧ RowsAre rows l ∧ (∀ t ∈ l, GoodP (pr t)) ∧ match wrongT l with
  | some y => ke y n
  | none => k .none n
abbrev bd_ck1 : CS := cIfS (cB (cOp eqD (cVar 1) (cVar 2))) (cRaise cStill ["place"] (cCons (cVar 1) (cNil))) (cNext)
abbrev bd_ck2 : CS := cIfS (cB (cOp ltD (cVar 4) (cC (.int 0)))) (cRaise cBelow ["one", "other", "number"] (cCons (cVar 1) (cCons (cVar 2) (cCons (cVar 4) (cNil))))) (cNext)
def cs_check_steps : CS := cSq (cFor (cSeq (cVar 0)) (stT (stCons (stN 1) (stCons (stN 2) (stCons (stN 3) (stNil))))) (cIfS (cB (cOp eqD (cVar 1) (cVar 2))) (cRaise cStill ["place"] (cCons (cVar 1) (cNil))) (cNext))) (cFor (cSeq (cVar 0)) (stT (stCons (stN 1) (stCons (stN 2) (stCons (stN 4) (stNil))))) (cIfS (cB (cOp ltD (cVar 4) (cC (.int 0)))) (cRaise cBelow ["one", "other", "number"] (cCons (cVar 1) (cCons (cVar 2) (cCons (cVar 4) (cNil))))) (cNext)))
theorem ck1_loop {e : EndsD} {x : D} {n : Nat} : ∀ (rows : List D) (ts : List Tri) (t1 t2 t3 t4 : Option Sl), RowsAre rows ts → (∀ t ∈ ts, GoodP (pr t)) → (match ts.find? stillT with
      | some t => ∀ ρ, e.xc (stillX t) ρ n
      | none => ∀ t1 t2 t3 t4 : Option Sl, e.nx [some (.v x), t1, t2, t3, t4] n) →
    cForL (stT (stCons (stN 1) (stCons (stN 2) (stCons (stN 3) (stNil))))) bd_ck1 rows [some (.v x), t1, t2, t3, t4] n e
  | [], ts, t1, t2, t3, t4, h, _, q => by
    cases ts with
    | nil => exact q t1 t2 t3 t4
    | cons => cases h
  | d :: rows, ts, t1, t2, t3, t4, h, hg, q => by
    cases ts with
    | nil => cases h
    | cons t ts =>
      have h1 := (List.cons.inj h).1
      have h2 := (List.cons.inj h).2
      have gt := hg t (List.mem_cons_self ..)
      refine ⟨[some (.v x), some (.v (.str t.1)), some (.v (.str t.2.1)), some (.v (.int t.2.2)), t4], by unfold stT; rw [h1]; rfl, ?_⟩
      refine ⟨_, eqD_str gt.1 gt.2, _, rfl, ?_⟩
      rw [List.find?_cons] at q
      by_cases c : t.1 = t.2.1
      · rw [show stillT t = true from decide_eq_true c] at q
        rw [decide_eq_true c]
        exact ⟨rfl, q _⟩
      · rw [show stillT t = false from decide_eq_false c] at q
        rw [decide_eq_false c]
        exact ck1_loop rows ts _ _ _ _ h2 (fun z hz => hg z (List.mem_cons_of_mem _ hz)) q
theorem ck2_loop {e : EndsD} {x : D} {n : Nat} : ∀ (rows : List D) (ts : List Tri) (t1 t2 t3 t4 : Option Sl), RowsAre rows ts → (match ts.find? belowT with
      | some t => ∀ ρ, e.xc (belowX t) ρ n
      | none => ∀ t1 t2 t3 t4 : Option Sl, e.nx [some (.v x), t1, t2, t3, t4] n) →
    cForL (stT (stCons (stN 1) (stCons (stN 2) (stCons (stN 4) (stNil))))) bd_ck2 rows [some (.v x), t1, t2, t3, t4] n e
  | [], ts, t1, t2, t3, t4, h, q => by
    cases ts with
    | nil => exact q t1 t2 t3 t4
    | cons => cases h
  | d :: rows, ts, t1, t2, t3, t4, h, q => by
    cases ts with
    | nil => cases h
    | cons t ts =>
      have h1 := (List.cons.inj h).1
      have h2 := (List.cons.inj h).2
      refine ⟨[some (.v x), some (.v (.str t.1)), some (.v (.str t.2.1)), t3, some (.v (.int t.2.2))], by unfold stT; rw [h1]; rfl, ?_⟩
      refine ⟨.bool (decide (t.2.2 < 0)), rfl, _, rfl, ?_⟩
      rw [List.find?_cons] at q
      by_cases c : t.2.2 < 0
      · rw [show belowT t = true from decide_eq_true c] at q
        rw [decide_eq_true c]
        exact ⟨rfl, q _⟩
      · rw [show belowT t = false from decide_eq_false c] at q
        rw [decide_eq_false c]
        exact ck2_loop rows ts _ _ _ _ h2 q
theorem himp_check_steps {e : EndsD} (ds : List D) (n : Nat) (k : D → Nat → Prop) (ke : Xv → Nat → Prop) (h : sdCheck ds n k ke) (hn : ∀ ρ n, k .none n → e.nx ρ n) (hx : ∀ x ρ n, ke x n → e.xc x ρ n) : cs_check_steps (startE ["steps", "one", "other", "_", "number"] ds) n e := by
  obtain ⟨x, rows, l, rfl, hs, hr, hg, q⟩ := h
  refine ⟨rows, hs, ck1_loop rows l none none none none hr hg ?_⟩
  unfold wrongT at q
  cases c : l.find? stillT with
  | some t =>
    rw [c] at q
    exact fun ρ => hx _ ρ n q
  | none =>
    rw [c] at q
    intro t1 t2 t3 t4
    refine ⟨rows, hs, ck2_loop rows l t1 t2 t3 t4 hr ?_⟩
    cases c2 : l.find? belowT with
    | some t =>
      rw [c2] at q
      exact fun ρ => hx _ ρ n q
    | none =>
      rw [c2] at q
      exact fun _ _ _ _ => hn _ n q
end RM
namespace RM
open PySem PySem.Spec PyProof.Rows L2 CS RZ
/-! ### Counts made -/
theorem any_many (p : Str × Str) (l : List Tri) : ((manyD l).any fun kv => PyData.eqv kv.1 (tx p)) = decide (p ∈ l.map pr) := by
  unfold manyD
  rw [List.any_map]
  induction l with
  | nil => rfl
  | cons t l ih =>
    rw [List.any_cons, ih]
    show (PyData.eqv (tx (pr t)) (tx p) || _) = _
    rw [tx_eqv]
    by_cases h : pr t = p
    · subst h
      simp
    · simp [h, Ne.symm h]
theorem many_snoc (l : List Tri) (t : Tri) : manyD (l ++ [t]) = manyD l ++ [(tx (pr t), .int t.2.2)] := by
  unfold manyD
  rw [List.map_append]
  rfl
theorem put_many {l : List Tri} {t : Tri} (hn : pr t ∉ l.map pr) (hl : l.length < lim) : putD (.dict ((.none, .bool true) :: manyD l)) (.tuple [.str t.1, .str t.2.1]) (.int t.2.2) = some (.dict ((.none, .bool true) :: manyD (l ++ [t]))) := by
  have h2 : (manyD l).length < lim := by
    unfold manyD
    rw [List.length_map]
    exact hl
  show (if ([PyData.str t.1, PyData.str t.2.1].all flatK) = true ∧ (manyD l).length < lim then some (PyData.dict ((.none, .bool true) :: putKD (manyD l) (.tuple [.str t.1, .str t.2.1]) (.int t.2.2))) else none) = _
  rw [if_pos ⟨rfl, h2⟩, many_snoc]
  congr 3
  rw [show (PyData.tuple [.str t.1, .str t.2.1]) = tx (pr t) from rfl]
  unfold putKD
  rw [any_many, decide_eq_false hn, if_neg (by simp)]
theorem canon_pr (l : List Tri) : (canon l).map pr = ((firsts (l.map pr)).mergeSort leP).filter fun p => 0 < sumAt l p := by
  unfold canon
  rw [List.map_map]
  exact List.map_id' _
theorem canon_nodup (l : List Tri) : ((canon l).map pr).Nodup := by
  rw [canon_pr]
  exact ((List.mergeSort_perm _ _).nodup_iff.mpr (nodup_firsts _)).sublist List.filter_sublist
theorem canon_len (l : List Tri) : (canon l).length ≤ l.length := by
  have h1 := congrArg List.length (canon_pr l)
  rw [List.length_map] at h1
  have h2 := List.length_filter_le (fun p => decide (0 < sumAt l p)) ((firsts (l.map pr)).mergeSort leP)
  rw [List.length_mergeSort] at h2
  have h3 := firsts_len (l.map pr)
  rw [List.length_map] at h3
  omega
theorem canon_mem {l : List Tri} {t : Tri} (h : t ∈ canon l) : pr t ∈ l.map pr ∧ 0 < t.2.2 ∧ t.2.2 = sumAt l (pr t) := by
  unfold canon at h
  obtain ⟨p, hp, rfl⟩ := List.mem_map.mp h
  obtain ⟨h1, h2⟩ := List.mem_filter.mp hp
  exact ⟨mem_firsts.mp ((List.mergeSort_perm _ _).mem_iff.mp h1), of_decide_eq_true h2, rfl⟩
def sdInit : SpI := fun ds n k ke => ∃ (s : Str) (x : D) (rows : List D) (l : List Tri), ds = [.str s, x] ∧ seqD x = some rows ∧ RowsAre rows l ∧ (∀ t ∈ l, GoodP (pr t)) ∧ l.length ≤ 1000 ∧ match wrongT l with
  | some y => ke y n
  | none => k (cntF s (canon l)) n
def cs_Counts__init_ (sdCheck : SpD) : CS := cSq (cDrop (cCall sdCheck (cCons (cVar 2) (cNil)))) (cSq (cPutF 0 cCnt "_start" (cVar 1)) (cSq (cPutF 0 cCnt "_steps" (cCall sdAdded (cCons (cVar 2) (cNil)))) (cPutF 0 cCnt "_many" (cDc true (cSeq (cFld (.nm 0) cCnt "_steps")) (stT (stCons (stN 3) (stCons (stN 4) (stCons (stN 5) (stNil))))) (cYes) (cKeyT (cCons (cVar 3) (cCons (cVar 4) (cNil)))) (cVar 5) [3, 4, 5]))))
abbrev n_Counts__init_ : List Str := ["self", "start", "steps", "one", "other", "number"]
theorem dc_many {a b c : Option Sl} {n : Nat} {k : D → En → Nat → Prop} : ∀ (l done : List Tri), ((done ++ l).map pr).Nodup → done.length + l.length ≤ 1000 → k (.dict ((.none, .bool true) :: manyD (done ++ l))) [a, b, c, none, none, none] n →
    cDcL (stT (stCons (stN 3) (stCons (stN 4) (stCons (stN 5) (stNil))))) cYes (cKeyT (cCons (cVar 3) (cCons (cVar 4) (cNil)))) (cVar 5) [3, 4, 5] (trisD l) [a, b, c, none, none, none] n (.dict ((.none, .bool true) :: manyD done)) k
  | [], done, _, _, q => by
    rw [List.append_nil] at q
    exact q
  | t :: l, done, hn, hl, q => by
    have e : done ++ t :: l = (done ++ [t]) ++ l := by rw [List.append_assoc]; rfl
    rw [List.length_cons] at hl
    have h1 : pr t ∉ done.map pr := by
      rw [List.map_append, List.map_cons] at hn
      intro z
      exact (List.nodup_append.mp hn).2.2 _ z _ (List.mem_cons_self ..) rfl
    refine ⟨_, rfl, rfl, by show 2 ≤ lim; decide, _, put_many h1 (by unfold lim; omega), ?_⟩
    exact dc_many l (done ++ [t]) (by rw [← e]; exact hn) (by rw [List.length_append, List.length_singleton]; omega) (by rw [← e]; exact q)
theorem himp_Counts__init_ {e : EndsD} (ds : List D) (n : Nat) (k : List (D × D) → Nat → Prop) (ke : Xv → Nat → Prop) (h : sdInit ds n k ke) (hn : ∀ ρ n, (∃ fs, ownD ρ 0 (obj cCnt fs) ∧ k fs n) → e.nx ρ n) (hx : ∀ x ρ n, ke x n → e.xc x ρ n) : cs_Counts__init_ sdCheck (startI n_Counts__init_ cCnt ds) n e := by
  obtain ⟨s, x, rows, l, rfl, hs, hr, hg, hl, q⟩ := h
  refine ⟨x, rows, l, rfl, hs, hr, hg, ?_⟩
  cases c : wrongT l with
  | some y =>
    rw [c] at q
    exact hx _ _ _ q
  | none =>
    rw [c] at q
    refine ⟨[], rfl, by decide, x, rows, l, rfl, hs, hr, hl, [(.str "_start", .str s)], rfl, (by show 1 < 900; decide), ?_⟩
    refine ⟨rfl, _, _, rfl, rfl, trisD (canon l), rfl, ?_⟩
    refine dc_many (canon l) [] (by rw [List.nil_append]; exact canon_nodup l) (by have := canon_len l; rw [List.length_nil]; omega) ?_
    refine ⟨[(.str "_start", .str s), (.str "_steps", .tuple (trisD (canon l)))], rfl, (by show 2 < 900; decide), ?_⟩
    exact hn _ _ ⟨cntF s (canon l), rfl, q⟩
/-! + and - -/
def sdBinAdd : SpD := fun ds n k ke => ∃ s l s2 l2, ds = [cntD s l, cntD s2 l2] ∧ (∀ t ∈ l, GoodP (pr t)) ∧ (∀ t ∈ l2, GoodP (pr t)) ∧ l.length + l2.length ≤ 1000 ∧ match wrongT (l ++ l2) with
  | some y => ke y n
  | none => k (cntD s (canon (l ++ l2))) n
def cs_Counts__add_ (sdInit : SpI) : CS := cRet (cMake cCnt sdInit (cCons (cFld (.nm 0) cCnt "_start") (cCons (cOp addD (cFld (.nm 0) cCnt "_steps") (cFld (.nm 1) cCnt "_steps")) (cNil))))
theorem himp_Counts__add_ {e : EndsD} (ds : List D) (n : Nat) (k : D → Nat → Prop) (ke : Xv → Nat → Prop) (h : sdBinAdd ds n k ke) (he : e.rt = k) (hx : ∀ x ρ n, ke x n → e.xc x ρ n) : cs_Counts__add_ sdInit (startE ["self", "other"] ds) n e := by
  obtain ⟨s, l, s2, l2, rfl, hg, hg2, hl, q⟩ := h
  subst he
  have e1 : trisD l ++ trisD l2 = trisD (l ++ l2) := by
    unfold trisD
    rw [List.map_append]
  refine ⟨rfl, _, _, rfl, fld_start s l, rfl, _, _, rfl, fld_steps s l, rfl, _, _, rfl, fld_steps s2 l2, .tuple (trisD l ++ trisD l2), ?_, ?_⟩
  · show (if (trisD l).length + (trisD l2).length ≤ lim then some (PyData.tuple (trisD l ++ trisD l2)) else none) = _
    rw [tris_len, tris_len, if_pos (by unfold lim; omega)]
  · refine ⟨s, _, trisD (l ++ l2), l ++ l2, rfl, by rw [e1]; rfl, rowsAre_tris _, fun t ht => (List.mem_append.mp ht).elim (hg t) (hg2 t), by rw [List.length_append]; exact hl, ?_⟩
    cases c : wrongT (l ++ l2) with
    | some y =>
      rw [c] at q
      exact hx _ _ _ q
    | none =>
      rw [c] at q
      exact q
def leftT (l l2 : List Tri) : List Tri := l.map fun t => (t.1, t.2.1, t.2.2 - numAt l2 (pr t))
def shortX (l : List Tri) (t : Tri) : Xv := (cShort, errF ["one", "other", "lacking"] [.str t.1, .str t.2.1, .int (t.2.2 - numAt l (pr t))])
def sdBinSub : SpD := fun ds n k ke => ∃ s l s2 l2, ds = [cntD s l, cntD s2 l2] ∧ (∀ t ∈ l, GoodP (pr t)) ∧ l.length ≤ 1000 ∧ match l2.find? (fun t => decide (numAt l (pr t) < t.2.2)) with
  | some t => ke (shortX l t) n
  | none => match wrongT (leftT l l2) with
    | some y => ke y n
    | none => k (cntD s (canon (leftT l l2))) n
abbrev bd_sub : CS := cIfS (cB (cOp ltD (cSubO sdSub (cVar 0) (cTup (cCons (cVar 3) (cCons (cVar 4) (cNil)))) cCnt) (cVar 5))) (cRaise cShort ["one", "other", "lacking"] (cCons (cVar 3) (cCons (cVar 4) (cCons (cOp subD (cVar 5) (cSubO sdSub (cVar 0) (cTup (cCons (cVar 3) (cCons (cVar 4) (cNil)))) cCnt)) (cNil))))) (cNext)
def cs_Counts__sub_ (sdInit : SpI) (sdSub : SpD) : CS := cSq (cFor (cSeq (cFld (.nm 1) cCnt "_steps")) (stT (stCons (stN 3) (stCons (stN 4) (stCons (stN 5) (stNil))))) (cIfS (cB (cOp ltD (cSubO sdSub (cVar 0) (cTup (cCons (cVar 3) (cCons (cVar 4) (cNil)))) cCnt) (cVar 5))) (cRaise cShort ["one", "other", "lacking"] (cCons (cVar 3) (cCons (cVar 4) (cCons (cOp subD (cVar 5) (cSubO sdSub (cVar 0) (cTup (cCons (cVar 3) (cCons (cVar 4) (cNil)))) cCnt)) (cNil))))) (cNext))) (cSq (cOwn 2 (cLc (cSeq (cFld (.nm 0) cCnt "_steps")) (stT (stCons (stN 3) (stCons (stN 4) (stCons (stN 5) (stNil))))) (cYes) (cTup (cCons (cVar 3) (cCons (cVar 4) (cCons (cOp subD (cVar 5) (cSubO sdSub (cVar 1) (cTup (cCons (cVar 3) (cCons (cVar 4) (cNil)))) cCnt)) (cNil))))) [3, 4, 5])) (cRet (cMake cCnt sdInit (cCons (cFld (.nm 0) cCnt "_start") (cCons (cVar 2) (cNil))))))
abbrev n_Counts__sub_ : List Str := ["self", "other", "left", "one", "to", "number"]
theorem sub_loop {e : EndsD} {s : Str} {l : List Tri} {o : D} {n : Nat} : ∀ (ts : List Tri) (t3 t4 t5 : Option Sl), (match ts.find? (fun t => decide (numAt l (pr t) < t.2.2)) with
      | some t => ∀ ρ, e.xc (shortX l t) ρ n
      | none => ∀ t3 t4 t5 : Option Sl, e.nx [some (.v (cntD s l)), some (.v o), none, t3, t4, t5] n) →
    cForL (stT (stCons (stN 3) (stCons (stN 4) (stCons (stN 5) (stNil))))) bd_sub (trisD ts) [some (.v (cntD s l)), some (.v o), none, t3, t4, t5] n e
  | [], t3, t4, t5, q => q t3 t4 t5
  | t :: ts, t3, t4, t5, q => by
    refine ⟨_, rfl, ?_⟩
    refine ⟨by show 2 ≤ lim; decide, ⟨_, rfl⟩, s, l, _, t.1, t.2.1, rfl, rfl, .bool (decide (numAt l (pr t) < t.2.2)), rfl, _, rfl, ?_⟩
    rw [List.find?_cons] at q
    by_cases c : numAt l (pr t) < t.2.2
    · rw [decide_eq_true c] at q ⊢
      exact ⟨by show 2 ≤ lim; decide, ⟨_, rfl⟩, s, l, _, t.1, t.2.1, rfl, rfl, _, rfl, rfl, q _⟩
    · rw [decide_eq_false c] at q ⊢
      exact sub_loop ts _ _ _ q
theorem himp_Counts__sub_ {e : EndsD} (ds : List D) (n : Nat) (k : D → Nat → Prop) (ke : Xv → Nat → Prop) (h : sdBinSub ds n k ke) (he : e.rt = k) (hx : ∀ x ρ n, ke x n → e.xc x ρ n) : cs_Counts__sub_ sdInit sdSub (startE n_Counts__sub_ ds) n e := by
  obtain ⟨s, l, s2, l2, rfl, hg, hl, q⟩ := h
  subst he
  refine ⟨rfl, _, _, rfl, fld_steps s2 l2, trisD l2, rfl, sub_loop l2 none none none ?_⟩
  cases c : l2.find? (fun t => decide (numAt l (pr t) < t.2.2)) with
  | some t =>
    rw [c] at q
    exact fun ρ => hx _ ρ n q
  | none =>
    rw [c] at q
    intro t3 t4 t5
    refine ⟨rfl, _, _, rfl, fld_steps s l, trisD l, rfl, ?_⟩
    show cLcL _ _ _ _ _ [some (.v (cntD s l)), some (.v (cntD s2 l2)), none, none, none, none] n [] _
    refine part_run (f := fun _ => true) (v := fun t => triD (t.1, t.2.1, t.2.2 - numAt l2 (pr t))) hl (fun t ht => ⟨_, rfl, rfl, fun K1 hK => hK, fun K2 hK => ⟨by show 2 ≤ lim; decide, ⟨_, rfl⟩, s2, l2, _, t.1, t.2.1, rfl, rfl, _, rfl, by show 3 ≤ lim; decide, hK⟩⟩) ?_
    rw [List.filter_eq_self.mpr fun _ _ => rfl]
    have e1 : (l.map fun t => triD (t.1, t.2.1, t.2.2 - numAt l2 (pr t))) = trisD (leftT l l2) := by
      unfold trisD leftT
      rw [List.map_map]
      rfl
    rw [e1]
    refine ⟨by show 2 < 6; decide, rfl, _, _, rfl, fld_start s l, s, _, trisD (leftT l l2), leftT l l2, rfl, rfl, rowsAre_tris _, fun t ht => ?_, by unfold leftT; rw [List.length_map]; exact hl, ?_⟩
    · unfold leftT at ht
      obtain ⟨t', h', rfl⟩ := List.mem_map.mp ht
      exact hg t' h'
    · cases c2 : wrongT (leftT l l2) with
      | some y =>
        rw [c2] at q
        exact hx _ _ _ q
      | none =>
        rw [c2] at q
        exact q
end RM
namespace PySem.W
open PySem PySem.Spec PyProof.Rows
variable {K : Frag} {C : Addr} {nm : String} {M : Model}
theorem own_fillsI_no {h : Heap} {cd : ClassData} {add : Bool} (X : K.In h) (hc : clsIn K C = some cd) (hm : cd.mro = [.ref C, .type "object"]) (hs : findIn K (.ref C) (dunderI nm) = some none) (ho : typeLookup (.type "object") (dunderI nm) = pure none) : Looks M h (fillsInplaceSlot (.ref C) nm add) false := by
  intro A Q E s k q
  have Lm : Looks M h (mroOf (.ref C)) cd.mro := (looks_clsIn X hc).andThen (f := fun cd => pure cd.mro) .now
  have Lm' := Lm.keeps k
  obtain ⟨hh, g, d, tt, os⟩ := s
  have X' : K.In hh := X.keeps k
  have L1 : Looks M hh (typeLookup (.ref C) (dunderI nm)) none := looks_findIn X' hs
  unfold fillsInplaceSlot
  refine wpAny_bind (Lm'.at ?_)
  rw [hm, List.anyM_cons]
  refine wpAny_bind ?_
  refine wpAny_bind (L1.at ?_)
  refine wpAny_pure ?_
  rw [List.anyM_cons]
  simp only [Bool.false_eq_true, if_false]
  refine wpAny_bind ?_
  rw [ho]
  refine wpAny_bind (wpAny_pure (wpAny_pure ?_))
  simp only [Bool.false_eq_true, if_false]
  exact wpAny_pure q
theorem own_inplace {prog : Program} {w : World} {A : Around} {E : Value → Shared → Prop} {s : Shared} {x f L : Addr} {h₀ : Heap} {m : Str → Option Value} {ox : Obj} {od : Option Obj} {op : Operator} {b : Value} {cd : ClassData} {Q : Value → Shared → Prop} (F : Fr h₀ L s.heap m) (X₀ : K.In h₀) (I : InstAt s.heap x ox C od) (hb : Looks (model prog w) s.heap (typeOf b) (.ref C))
    (hc : clsIn K C = some cd) (hm : cd.mro = [.ref C, .type "object"]) (hs0 : findIn K (.ref C) (dunderI op.info.2) = some none) (ho : typeLookup (.type "object") (dunderI op.info.2) = pure none)
    (hs : findIn K (.ref C) (PySem.dunder op.info.2) = some (some (.ref f))) (hf : isFn K (.ref f) = true)
    (h : wpAny (model prog w) A (call (.ref f) [.ref x, b]) (CmpBack Q) E s) : wpAny (model prog w) A (inplaceOp op (.ref x) b) Q E s := by
  have X := X₀.keeps F.keep
  unfold inplaceOp
  refine wpAny_holding ?_
  dsimp only
  refine wpAny_bind (I.type.here ?_)
  refine wpAny_bind ((own_fillsI_no X hc hm hs0 ho).here ?_)
  simp only [Bool.false_eq_true, if_false]
  refine wpAny_bind ?_
  unfold binaryOp1
  refine wpAny_bind (I.type.here (wpAny_bind (hb.here (wpAny_bind ((fills_K X hc hm hs).here ?_)))))
  simp only [beq_self_eq_true, if_true]
  refine wpAny_bind (wpAny_pure ?_)
  simp only [Bool.and_false, Bool.false_eq_true, if_false, Bool.false_and]
  refine wpAny_bind (wpAny_pure ?_)
  simp only [Bool.false_eq_true, if_false]
  refine wpAny_bind (m := tryMethod (.ref x) _ b) ?_
  unfold tryMethod
  refine wpAny_bind (special_fn X I hs (beq_iff_eq.mp hf) (wpAny_mono h (fun v s' hv => ?_) fun _ _ e => e))
  cases v <;> first | exact hv.elim | exact wpAny_pure (wpAny_pure (wpAny_pure hv))
end PySem.W
namespace RM
open PySem PySem.Spec PyProof.Rows L2 CS RZ
/-! ### x op= e of an own class without in-place methods -/
structure HasAug (P : Program) (w : World) (K : PySem.W.Frag) (mg : Str → Option Value) (base : Heap) (g : Glob) (j : Nat) (op : Operator) (c : Nat) (ps : List Str) (sd : SpD) : Prop where
  ex : ∃ f fd cd, FnOk P w K mg base (L2.CX P w) j f fd ps (spD g sd) ∧ Binds K fd ps [] ∧ PySem.W.clsIn K (g.cls c) = some cd ∧ cd.mro = [.ref (g.cls c), .type "object"] ∧ PySem.W.findIn K (.ref (g.cls c)) (dunderI op.info.2) = some none ∧ typeLookup (.type "object") (dunderI op.info.2) = pure none ∧
    PySem.W.findIn K (.ref (g.cls c)) (PySem.dunder op.info.2) = some (some (.ref f)) ∧ PySem.W.isFn K (.ref f) = true
def cAugO (i : Nat) (sd : SpD) (te : CE) (c : Nat) : CS := fun ρ n e => ∃ fs, ρ[i]? = some (some (Sl.v (obj c fs))) ∧ te ρ n (fun y ρ1 n1 => (∃ fs2, y = obj c fs2) ∧ sd [obj c fs, y] n1 (fun z n2 => e.nx (ρ1.set i (some (Sl.v z))) n2) (fun w n2 => e.xc w ρ1 n2)) e.xc
section
variable {X : Cx} {g : Glob} {xk : WX} {pos pos' p : Pos} {j k c i : Nat} {x : Str} {ps : List Str} {e : Expr} {te : CE}
theorem pds_augO {op : Operator} {sd : SpD} (h : HasAug X.prog X.w X.K X.mg X.base g j op c ps sd) (hr : Room k X.A) (l : j ≤ k) (hx : ∀ σ, PassesAt (L2.CX X.prog X.w) X σ (WE xk σ)) (hN : X.N.Nodup) (hi : X.N[i]? = some x) (hxl : Loc X.env.scope x) (he : PD X g xk e te)
    (hf : X.fn x = true ∨ X.env.scope.names.lookup x = some .local := by first | exact .inl rfl | exact .inr rfl | assumption) : PDS X g xk (.AugAssign (.Name x pos') op e pos) (cAugO i sd te c) := by
  obtain ⟨f, fd, cd, F, hb, hcd, hm, hs0, ho, hs, hfn⟩ := h.ex
  refine ⟨⟨fun pins s σ H DD I h => ?_⟩⟩
  obtain ⟨C, ρ, n, O, ee, hK, E, ⟨fs, hρ, t⟩, lk⟩ := h
  obtain ⟨v, e1, iv⟩ := E.val i _ hρ
  obtain ⟨m, hn, hl⟩ := I.loc
  have vis : Vis X.env.scope x := by rcases hxl with k | k; exact .inl k; exact .inr (.inl k)
  obtain ⟨u, r, lo⟩ := hl i x v hi e1 vis
  refine wpAny_AugAssign_Name ?_
  have go : wpAny (model X.prog X.w) X.A (eval e X.env) (fun w s₂ => wpAny (model X.prog X.w) X.A (inplaceOp op u w) (fun r s₃ => wpAny (model X.prog X.w) X.A (storeName X.env x r) (fun _ => SP X pins DD .next) X.xe s₃) X.xe s₂) X.xe s := by
    refine thn (he.pe.run pins s σ H (fun y H1 => ∃ (d : D) (ρ1 : En) (n1 : Nat) (O1 : Ow), ((∃ fs2, d = obj c fs2) ∧ sd [obj c fs, d] n1 (fun z n2 => ee.nx (ρ1.set i (some (Sl.v z))) n2) (fun w n2 => ee.xc w ρ1 n2)) ∧ Ev C ρ1 n1 σ H1 O1 ∧ Same (hid C O H) (hid C O1 H1) ∧ Is C.T (hid C O1 H1) y d) I
      ⟨C, ρ, n, O, _, _, hK, E, t, lk.xc, fun d ρ1 n1 w H1 O1 k1 E1 S1 i1 => ⟨d, ρ1, n1, O1, k1, E1, S1, i1⟩⟩) fun w s1 ⟨y, H1, I1, r1, d, ρ1, n1, O1, ⟨⟨fs2, e2⟩, sdd⟩, E1, S1, i1⟩ => ?_
    subst e2
    have iv1 := iv.same S1
    obtain ⟨p1, dx1, us1, ex1, g1, _, _⟩ := isObj iv1
    obtain ⟨p2, dx2, us2, ey1, g2, _, _⟩ := isObj i1
    subst ex1
    subst ey1
    obtain rfl : u = Value.ref p1 := r
    obtain rfl : w = Value.ref p2 := r1
    rw [hK.2] at g1 g2
    obtain ⟨ox, od, J1⟩ := inst_of I1 (hid_le _ _ g1)
    obtain ⟨ox2, od2, J2⟩ := inst_of I1 (hid_le _ _ g2)
    obtain ⟨m, hfr⟩ := I1.fr
    refine PySem.W.own_inplace hfr I1.ok.mod.kin J1 (J2.type) hcd hm hs0 ho hs hfn ?_
    refine thn (run_fnSD (us := [.ref p1, .ref p2]) (ds := []) (dvs := []) (vs := [.ref p1, .ref p2]) (Q := fun v3 H3 => ∃ (z : D) (n3 : Nat), ee.nx (ρ1.set i (some (Sl.v z))) n3 ∧ Ev C ρ1 n3 σ H3 O1 ∧ Same (hid C O1 H1) (hid C O1 H3) ∧ Is C.T (hid C O1 H3) v3 z) (E := WE xk) F (hr.mono l) hb .nil (hx σ) I1 (.cons rfl (.cons rfl .nil))
      (spD_use hK E1 lk.xc (.cons iv1 (.cons i1 .nil)) sdd fun d n' v H' a b c i => ⟨d, n', a, b, c, i⟩)) fun r s' hr' => ?_
    obtain ⟨v3, H3, I3, rv3, z, n3, q3, E3, S3, i3⟩ := hr'
    refine cmpBack_of rv3 ?_
    refine store_ok I3 hN hi hxl rv3 (fun s3 I4 => ?_) hf
    obtain ⟨E5, S5⟩ := E3.set (i := i) i3
    exact ⟨_, H3, I4, lk.nx _ _ _ _ _ q3 E5 ((S1.trans S3).trans S5)⟩
  rcases lo with ⟨hk, hm⟩ | ⟨hk, c, hc, hcell⟩
  · exact wpAny_loadName_local I.ok.kind hk hn hm go
  · rcases hk with hk | hk
    · exact wpAny_loadName_cell I.ok.kind hk hc hcell go
    · rcases hxl with k | k
      · have : X.env.scope.names.lookup x = some .free := hk
        rw [k] at this; cases this
      · have : X.env.scope.names.lookup x = some .free := hk
        rw [k] at this; cases this
/-! isinstance of an own class -/
def kindD : D → Option String
  | .none => some "NoneType"
  | .bool _ => some "bool"
  | .int _ => some "int"
  | .str _ => some "str"
  | .list _ => some "list"
  | .tuple _ => some "tuple"
  | .dict _ => none
def kinds : List String := ["NoneType", "bool", "int", "str", "list", "tuple"]
theorem kind_mem {d : D} {t : String} (h : kindD d = some t) : t ∈ kinds := by
  cases d <;> cases h <;> decide
theorem kind_ty {T : Tab} {H : Hp} {v : V} {d : D} {t : String} (h : Is T H v d) (e : kindD d = some t) : TyX T.K H v (.type t) := by
  cases h with
  | lst h r =>
    cases e
    exact .base (.lst h)
  | tup h r =>
    cases e
    rcases h with (h | ⟨o, h⟩) | ⟨o, its, n, h, hc, _⟩
    · exact .base (.tup h)
    · exact .fTuple h
    · exact .kTuple h hc
  | non => cases e; exact .base .non
  | bl b => cases e; exact .base (.bl b)
  | int b => cases e; exact .base (.int b)
  | str b => cases e; exact .base (.str b)
  | _ => cases e
structure KnC (K : PySem.W.Frag) (C : Addr) : Prop where
  ins : C8.InsC K C
  no : ∀ t ∈ kinds, PySem.W.kitOne K (.type t) (.ref C) = some false
  nf : ∀ t ∈ kinds, PySem.W.notFirst K C (.type t) = true
def isCD (c : Nat) (d : D) : Option Bool := match d with
  | .dict ((.none, .int i) :: _) => if i = (c : Nat) then some true else none
  | d => (kindD d).map fun _ => false
theorem isCD_obj (c : Nat) (fs : List (D × D)) : isCD c (obj c fs) = some true := by
  show (if ((c : Nat) : Int) = (c : Nat) then some true else none) = some true
  rw [if_pos rfl]
theorem isCD_use {c : Nat} {d : D} {b : Bool} (h : isCD c d = some b) : (b = true ∧ ∃ fs, d = obj c fs) ∨ (b = false ∧ ∃ t, kindD d = some t) := by
  unfold isCD at h
  split at h
  · obtain ⟨e, rfl⟩ := ifs h
    exact .inl ⟨rfl, _, by rw [e]; rfl⟩
  · rw [Option.map_eq_some_iff] at h
    obtain ⟨t, h1, rfl⟩ := h
    exact .inr ⟨rfl, t, h1⟩
def cIsC (o : Opd) (c : Nat) : CE := fun ρ n k ke => cOpd o ρ n (fun get ρ1 n1 => ∃ d b, get ρ1 = some d ∧ isCD c d = some b ∧ k (.bool b) ρ1 n1) ke
theorem pd_isC {y : Str} {py : Pos} {o : Opd} (G : Good X g) (hI : KnC X.K (g.cls c)) (hmc : X.mg y = some (.ref (g.cls c))) (hgc : Gl X y) (hg : Gl X "isinstance") (hm : X.mg "isinstance" = none) (h : PDQ X g xk e o) (hdy : (y == ("__debug__" : Str)) = false := by decide)
    (hs : starEach [e, .Name y py] X.env = (false, eval e X.env) :: starEach [.Name y py] X.env := by rfl) (hs2 : starEach [.Name y py] X.env = (false, eval (.Name y py) X.env) :: starEach [] X.env := by rfl) (hpl : (backTo pos (starEach [.Name y py] X.env)).any (·.1) = false := by rfl) :
    PD X g xk (.Call (.Name "isinstance" p) [e, .Name y py] [] pos) (cIsC o c) := by
  refine ⟨PE.imp (pe_callB ((C8.call_isC hI.ins).or call_isi) hg hm (by decide +kernel) (pa_cons h.pe (pa_cons (pe_glob (v := .ref (g.cls c)) hgc hmc rfl hdy) pa_nil hs2) hs) (by decide) (by decide) hs hpl) fun σ H Q r => ?_⟩
  obtain ⟨C, ρ, n, O, k, ke, hK, E, t, x, q⟩ := r
  refine ⟨C, ρ, n, O, _, ke, hK, E, t, x, fun get ρ1 n1 v H1 O1 k1 E1 S1 p1 => ?_⟩
  obtain ⟨d, b, h1, h2, k1⟩ := k1
  rcases isCD_use h2 with ⟨rfl, fs, rfl⟩ | ⟨rfl, t, ht⟩
  · obtain ⟨a, dx, us, rfl, g1, _⟩ := pkObj hid_le (p1 _ _ _ _ _ E1 (Same.refl _) h1)
    rw [hK.2] at g1
    exact .inl ⟨a, dx, us, rfl, g1, q _ _ _ _ _ _ k1 E1 S1 (.bl true)⟩
  · have iv := kind_ty ((p1 _ _ _ _ _ E1 (Same.refl _) h1).is hid_le) ht
    exact .inr ⟨v, .ref (g.cls c), .type t, .ref (g.cls c), false, rfl, .own _, (hK.1.trans G.K) ▸ iv, hI.no t (kind_mem ht), q _ _ _ _ _ _ k1 E1 S1 (.bl false)⟩
/-! x[::-1] -/
def revD : D → Option D
  | .list ds => some (.list ds.reverse)
  | .tuple ds => some (.tuple ds.reverse)
  | _ => none
def cRev (te ts : CE) : CE := fun ρ n k ke => te ρ n (fun x ρ1 n1 => ts ρ1 n1 (fun y ρ2 n2 => y = .int (-1) ∧ ∃ z, revD x = some z ∧ k z ρ2 n2) ke) ke
theorem pd_rev {st : Expr} {ts : CE} {p2 : Pos} (G : Good X g) (he : PD X g xk e te) (hs : PD X g xk st ts) : PD X g xk (.Subscript e (.Slice none none (some st) p2) pos) (cRev te ts) := by
  refine ⟨PE.imp (pe_back he.pe hs.pe) fun σ H Q r => ?_⟩
  obtain ⟨C, ρ, n, O, k, ke, hK, E, t, x, q⟩ := r
  refine ⟨C, ρ, n, O, _, ke, hK, E, t, x, fun d ρ1 n1 v H1 O1 k1 E1 S1 i1 => ⟨C, ρ1, n1, O1, _, ke, hK, E1, k1, x, fun d2 ρ2 n2 v2 H2 O2 k2 E2 S2 i2 => ?_⟩⟩
  obtain ⟨rfl, z, hz, k2⟩ := k2
  have i3 := i1.same S2
  refine ⟨i2.int', ?_⟩
  unfold revD at hz
  split at hz
  · cases hz
    obtain ⟨a, xs, rfl, ha, r⟩ := i3.list'
    refine ⟨a, xs, rfl, .inr ⟨SqL.of (hid_le _ _ ha), fun p hp => ?_⟩⟩
    obtain ⟨E3, S3, e3⟩ := E2.new (o := .lst xs.reverse) hp
    exact q _ _ _ _ _ _ k2 E3 ((S1.trans S2).trans S3) (.lst e3 (r.reverse.same S3))
  · cases hz
    obtain ⟨a, xs, rfl, ha, r⟩ := i3.tup'
    refine ⟨a, xs, rfl, .inl ⟨(hK.1.trans G.K) ▸ sqt_same hid_le ha, fun p hp => ?_⟩⟩
    obtain ⟨E3, S3, e3⟩ := E2.new (o := .tup xs.reverse) hp
    exact q _ _ _ _ _ _ k2 E3 ((S1.trans S2).trans S3) (.tup (.inl (.inl e3)) (r.reverse.same S3))
  · cases hz
end
end RM
namespace RM
open PySem PySem.Spec PyProof.Rows L2 CS RZ
/-! ### an object made with its last argument left out -/
structure HasC1 (P : Program) (w : World) (K : PySem.W.Frag) (mg : Str → Option Value) (base : Heap) (g : Glob) (j : Nat) (x : Str) (c : Nat) (ps : List Str) (d0 : D) (sd : SpI) : Prop where
  ex : ∃ f fd u0 v0, Mk K (g.cls c) f ∧ FnOk P w K mg base (L2.CX P w) j f fd ps (spI g c sd) ∧ Binds K fd ps [u0] ∧ mg x = some (.ref (g.cls c)) ∧ RelV v0 u0 ∧ ∀ (T : Tab) (H : Hp), T.K = K → Is T H v0 d0
def cMake1 (c : Nat) (sd : SpI) (d0 : D) (ta : CA) : CE := fun ρ n k ke => ta ρ n (fun ds ρ1 n1 => sd (ds ++ [d0]) n1 (fun fs n2 => k (obj c fs) ρ1 n2) (fun y n2 => ke y ρ1 n2)) ke
section
variable {X : Cx} {g : Glob} {xk : WX} {pos p : Pos} {j k c : Nat} {x : Str} {ps : List Str} {e : Expr} {es : List Expr} {ta : CA} {d0 : D}
theorem pd_new1 {sd : SpI} (G : Good X g) (h : HasC1 X.prog X.w X.K X.mg X.base g j x c ps d0 sd) (hr : Room k X.A) (l : j + 1 ≤ k) (hg : Gl X x) (hx : ∀ σ, PassesAt (L2.CX X.prog X.w) X σ (WE xk σ)) (ha : PDA X g xk (e :: es) ta)
    (hdb : (x == ("__debug__" : Str)) = false := by decide) (he : starEach (e :: es) X.env = (false, eval e X.env) :: starEach es X.env := by rfl) (hpl : (backTo pos (starEach es X.env)).any (·.1) = false := by rfl) : PD X g xk (.Call (.Name x p) (e :: es) [] pos) (cMake1 c sd d0 ta) := by
  obtain ⟨f, fd, u0, v0, M, F, hb, hm, rv, hd0⟩ := h.ex
  refine ⟨⟨fun pins s σ H Q I h => ?_⟩⟩
  obtain ⟨C, ρ, n, O, k, ke, hK, E, t, xl, q⟩ := h
  refine wpAny_Call_Name_kw (ld_glob I hg hm ?_ hdb)
  refine PySem.W.callWith_K (h₀ := X.base) I.ok.mod.kin M.kp (thn (ha.pa.run pos pins s σ H (fun vs H1 => ∀ x dx, H1 x = none → H1 dx = none → dx ≠ x → spI g c sd (.ref x :: (vs ++ [v0])) (upd (upd H1 dx (.own x)) x (.ins (g.cls c) dx [])) (fun v H2 => v = .non ∧ Q (.ref x) H2) (WE xk σ)) I ⟨C, ρ, n, O, _, ke, hK, E, t, xl, fun ds ρ1 n1 vs H1 O1 k1 E1 S1 i1 => fun x dx hx hdx ne => ?_⟩) fun us s1 ⟨vs, H1, I1, r, q1⟩ => ⟨I1.kIn, ?_⟩) he hpl
  · exact spI_use hK E1 xl (i1.append (.cons (hd0 _ _ (hK.1.trans G.K)) .nil)) k1 hx hdx ne fun fs n' v H' a b c i => q _ _ _ _ _ _ a b (S1.trans c) i
  · exact run_makeS (ds := [u0]) (dvs := [v0]) (E := WE xk) M F (hr.mono l) hb (.cons rv .nil) (hx σ) I1 r q1
end
end RM
namespace RM
open PySem PySem.Spec PyProof.Rows L2 CS RZ
/-! ### dict of a list of pairs, keys of text, none twice -/
def pairsD (ps : List (Str × D)) : List D := ps.map fun p => .tuple [.str p.1, p.2]
def strK (ps : List (Str × D)) : List (D × D) := ps.map fun p => (.str p.1, p.2)
def gDictS (ds : List D) (z : D) : Prop := ∃ ps : List (Str × D), ds = [.list (pairsD ps)] ∧ (ps.map Prod.fst).Nodup ∧ z = .dict ((.none, .bool false) :: strK ps)
theorem merge_new : ∀ (kvs acc : List (L2.Key × V)), ((acc ++ kvs).map Prod.fst).Nodup → L2.mergeK acc kvs = acc ++ kvs
  | [], acc, _ => by rw [List.append_nil]; rfl
  | kv :: kvs, acc, h => by
    have e : acc ++ kv :: kvs = (acc ++ [kv]) ++ kvs := by rw [List.append_assoc]; rfl
    have hn : kv.1 ∉ acc.map Prod.fst := by
      rw [List.map_append, List.map_cons] at h
      intro z
      exact (List.nodup_append.mp h).2.2 _ z _ (List.mem_cons_self ..) rfl
    have hp : L2.putK acc kv.1 kv.2 = acc ++ [kv] := by
      unfold L2.putK
      rw [if_neg]
      intro z
      obtain ⟨y, h1, h2⟩ := List.any_eq_true.mp z
      exact hn (of_decide_eq_true h2 ▸ List.mem_map_of_mem h1)
    show L2.mergeK (L2.putK acc kv.1 kv.2) kvs = _
    rw [hp, e]
    exact merge_new kvs (acc ++ [kv]) (by rw [← e]; exact h)
theorem isL_pairs {T : Tab} {H : Hp} : ∀ {ps : List (Str × D)} {us : List V}, IsL T H us (pairsD ps) → ∃ (as : List Addr) (kvs : List (L2.Key × V)), us = as.map V.ref ∧ Paired (fun p (kv : L2.Key × V) => SqT T.K H p [kV kv.1, kv.2]) as kvs ∧ IsK T H kvs (strK ps) ∧ kvs.map Prod.fst = ps.map fun p => Sum.inr p.1
  | [], _, h => by
    cases h
    exact ⟨[], [], rfl, .nil, .nil, rfl⟩
  | p :: ps, _, h => by
    cases h with
    | cons a b =>
      obtain ⟨as, kvs, rfl, h1, h2, h3⟩ := isL_pairs b
      obtain ⟨q, xs, rfl, hq, r⟩ := a.tup'
      obtain ⟨v, u, rfl, iv, iu⟩ := r.two
      rw [iv.str'] at hq
      exact ⟨q :: as, (.inr p.1, u) :: kvs, rfl, .cons hq h1, .cons (k := .inr p.1) iu h2, by rw [List.map_cons, List.map_cons, h3]⟩
theorem paired_sq {K : PySem.W.Frag} {H H' : Hp} (s : Same H H') : ∀ {as : List Addr} {kvs : List (L2.Key × V)}, Paired (fun p (kv : L2.Key × V) => SqT K H p [kV kv.1, kv.2]) as kvs → Paired (fun p (kv : L2.Key × V) => SqT K H' p [kV kv.1, kv.2]) as kvs
  | _, _, .nil => .nil
  | _, _, .cons h t => .cons (sqt_same s h) (paired_sq s t)
theorem cd_dictS {X : Cx} (hc : X.calm = true) : CallD X (.type "dict") gDictS := by
  refine ⟨_, call_dictP hc, fun T Hh H vs ds z Q hK s il hg q => ?_⟩
  obtain ⟨ps, rfl, hn, rfl⟩ := hg
  obtain ⟨v, rfl, iv⟩ := il.one
  obtain ⟨a, us, rfl, ha, r⟩ := iv.list'
  obtain ⟨as, kvs, rfl, h1, h2, h3⟩ := isL_pairs r
  refine ⟨a, as, kvs, rfl, SqL.of (s _ _ ha), hK ▸ paired_sq s h1, fun p hp => ?_⟩
  have hm : L2.mergeK [] kvs = kvs := by
    refine merge_new kvs [] ?_
    rw [List.nil_append, h3]
    have : (ps.map fun p => (Sum.inr p.1 : L2.Key)) = (ps.map Prod.fst).map Sum.inr := by rw [List.map_map]; rfl
    rw [this]
    exact List.Pairwise.map _ (fun a b hab z => hab (Sum.inr.inj z)) hn
  rw [hm]
  exact q _ _ (same_new hp) fun Hx s1 s2 => .dk (.inl (s2 _ _ upd_same hp)) (h2.same s1)
end RM
namespace RM
open PySem PySem.Spec PyProof.Rows L2 CS RZ
/-! ### a comprehension with two walks -/
theorem lcG_it {J : It} {n : Nat} {G : Hp → Prop} {Y : Nat → Hp → V → Hp → Prop} (w : Walk J n G Y) {g : TG} {tt : TT} {te : TE} {vs : List Nat} {σ : L2.St} {H0 : Hp} {Da : Addr} {Qd : Hp → Prop} (Pv : Nat → Hp → Prop) (h0 : Pv 0 H0) (hG : ∀ i H, i ≤ n → Pv i H → G H)
    (hs : ∀ i x H H', i < n → Pv i H → Y i H x H' → g x (wipe σ vs) H' fun σ2 H2 => wipe σ2 vs = wipe σ vs ∧ tt σ2 H2 fun b H3 =>
      if b = true then te σ2 H3 fun y H4 => ∃ acc, H4 Da = some (.lst acc) ∧ acc.length < sizeLine ∧ Pv (i + 1) (upd H4 Da (.lst (acc ++ [y]))) else Pv (i + 1) H3) (hd : ∀ H, Pv n H → Qd H) :
    ∃ W : Nat → Nat → Hp → Prop, (∃ m, W 0 m H0) ∧ ∀ i m H, W i m H →
      (J.stop i H ∧ Qd H) ∨ (J.go i H ∧ ∃ Nx : Hp → Prop, (∀ H', Nx H' → ∃ m', m' < m ∧ W (i + 1) m' H') ∧ ∀ x H', J.yld i H x H' → g x (wipe σ vs) H' fun σ2 H2 => wipe σ2 vs = wipe σ vs ∧ tt σ2 H2 fun b H3 =>
        if b = true then te σ2 H3 fun y H4 => ∃ acc, H4 Da = some (.lst acc) ∧ acc.length < sizeLine ∧ Nx (upd H4 Da (.lst (acc ++ [y]))) else Nx H3) := by
  refine ⟨fun i m H => m = n - i ∧ i ≤ n ∧ Pv i H, ⟨n, by simp, Nat.zero_le _, h0⟩, ?_⟩
  rintro i m H ⟨rfl, hi, p⟩
  by_cases hlt : i < n
  · exact .inr ⟨w.goes i H hlt (hG i H hi p), Pv (i + 1), fun H' p' => ⟨n - (i + 1), by omega, rfl, hlt, p'⟩, fun x H' y => hs i x H H' hlt p (w.yields i H x H' hlt (hG i H hi p) y)⟩
  · obtain rfl : i = n := by omega
    exact .inl ⟨w.stops H (hG i H hi p), hd H p⟩
def cLcL2 (cg : CG) (tt : CT) (ci1 : CA) (cg1 : CG) (tt1 : CT) (te : CE) (vs vs1 : List Nat) : List D → En → Nat → List D → (List D → En → Nat → Prop) → Prop
  | [], ρ, n, acc, k => k acc ρ n
  | d :: ds, ρ, n, acc, k => ∃ ρ1, cg d ρ = some ρ1 ∧ tt ρ1 n (fun b ρ2 n2 => if b = true then ci1 ρ2 n2 (fun es ρ3 n3 => cLcL cg1 tt1 te vs1 es (wipeE ρ3 vs1) n3 acc (fun acc' ρ4 n4 => cLcL2 cg tt ci1 cg1 tt1 te vs vs1 ds (wipeE ρ4 vs) n4 acc' k)) kF
      else cLcL2 cg tt ci1 cg1 tt1 te vs vs1 ds (wipeE ρ2 vs) n2 acc k) kF
def cLc2 (ci : CA) (cg : CG) (tt : CT) (ci1 : CA) (cg1 : CG) (tt1 : CT) (te : CE) (vs vs1 : List Nat) : CE := fun ρ n k ke => ci ρ n (fun ds ρ' n' => cLcL2 cg tt ci1 cg1 tt1 te vs vs1 ds (wipeE ρ' vs) n' [] (fun acc ρ2 n2 => k (.list acc) ρ2 n2)) ke
section
variable {X : Cx} {g : Glob} {xk : WX} {pos : Pos}
theorem inner_use {C : Ctx} {ρ : En} {n : Nat} {O : Ow} {σ : L2.St} {H : Hp} {Da : Addr} {accV : List V} {acc es : List D} {J : It} {k : List D → En → Nat → Prop} {Nx : Hp → Prop} {cg : CG} {js vs : List Nat} {tt : CT} {te : CE} (hK : C.On g) (f1 : ¬ C.Z Da) (f4 : C.T.bx ≠ some Da) (f3 : C.H0 Da = none) (hj : ∀ j ∈ js, j ∈ vs)
    (E : Ev C ρ n σ (out H Da) O) (eD : H Da = some (.lst accV)) (iA : IsL C.T (hid C O (out H Da)) accV acc) (WD : WalkD C.T J es (hid C O (out H Da))) (c : cLcL cg tt te vs es (wipeE ρ vs) n acc k)
    (fin : ∀ (acc' : List D) (accV' : List V) (ρ' : En) (n' : Nat) (O' : Ow) (H' : Hp), k acc' ρ' n' → Ev C ρ' n' (wipe σ vs) (out H' Da) O' → H' Da = some (.lst accV') → IsL C.T (hid C O' (out H' Da)) accV' acc' → Same (hid C O (out H Da)) (hid C O' (out H' Da)) → Nx H') :
    ∃ W : Nat → Nat → Hp → Prop, (∃ m, W 0 m H) ∧ ∀ i m H, W i m H →
      (J.stop i H ∧ Nx H) ∨ (J.go i H ∧ ∃ N1 : Hp → Prop, (∀ H', N1 H' → ∃ m', m' < m ∧ W (i + 1) m' H') ∧ ∀ x H', J.yld i H x H' → liftG g js cg x (wipe σ vs) H' fun σ2 H2 => wipe σ2 vs = wipe σ vs ∧ liftT g xF tt σ2 H2 fun b H3 =>
        if b = true then lift g xF te σ2 H3 fun y H4 => ∃ acc, H4 Da = some (.lst acc) ∧ acc.length < sizeLine ∧ N1 (upd H4 Da (.lst (acc ++ [y]))) else N1 H3) := by
  obtain ⟨Gd, Y, WK, hG, hY⟩ := WD.ex
  refine lcG_it WK (fun j H2 => ∃ (ρ2 : En) (n2 : Nat) (O2 : Ow) (acc2 : List D) (accV2 : List V), Ev C ρ2 n2 (wipe σ vs) (out H2 Da) O2 ∧ H2 Da = some (.lst accV2) ∧ IsL C.T (hid C O2 (out H2 Da)) accV2 acc2 ∧ cLcL cg tt te vs (es.drop j) ρ2 n2 acc2 k ∧ Same (hid C O (out H Da)) (hid C O2 (out H2 Da))) ?_ ?_ ?_ ?_
  · exact ⟨_, n, _, acc, accV, E.wipes vs, eD, iA.same (hid_cuts vs), c, hid_cuts vs⟩
  · rintro i H2 _ ⟨ρ2, n2, O2, acc2, accV2, E2, eD2, iA2, c2, S2⟩
    exact hG _ ((S2.trans hid_le).trans out_le)
  · rintro i x0 H2 H3 hi' ⟨ρ2, n2, O2, acc2, accV2, E2, eD2, iA2, c2, S2⟩ y
    have hd : es.drop i = es[i] :: es.drop (i + 1) := List.drop_eq_getElem_cons hi'
    rw [hd] at c2
    obtain ⟨ρ3, e3, c3⟩ := c2
    obtain ⟨sY, iY⟩ := hY i x0 H2 H3 es[i] ((S2.trans hid_le).trans out_le) y (List.getElem?_eq_getElem hi')
    have E4 := E2.hide eD2
    have E5 := E4.ext sY
    have h45 := hid_same (C := C.plus Da (.lst accV2)) (O := O2) sY
    have S6 : Same (hid C O (out H Da)) (hid (C.plus Da (.lst accV2)) O2 H3) := by
      refine Same.trans ?_ h45
      rw [hid_plus]
      exact S2
    have ix : Is C.T (hid (C.plus Da (.lst accV2)) O2 H3) x0 es[i] := iY _ S6 fun b u h1 h2 => let ⟨g1, g2, _, _⟩ := E4.fresh h2; hid_of h1 g1 g2
    refine ⟨C.plus Da (.lst accV2), ρ2, ρ3, n2, O2, es[i], hK, E5, ix, e3, fun σ4 O4 E6 S7 A4 => ⟨wipe_wp A4 hj, ?_⟩⟩
    have wp := wipe_wp A4 hj
    refine ⟨C.plus Da (.lst accV2), ρ3, n2, O4, _, kF, hK, E6, c3, xl_F, fun b ρ5 n5 H5 O5 c5 E7 S8 => ?_⟩
    cases b with
    | false =>
      show ∃ _, _
      obtain ⟨E8, eD8⟩ := E7.unhide f1 f4 f3
      have E9 := E8.wipes vs
      rw [wp] at E9
      have S10 := (h45.trans S7).trans S8
      rw [hid_plus, hid_plus] at S10
      exact ⟨_, _, _, acc2, accV2, E9, eD8, (iA2.same S10).same (hid_cuts vs), c5, (S2.trans S10).trans (hid_cuts vs)⟩
    | true =>
      refine ⟨C.plus Da (.lst accV2), ρ5, n5, O5, _, kF, hK, E7, c5, xl_F, fun yd ρ6 n6 yv H6 O6 c6 E8 S9 iy => ?_⟩
      obtain ⟨E9, eD9⟩ := E8.unhide f1 f4 f3
      refine ⟨accV2, eD9, by rw [iA2.length]; exact lim_lt c6.1, ?_⟩
      have E10 := E9.wipes vs
      rw [wp] at E10
      have S10 := ((h45.trans S7).trans S8).trans S9
      rw [hid_plus, hid_plus] at S10
      rw [hid_plus] at iy
      refine ⟨_, _, cutOs O6 vs, acc2 ++ [yd], accV2 ++ [yv], ?_, upd_same, ?_, c6.2, ?_⟩
      · rw [out_upd]
        exact E10
      · rw [out_upd]
        exact ((iA2.same S10).append (.cons iy .nil)).same (hid_cuts vs)
      · rw [out_upd]
        exact (S2.trans S10).trans (hid_cuts vs)
  · rintro H2 ⟨ρ2, n2, O2, acc2, accV2, E2, eD2, iA2, c2, S2⟩
    rw [List.drop_length] at c2
    exact fin _ _ _ _ _ _ c2 E2 eD2 iA2 S2
theorem wipe_sub {σ : L2.St} {vs vs1 : List Nat} (h : ∀ i ∈ vs1, i ∈ vs) : wipe (wipe σ vs1) vs = wipe σ vs := by
  refine List.ext_getElem? fun j => ?_
  rw [wipe_get, wipe_get, wipe_get]
  split
  · split
    · cases σ[j]? <;> rfl
    · rfl
  · rename_i c
    rw [if_neg fun z => c (h j z)]
theorem lc2_use {ci ci1 : CA} {cg cg1 : CG} {js js1 vs vs1 : List Nat} {tt tt1 : CT} {te : CE} (hj : ∀ j ∈ js, j ∈ vs) (hj1 : ∀ j ∈ js1, j ∈ vs1) (hv : ∀ i ∈ vs1, i ∈ vs) {σ : L2.St} {H : Hp} {Q : VK} (r : liftF g xk (cLc2 ci cg tt ci1 cg1 tt1 te vs vs1) σ H Q) :
    tLc2 (liftI g xk ci) (liftG g js cg) (liftT g xF tt) (liftI g xF ci1) (liftG g js1 cg1) (liftT g xF tt1) (lift g xF te) vs vs1 σ H Q := by
  obtain ⟨C, ρ, n, O, k, ke, hK, E, t, x, q⟩ := r
  refine ⟨C, ρ, n, O, _, ke, hK, E, t, x, fun ds ρ1 n1 J H1 O1 k1 E1 S1 WD => ?_⟩
  intro Da nD
  obtain ⟨f1, f2, f3, f4⟩ := E1.fresh nD
  obtain ⟨Gd, Y, WK, hG, hY⟩ := WD.ex
  let Pv : Nat → Hp → Prop := fun i H => ∃ (ρ : En) (n : Nat) (O : Ow) (acc : List D) (accV : List V), Ev C ρ n (wipe σ vs) (out H Da) O ∧ H Da = some (.lst accV) ∧ IsL C.T (hid C O (out H Da)) accV acc ∧
    cLcL2 cg tt ci1 cg1 tt1 te vs vs1 (ds.drop i) ρ n acc (fun acc ρ2 n2 => k (.list acc) ρ2 n2) ∧ Same (hid C O1 H1) (hid C O (out H Da))
  refine ⟨fun i m H => m = ds.length - i ∧ i ≤ ds.length ∧ Pv i H, ⟨ds.length, by simp, Nat.zero_le _, ?_⟩, ?_⟩
  · refine ⟨_, n1, _, [], [], (by rw [out_new nD]; exact E1.wipes vs), upd_same, .nil, k1, ?_⟩
    rw [out_new nD]
    exact hid_cuts vs
  rintro i m H2 ⟨rfl, hi, ρ2, n2, O2, acc, accV, E2, eD, iA, c2, S2⟩
  have S2' : Same (hid C O1 H1) H2 := (S2.trans hid_le).trans out_le
  by_cases hlt : i < ds.length
  · refine .inr ⟨WK.goes i H2 hlt (hG _ S2'), Pv (i + 1), fun H' p' => ⟨ds.length - (i + 1), by omega, rfl, hlt, p'⟩, fun x0 H3 y0 => ?_⟩
    have y := WK.yields i H2 x0 H3 hlt (hG _ S2') y0
    have hd : ds.drop i = ds[i] :: ds.drop (i + 1) := List.drop_eq_getElem_cons hlt
    rw [hd] at c2
    obtain ⟨ρ3, e3, c3⟩ := c2
    obtain ⟨sY, iY⟩ := hY i x0 H2 H3 ds[i] S2' y (List.getElem?_eq_getElem hlt)
    have E4 := E2.hide eD
    have E5 := E4.ext sY
    have h45 := hid_same (C := C.plus Da (.lst accV)) (O := O2) sY
    have S6 : Same (hid C O1 H1) (hid (C.plus Da (.lst accV)) O2 H3) := by
      refine Same.trans ?_ h45
      rw [hid_plus]
      exact S2
    have ix : Is C.T (hid (C.plus Da (.lst accV)) O2 H3) x0 ds[i] := iY _ S6 fun b u h1 h2 => let ⟨g1, g2, _, _⟩ := E4.fresh h2; hid_of h1 g1 g2
    refine ⟨C.plus Da (.lst accV), ρ2, ρ3, n2, O2, ds[i], hK, E5, ix, e3, fun σ4 O4 E6 S7 A4 => ⟨wipe_wp A4 hj, ?_⟩⟩
    have wp := wipe_wp A4 hj
    refine ⟨C.plus Da (.lst accV), ρ3, n2, O4, _, kF, hK, E6, c3, xl_F, fun b ρ5 n5 H5 O5 c5 E7 S8 => ?_⟩
    cases b with
    | false =>
      show ∃ _, _
      obtain ⟨E8, eD8⟩ := E7.unhide f1 f4 f3
      have E9 := E8.wipes vs
      rw [wp] at E9
      have S10 := (h45.trans S7).trans S8
      rw [hid_plus, hid_plus] at S10
      exact ⟨_, _, _, acc, accV, E9, eD8, (iA.same S10).same (hid_cuts vs), c5, (S2.trans S10).trans (hid_cuts vs)⟩
    | true =>
      refine ⟨C.plus Da (.lst accV), ρ5, n5, O5, _, kF, hK, E7, c5, xl_F, fun es ρ6 n6 J1 H6 O6 c6 E8 S9 WD1 => ?_⟩
      obtain ⟨E9, eD9⟩ := E8.unhide f1 f4 f3
      have S10 := ((h45.trans S7).trans S8).trans S9
      rw [hid_plus, hid_plus] at S10
      rw [hid_plus] at WD1
      refine inner_use hK f1 f4 f3 hj1 E9 eD9 (iA.same S10) WD1 c6 fun acc' accV' ρ' n' O' H' k' E' eD' iA' S' => ?_
      have E10 := E'.wipes vs
      rw [wipe_sub hv, wp] at E10
      exact ⟨_, _, _, acc', accV', E10, eD', iA'.same (hid_cuts vs), k', ((S2.trans S10).trans S').trans (hid_cuts vs)⟩
  · obtain rfl : i = ds.length := by omega
    rw [List.drop_length] at c2
    exact .inl ⟨WK.stops H2 (hG _ S2'), q _ _ _ _ _ _ _ c2 E2.unwipe (S1.trans S2) out_same out_le (.lst eD iA) rfl⟩
end
end RM
namespace RM
open PySem PySem.Spec PyProof.Rows L2 CS RZ
section
variable {X : Cx} {g : Glob} {xk : WX}
theorem pds_ownLc2 {i : Nat} {y : Str} {py : Pos} {elt tg iter tg1 iter1 : Expr} {ifs ifs1 : List Expr} {scope : Scope} {own : List (Str × Nat)} {vs1 : List Nat} {pos spos : Pos} {ci ci1 : CA} {cg cg1 : CG} {js js1 : List Nat} {tt tt1 : CT} {te : CE} (hc : X.calm = true) (hN : X.N.Nodup) (hy : X.N[i]? = some y) (hyl : X.env.scope.names.lookup y = some .local)
    (hi : PDI X g xk tg iter ci) (ok : BlkOk X.N X.env.scope scope own)
    (hg : ∀ (s : Shared) (H : Hp) (C : Addr) (cl : List (Str × Addr)) (fp : List Addr), PDG (X.blk s H scope (compEnvC scope cl C X.env) fp) g js tg cg) (ht : ∀ (s : Shared) (H : Hp) (C : Addr) (cl : List (Str × Addr)) (fp : List Addr), PDTs (X.blk s H scope (compEnvC scope cl C X.env) fp) g xF ifs tt)
    (hi1 : ∀ (s : Shared) (H : Hp) (C : Addr) (cl : List (Str × Addr)) (fp : List Addr), PDI (X.blk s H scope (compEnvC scope cl C X.env) fp) g xF tg1 iter1 ci1)
    (hg1 : ∀ (s : Shared) (H : Hp) (C : Addr) (cl : List (Str × Addr)) (fp : List Addr), PDG (X.blk s H scope (compEnvC scope cl C X.env) fp) g js1 tg1 cg1) (ht1 : ∀ (s : Shared) (H : Hp) (C : Addr) (cl : List (Str × Addr)) (fp : List Addr), PDTs (X.blk s H scope (compEnvC scope cl C X.env) fp) g xF ifs1 tt1)
    (he : ∀ (s : Shared) (H : Hp) (C : Addr) (cl : List (Str × Addr)) (fp : List Addr), PD (X.blk s H scope (compEnvC scope cl C X.env) fp) g xF elt te) (hsw : swapsWith (.ListComp elt [⟨tg, iter, ifs, 0⟩, ⟨tg1, iter1, ifs1, 0⟩] scope pos) (some (.Name y py)) spos.line X.env = pure true := by rfl)
    (hv : ∀ i ∈ vs1, i ∈ own.map (·.2) := by decide) (hj : ∀ j ∈ js, j ∈ own.map (·.2) := by decide) (hj1 : ∀ j ∈ js1, j ∈ vs1 := by decide) (hs : ∀ x, foldedSetIterable iter X.env x = pure x := by intro _; rfl) (hs1 : ∀ env x, foldedSetIterable iter1 env x = pure x := by intro _ _; rfl) :
    PDS X g xk (.Assign [.Name y py] (.ListComp elt [⟨tg, iter, ifs, 0⟩, ⟨tg1, iter1, ifs1, 0⟩] scope pos) spos) (cOwn i (cLc2 ci cg tt ci1 cg1 tt1 te (own.map (·.2)) vs1)) :=
  ⟨ps_imp (ps_setLc2 hc hN hy hyl hsw hi.pi ok hv (fun s H C cl fp => (hg s H C cl fp).pg) (fun s H C cl fp => (ht s H C cl fp).pts) (fun s H C cl fp => (hi1 s H C cl fp).pi) (fun s H C cl fp => (hg1 s H C cl fp).pg) (fun s H C cl fp => (ht1 s H C cl fp).pts) (fun s H C cl fp => (he s H C cl fp).pe) hs hs1) fun D σ H h => lc2_use hj hj1 hv (own_use h)⟩
end
end RM
namespace RM
open PySem PySem.Spec PyProof.Rows L2 CS RZ
/-! ### own == and in as tests -/
section
variable {X : Cx} {g : Glob} {xk : WX} {pos : Pos}
theorem pc_inO {CX : CXT} {sd : SpD} {k : Nat} {f : Addr} {fd : FuncData} {ps : List Str} {a b : Expr} {ta tb : CE} {c : Nat} {op : CmpOp} {neg : Bool} (hop : (op = .In ∧ neg = false) ∨ (op = .NotIn ∧ neg = true)) (F : FnOk X.prog X.w X.K X.mg X.base CX k f fd ps (spD g sd)) (hr : Room k X.A) (hb : Binds X.K fd ps []) (hx : ∀ σ, PassesAt CX X σ (WE xk σ))
    (hs : PySem.W.findIn X.K (.ref (g.cls c)) "__contains__" = some (some (.ref f))) (hf : PySem.W.isFn X.K (.ref f) = true) (h1 : PD X g xk a ta) (h2 : PD X g xk b tb) : PC X op a b (lift g xk (cInO neg sd ta tb c)) := by
  refine ⟨fun pins s σ H Q I h => ?_⟩
  obtain ⟨C, ρ, n, O, kk, ke, hK, E, t, x, q⟩ := h
  refine (binT (R := fun v w H2 => ∃ (d1 d2 : D) (ρ2 : En) (n2 : Nat) (O2 : Ow), ((∃ fs, d2 = obj c fs) ∧ sd [d2, d1] n2 (fun z n3 => ∃ b, z = .bool b ∧ kk (.bool (b != neg)) ρ2 n3) (fun w n3 => ke w ρ2 n3)) ∧ Ev C ρ2 n2 σ H2 O2 ∧ Same (hid C O H) (hid C O2 H2) ∧ Is C.T (hid C O2 H2) v d1 ∧ Is C.T (hid C O2 H2) w d2) h1.pe h2.pe I
    ⟨C, ρ, n, O, _, ke, hK, E, t, x, fun d1 ρ1 n1 v H1 O1 k1 E1 S1 i1 => ⟨C, ρ1, n1, O1, _, ke, hK, E1, k1, x, fun d2 ρ2 n2 w H2 O2 k2 E2 S2 i2 => ⟨d1, d2, ρ2, n2, O2, k2, E2, S1.trans S2, i1.same S2, i2⟩⟩⟩ ?_)
  rintro v u s2 x1 y1 H2 I2 rx ry ⟨d1, d2, ρ2, n2, O2, ⟨⟨fs1, e1⟩, sdd⟩, E2, S2, i1, i2⟩
  subst e1
  obtain ⟨p1, dx1, us1, ex1, g1, _, _⟩ := isObj i2
  subst ex1
  obtain rfl : u = Value.ref p1 := ry
  rw [hK.2] at g1
  obtain ⟨ox, od, J1⟩ := inst_of I2 (hid_le _ _ g1)
  obtain ⟨m, hfr⟩ := I2.fr
  have body : ∀ (f2 : Bool → Value), (∀ b : Bool, f2 b = .bool (b != neg)) → wpAny (model X.prog X.w) X.A (call (.ref f) [.ref p1, v]) (fun r s' => wpAny (model X.prog X.w) X.A (truthy r) (fun b => EP X pins σ Q (f2 b)) X.xe s') X.xe s2 := fun f2 hf2 => by
    refine thn (run_fnSD (us := [.ref p1, v]) (ds := []) (dvs := []) (vs := [.ref p1, x1]) (Q := fun w H3 => ∃ b, w = .bl b ∧ Q (.bl (b != neg)) H3) (E := WE xk) F hr hb .nil (hx σ) I2 (.cons rfl (.cons rx .nil)) (spD_use hK E2 x (.cons i2 (.cons i1 .nil)) sdd fun d n' v H' a b c i => ?_)) fun r s' hr' => ?_
    · obtain ⟨bb, rfl, a⟩ := a
      exact ⟨bb, isBl i, q _ _ _ _ _ _ a b (S2.trans c) (.bl _)⟩
    · obtain ⟨v3, H3, I3, rv3, bb, rfl, q3⟩ := hr'
      obtain rfl : r = Value.bool bb := rv3
      refine thn (tru_ok pins s' σ H3 (.bl bb) (.bool bb) (fun k H4 => k = bb ∧ H4 = H3) I3 rfl ⟨bb, rfl, rfl, rfl⟩) fun b s'' hz => ?_
      obtain ⟨H4, I4, eb, eH⟩ := hz
      rw [hf2, eb]
      rw [eH] at I4
      exact ⟨.bl (bb != neg), H3, I4, rfl, q3⟩
  rcases hop with ⟨rfl, rfl⟩ | ⟨rfl, rfl⟩
  · exact PySem.W.in_K hfr I2.ok.mod.kin J1 hs hf (body _ fun b => by cases b <;> rfl)
  · exact PySem.W.notIn_K hfr I2.ok.mod.kin J1 hs hf (body _ fun b => by cases b <;> rfl)
theorem pc_eqO {CX : CXT} {sd : SpD} {k : Nat} {f : Addr} {fd : FuncData} {ps : List Str} {a b : Expr} {ta tb : CE} {c : Nat} (F : FnOk X.prog X.w X.K X.mg X.base CX k f fd ps (spD g sd)) (hr : Room k X.A) (hb : Binds X.K fd ps []) (hx : ∀ σ, PassesAt CX X σ (WE xk σ))
    (hs : PySem.W.findIn X.K (.ref (g.cls c)) "__eq__" = some (some (.ref f))) (hf : PySem.W.isFn X.K (.ref f) = true) (h1 : PD X g xk a ta) (h2 : PD X g xk b tb) : PC X .Eq a b (lift g xk (cEqO sd ta tb c)) := by
  refine ⟨fun pins s σ H Q I h => ?_⟩
  obtain ⟨C, ρ, n, O, kk, ke, hK, E, t, x, q⟩ := h
  refine (binT (R := fun v w H2 => ∃ (d1 d2 : D) (ρ2 : En) (n2 : Nat) (O2 : Ow), ((∃ fs, d1 = obj c fs) ∧ (∃ fs, d2 = obj c fs) ∧ sd [d1, d2] n2 (fun z n3 => kk z ρ2 n3) (fun w n3 => ke w ρ2 n3)) ∧ Ev C ρ2 n2 σ H2 O2 ∧ Same (hid C O H) (hid C O2 H2) ∧ Is C.T (hid C O2 H2) v d1 ∧ Is C.T (hid C O2 H2) w d2) h1.pe h2.pe I
    ⟨C, ρ, n, O, _, ke, hK, E, t, x, fun d1 ρ1 n1 v H1 O1 k1 E1 S1 i1 => ⟨C, ρ1, n1, O1, _, ke, hK, E1, k1, x, fun d2 ρ2 n2 w H2 O2 k2 E2 S2 i2 => ⟨d1, d2, ρ2, n2, O2, k2, E2, S1.trans S2, i1.same S2, i2⟩⟩⟩ ?_)
  rintro v u s2 x1 y1 H2 I2 rx ry ⟨d1, d2, ρ2, n2, O2, ⟨⟨fs1, e1⟩, ⟨fs2, e2⟩, sdd⟩, E2, S2, i1, i2⟩
  subst e1
  subst e2
  obtain ⟨p1, dx1, us1, ex1, g1, _, _⟩ := isObj i1
  obtain ⟨p2, dx2, us2, ey1, g2, _, _⟩ := isObj i2
  subst ex1
  subst ey1
  obtain rfl : v = Value.ref p1 := rx
  obtain rfl : u = Value.ref p2 := ry
  rw [hK.2] at g1 g2
  obtain ⟨ox, od, J1⟩ := inst_of I2 (hid_le _ _ g1)
  obtain ⟨ox2, od2, J2⟩ := inst_of I2 (hid_le _ _ g2)
  obtain ⟨m, hfr⟩ := I2.fr
  show wpAny _ _ (richCompare .Eq (.ref p1) (.ref p2)) _ _ _
  refine PySem.W.cmp_K (by have := hr.un; omega) hfr I2.ok.mod.kin J1 (J2.type) (by unfold PySem.W.notFirst; simp) hs hf ?_
  refine thn (run_fnSD (us := [.ref p1, .ref p2]) (ds := []) (dvs := []) (vs := [.ref p1, .ref p2]) (Q := Q) (E := WE xk) F hr hb .nil (hx σ) I2 (.cons rfl (.cons rfl .nil)) (spD_use hK E2 x (.cons i1 (.cons i2 .nil)) sdd fun d n' v H' a b c i => q _ _ _ _ _ _ a b (S2.trans c) i)) fun r s' hr' => ?_
  obtain ⟨v3, H3, I3, rv3, q3⟩ := hr'
  exact cmpBack_of rv3 ⟨v3, H3, I3, rv3, q3⟩
theorem pdt_of {op : CmpOp} {a b : Expr} {t : CE} (h : PC X op a b (lift g xk t)) (hm : behindInMarks op b = false) : PDT X g xk (.Compare a [op] [b] pos) (cB t) := ⟨PT.imp (pt_cmp h hm) fun σ H Q r => tB_use (fun _ _ _ h => h) r⟩
theorem pdt_eq1 {j k c : Nat} {ps : List Str} {a b : Expr} {t1 t2 : CE} {sd : SpD} (h : HasEq X.prog X.w X.K X.mg X.base g j c ps sd) (hr : Room k X.A) (l : j ≤ k) (h1 : PD X g xk a t1) (h2 : PD X g xk b t2) (hm : behindInMarks .Eq b = false) : PDT X g xk (.Compare a [.Eq] [b] pos) (cB (cEqO sd t1 t2 c)) := by
  obtain ⟨f, fd, a1, a2, a3, a4⟩ := h.ex
  exact pdt_of (pc_eqO a1 (hr.mono l) a2 (fun _ => pa0) a3 a4 h1 h2) hm
theorem pdt_inO {j k c : Nat} {ps : List Str} {a b : Expr} {t1 t2 : CE} {sd : SpD} (h : HasIn X.prog X.w X.K X.mg X.base g j c ps sd) (hr : Room k X.A) (l : j ≤ k) (h1 : PD X g xk a t1) (h2 : PD X g xk b t2) (hm : behindInMarks .In b = false) : PDT X g xk (.Compare a [.In] [b] pos) (cB (cInO false sd t1 t2 c)) := by
  obtain ⟨f, fd, a1, a2, a3, a4⟩ := h.ex
  exact pdt_of (pc_inO (.inl ⟨rfl, rfl⟩) a1 (hr.mono l) a2 (fun _ => pa0) a3 a4 h1 h2) hm
end
end RM
namespace RM
open PySem PySem.Spec PyProof.Rows L2 CS RZ
/-! ### Counts that are equal -/
theorem triD_eqv (t u : Tri) : PyData.eqv (triD t) (triD u) = decide (t = u) := by
  obtain ⟨a, b, c⟩ := t
  obtain ⟨a', b', c'⟩ := u
  have : PyData.eqv (triD (a, b, c)) (triD (a', b', c')) = (PyData.eqv (.str a) (.str a') && (PyData.eqv (.str b) (.str b') && (PyData.eqv (.int c) (.int c') && true))) := by simp [triD, PyData.eqv, PyData.eqvAll]
  rw [this, RM.eqv_str, RM.eqv_str, Bool.and_true, show PyData.eqv (.int c) (.int c') = (c == c') from rfl]
  by_cases h1 : a = a'
  · by_cases h2 : b = b'
    · by_cases h3 : c = c'
      · simp [h1, h2, h3]
      · simp [h3]
    · simp [h2]
  · simp [h1]
theorem tris_eqv : ∀ l m : List Tri, PyData.eqvAll (trisD l) (trisD m) = decide (l = m)
  | [], [] => by simp [trisD, PyData.eqvAll]
  | [], _ :: _ => by simp [trisD, PyData.eqvAll]
  | _ :: _, [] => by simp [trisD, PyData.eqvAll]
  | t :: l, u :: m => by
    have ih := tris_eqv l m
    unfold trisD at ih ⊢
    rw [List.map_cons, List.map_cons]
    simp only [PyData.eqvAll]
    rw [triD_eqv, ih]
    by_cases h1 : t = u
    · by_cases h2 : l = m
      · simp [h1, h2]
      · simp [h2]
    · simp [h1]
theorem OkN.tri {t : Tri} (h : GoodP (pr t)) : OkN 1 (triD t) := OkN.tuple fun d hd => by
  rcases List.mem_cons.mp hd with rfl | hd
  · exact .str 0 h.1
  rcases List.mem_cons.mp hd with rfl | hd
  · exact .str 0 h.2
  · rw [List.mem_singleton.mp hd]
    exact .int 0 _
theorem OkN.tris {l : List Tri} (h : ∀ t ∈ l, GoodP (pr t)) : OkN 2 (.tuple (trisD l)) := OkN.tuple fun d hd => by
  obtain ⟨t, ht, rfl⟩ := List.mem_map.mp hd
  exact OkN.tri (h t ht)
theorem eqD_tris {l m : List Tri} (h1 : ∀ t ∈ l, GoodP (pr t)) (h2 : ∀ t ∈ m, GoodP (pr t)) : eqD (.tuple (trisD l)) (.tuple (trisD m)) = some (.bool (decide (l = m))) := by
  unfold eqD
  rw [(OkN.tris h1).ok (by decide), (OkN.tris h2).ok (by decide)]
  rw [if_pos (show (true && true) = true from rfl)]
  have : PyData.eqv (.tuple (trisD l)) (.tuple (trisD m)) = PyData.eqvAll (trisD l) (trisD m) := by simp [PyData.eqv]
  rw [this, tris_eqv]
def sdEq : SpD := fun ds n k _ => ∃ s l y, ds = [cntD s l, y] ∧ GoodS s ∧ (∀ t ∈ l, GoodP (pr t)) ∧ ((∃ s2 l2, y = cntD s2 l2 ∧ GoodS s2 ∧ (∀ t ∈ l2, GoodP (pr t)) ∧ k (.bool (decide (s = s2 ∧ l = l2))) n) ∨ ((∃ t, kindD y = some t) ∧ k (.bool false) n))
def cs_Counts__eq_ : CS := cRet (cAndV (cIsC (.nm 1) cCnt) (cAndV (cOp eqD (cFld (.nm 0) cCnt "_start") (cFld (.nm 1) cCnt "_start")) (cOp eqD (cFld (.nm 0) cCnt "_steps") (cFld (.nm 1) cCnt "_steps"))))
theorem isCD_not {c : Nat} {d : D} {t : String} (h : kindD d = some t) : isCD c d = some false := by
  cases d <;> first | rfl | (cases h)
theorem himp_Counts__eq_ {e : EndsD} (ds : List D) (n : Nat) (k : D → Nat → Prop) (ke : Xv → Nat → Prop) (h : sdEq ds n k ke) (he : e.rt = k) : cs_Counts__eq_ (startE ["self", "other"] ds) n e := by
  obtain ⟨s, l, y, rfl, g1, h1, q⟩ := h
  subst he
  rcases q with ⟨s2, l2, rfl, g2, h2, q⟩ | ⟨⟨t, ht⟩, q⟩
  · refine ⟨rfl, _, true, rfl, isCD_obj _ _, true, rfl, ?_⟩
    refine ⟨rfl, _, _, rfl, fld_start s l, rfl, _, _, rfl, fld_start s2 l2, _, eqD_str g1 g2, _, rfl, ?_⟩
    by_cases c : s = s2
    · rw [decide_eq_true c]
      refine ⟨rfl, _, _, rfl, fld_steps s l, rfl, _, _, rfl, fld_steps s2 l2, _, eqD_tris h1 h2, ?_⟩
      have : decide (s = s2 ∧ l = l2) = decide (l = l2) := by simp [c]
      rw [← this]
      exact q
    · rw [decide_eq_false c]
      have : decide (s = s2 ∧ l = l2) = false := decide_eq_false fun z => c z.1
      rw [this] at q
      exact q
  · exact ⟨rfl, _, false, rfl, isCD_not ht, false, rfl, q⟩
/-! ### surplus -/
def putS (ns : List Str) (a : Str) : List Str := if a ∈ ns then ns else ns ++ [a]
def tabK (ns : List Str) (f : Str → Int) : List (D × D) := ns.map fun p => (.str p, .int (f p))
theorem look_tabK (ns : List Str) (f : Str → Int) (a : Str) : lookD (.dict ((.none, .bool false) :: tabK ns f)) (.str a) = some (if a ∈ ns then some (.int (f a)) else none) := by
  show (if flatK (.str a) = true then some (keyD (tabK ns f) (.str a)) else none) = _
  rw [if_pos (show flatK (.str a) = true from rfl)]
  congr 1
  unfold keyD tabK
  induction ns with
  | nil => rfl
  | cons p ns ih =>
    rw [List.map_cons, List.find?_cons, RM.eqv_str]
    by_cases c : p = a
    · subst c
      simp
    · rw [decide_eq_false c]
      simp only
      rw [ih]
      by_cases c2 : a ∈ ns
      · simp [c2]
      · simp [c2, Ne.symm c]
theorem put_tabK {ns : List Str} {f : Str → Int} {a : Str} {v : Int} (hl : ns.length < lim) : putD (.dict ((.none, .bool false) :: tabK ns f)) (.str a) (.int v) = some (.dict ((.none, .bool false) :: tabK (putS ns a) fun p => if p = a then v else f p)) := by
  have h2 : (tabK ns f).length < lim := by
    unfold tabK
    rw [List.length_map]
    exact hl
  show (if flatK (.str a) = true ∧ (tabK ns f).length < lim then some (PyData.dict ((.none, .bool false) :: putKD (tabK ns f) (.str a) (.int v))) else none) = _
  rw [if_pos ⟨rfl, h2⟩]
  congr 3
  have ha : ((tabK ns f).any fun kv => PyData.eqv kv.1 (.str a)) = decide (a ∈ ns) := by
    unfold tabK
    rw [List.any_map]
    induction ns with
    | nil => rfl
    | cons p ns ih =>
      rw [List.any_cons, ih (by simp at hl; omega) (by simp [tabK] at h2 ⊢; omega)]
      show (PyData.eqv (.str p) (.str a) || _) = _
      rw [RM.eqv_str]
      by_cases h : p = a
      · subst h
        simp
      · simp [h, Ne.symm h]
  unfold putKD putS
  rw [ha]
  by_cases c : a ∈ ns
  · rw [decide_eq_true c, if_pos rfl, if_pos c]
    unfold tabK
    rw [List.map_map]
    refine List.map_congr_left fun p hp => ?_
    show (if PyData.eqv (.str p) (.str a) = true then (PyData.str p, _) else (PyData.str p, _)) = _
    rw [RM.eqv_str]
    by_cases h : p = a
    · simp [h]
    · simp [h]
  · rw [decide_eq_false c, if_neg (by simp), if_neg c]
    unfold tabK
    rw [List.map_append]
    congr 1
    · refine List.map_congr_left fun p hp => ?_
      have hne : ¬ p = a := fun z => c (z ▸ hp)
      dsimp only
      rw [if_neg hne]
    · simp
def over (l : List Tri) (p : Str) : Int := ((l.filter fun t => t.1 = p).map fun t => t.2.2).sum - ((l.filter fun t => t.2.1 = p).map fun t => t.2.2).sum
def ends (l : List Tri) (p : Str) : Prop := ∃ t ∈ l, t.1 = p ∨ t.2.1 = p
def overD (l : List Tri) (ys : List Str) : List D := (ys.filter fun p => over l p ≠ 0).map fun p => .tuple [.str p, .int (over l p)]
def sdSurplus : SpD := fun ds n k _ => ∃ s l, ds = [cntD s l] ∧ l.length ≤ 30 ∧ (∀ t ∈ l, t.1 ≠ t.2.1) ∧ ∀ ys : List Str, ys.Nodup → (∀ p, p ∈ ys ↔ ends l p) → sortedS ys = true → k (.tuple (overD l ys)) n
abbrev bd_surplus : CS := cSq (cDPut 1 (cKey (cVar 2)) (cOp addD (cDGet2 (.nm 1) (cKey (cVar 2)) (cC (.int 0))) (cVar 4))) (cDPut 1 (cKey (cVar 3)) (cOp subD (cDGet2 (.nm 1) (cKey (cVar 3)) (cC (.int 0))) (cVar 4)))
def sdMoreOut : SpD := fun ds n k _ => ∃ l : List Tri, ds = [.tuple (trisD l)] ∧ l.length ≤ 30 ∧ (∀ t ∈ l, t.1 ≠ t.2.1) ∧ ∀ ns : List Str, ns.Nodup → (∀ p, p ∈ ns ↔ ends l p) → ns.length ≤ 60 → k (.dict ((.none, .bool false) :: tabK ns (over l))) n
def cs_more_out : CS := cSq (cOwn 1 (cDNew false)) (cSq (cFor (cSeq (cVar 0)) (stT (stCons (stN 2) (stCons (stN 3) (stCons (stN 4) (stNil))))) (cSq (cDPut 1 (cKey (cVar 2)) (cOp addD (cDGet2 (.nm 1) (cKey (cVar 2)) (cC (.int 0))) (cVar 4))) (cDPut 1 (cKey (cVar 3)) (cOp subD (cDGet2 (.nm 1) (cKey (cVar 3)) (cC (.int 0))) (cVar 4))))) (cRet (cVar 1)))
abbrev n_more_out : List Str := ["steps", "more", "one", "other", "number"]
def cs_surplus : CS := cSq (cSet 1 (cCall sdMoreOut (cCons (cProp sdP_steps (cVar 0) cCnt) (cNil)))) (cRet (cCB gTuple (cCons (cLc (cSeq (cSortK (.nm 1))) (stN 2) (cB (cOp neD (cDGet (.nm 1) (cKey (cVar 2))) (cC (.int 0)))) (cTup (cCons (cVar 2) (cCons (cDGet (.nm 1) (cKey (cVar 2))) (cNil)))) [2]) (cNil))))
abbrev n_surplus : List Str := ["counts", "more", "place"]
theorem mem_putS {ns : List Str} {a p : Str} : p ∈ putS ns a ↔ p ∈ ns ∨ p = a := by
  unfold putS
  split
  · rename_i h
    exact ⟨.inl, fun z => z.elim id fun e => e ▸ h⟩
  · rw [List.mem_append, List.mem_singleton]
theorem nodup_putS {ns : List Str} {a : Str} (h : ns.Nodup) : (putS ns a).Nodup := by
  unfold putS
  split
  · exact h
  · rename_i c
    rw [List.nodup_append]
    refine ⟨h, by simp, fun x hx y hy => ?_⟩
    rw [List.mem_singleton] at hy
    subst hy
    exact fun z => c (z ▸ hx)
theorem len_putS (ns : List Str) (a : Str) : (putS ns a).length ≤ ns.length + 1 := by
  unfold putS
  split
  · omega
  · rw [List.length_append, List.length_singleton]
    exact Nat.le_refl _
theorem over_snoc (l : List Tri) (t : Tri) (p : Str) : over (l ++ [t]) p = over l p + (if t.1 = p then t.2.2 else 0) - (if t.2.1 = p then t.2.2 else 0) := by
  unfold over
  rw [List.filter_append, List.filter_append, List.map_append, List.map_append, List.sum_append, List.sum_append]
  have h1 : ((List.filter (fun t => decide (t.1 = p)) [t]).map fun t => t.2.2).sum = if t.1 = p then t.2.2 else 0 := by
    by_cases c : t.1 = p
    · rw [List.filter_cons, if_pos (decide_eq_true c), if_pos c]
      simp
    · rw [List.filter_cons, if_neg (by simpa using c), if_neg c]
      rfl
  have h2 : ((List.filter (fun t => decide (t.2.1 = p)) [t]).map fun t => t.2.2).sum = if t.2.1 = p then t.2.2 else 0 := by
    by_cases c : t.2.1 = p
    · rw [List.filter_cons, if_pos (decide_eq_true c), if_pos c]
      simp
    · rw [List.filter_cons, if_neg (by simpa using c), if_neg c]
      rfl
  rw [h1, h2]
  omega
theorem getD_tabK {ns : List Str} {f : Str → Int} {a : Str} (h : a ∉ ns → f a = 0) : (if a ∈ ns then some (PyData.int (f a)) else none).getD (.int 0) = .int (f a) := by
  split
  · rfl
  · rename_i c
    rw [h c]
    rfl
theorem surplus_loop {e : EndsD} {c : D} {n : Nat} : ∀ (ts l : List Tri) (ns : List Str) (t2 t3 t4 : Option Sl), (∀ t ∈ ts, t.1 ≠ t.2.1) → ns.Nodup → (∀ p, p ∈ ns ↔ ends l p) → ns.length ≤ 2 * l.length → l.length + ts.length ≤ 30 →
    (∀ (ns : List Str) (t2 t3 t4 : Option Sl), ns.Nodup → (∀ p, p ∈ ns ↔ ends (l ++ ts) p) → ns.length ≤ 60 → e.nx [some (.v c), some (.own (.dict ((.none, .bool false) :: tabK ns (over (l ++ ts))))), t2, t3, t4] n) →
    cForL (stT (stCons (stN 2) (stCons (stN 3) (stCons (stN 4) (stNil))))) bd_surplus (trisD ts) [some (.v c), some (.own (.dict ((.none, .bool false) :: tabK ns (over l)))), t2, t3, t4] n e
  | [], l, ns, t2, t3, t4, _, h1, h2, h3, h4, q => by
    rw [List.append_nil] at q
    exact q ns t2 t3 t4 h1 h2 (by simp at h4; omega)
  | t :: ts, l, ns, t2, t3, t4, hne, h1, h2, h3, h4, q => by
    rw [List.length_cons] at h4
    have z0 : ∀ a, a ∉ ns → over l a = 0 := fun a ha => by
      have hn : ¬ ends l a := fun z => ha ((h2 a).mpr z)
      unfold over
      rw [List.filter_eq_nil_iff.mpr, List.filter_eq_nil_iff.mpr]
      · rfl
      · intro t ht
        simp only [decide_eq_true_eq]
        exact fun z => hn ⟨t, ht, .inr z⟩
      · intro t ht
        simp only [decide_eq_true_eq]
        exact fun z => hn ⟨t, ht, .inl z⟩
    have nt := hne t (List.mem_cons_self ..)
    refine ⟨_, rfl, ?_⟩
    refine ⟨rfl, ⟨_, rfl, rfl⟩, rfl, _, _, rfl, look_tabK ns (over l) t.1, ?_⟩
    refine ⟨.int (over l t.1 + t.2.2), by rw [getD_tabK (z0 t.1)]; rfl, ⟨_, rfl⟩, rfl, _, _, rfl, put_tabK (by unfold lim; omega), ?_⟩
    have z1 : t.2.1 ∉ putS ns t.1 → (fun p => if p = t.1 then over l t.1 + t.2.2 else over l p) t.2.1 = 0 := fun ha => by
      show (if t.2.1 = t.1 then _ else _) = _
      rw [if_neg (Ne.symm nt)]
      exact z0 _ fun z => ha (mem_putS.mpr (.inl z))
    have g2 : (if t.2.1 ∈ putS ns t.1 then some (PyData.int (if t.2.1 = t.1 then over l t.1 + t.2.2 else over l t.2.1)) else none).getD (.int 0) = .int (over l t.2.1) := by
      have := getD_tabK (f := fun p => if p = t.1 then over l t.1 + t.2.2 else over l p) z1
      rw [if_neg (Ne.symm nt)] at this ⊢
      exact this
    refine ⟨rfl, ⟨_, rfl, rfl⟩, rfl, _, _, rfl, look_tabK _ _ t.2.1, ?_⟩
    refine ⟨.int (over l t.2.1 - t.2.2), by rw [g2]; rfl, ⟨_, rfl⟩, rfl, _, _, rfl, put_tabK (by have := len_putS ns t.1; unfold lim; omega), ?_⟩
    have ef : (fun p => if p = t.2.1 then over l t.2.1 - t.2.2 else if p = t.1 then over l t.1 + t.2.2 else over l p) = over (l ++ [t]) := by
      funext p
      rw [over_snoc]
      by_cases c1 : p = t.2.1
      · subst c1
        rw [if_pos rfl, if_neg nt, if_pos rfl]
        omega
      · rw [if_neg c1]
        by_cases c2 : p = t.1
        · subst c2
          rw [if_pos rfl, if_pos rfl, if_neg (Ne.symm nt)]
          omega
        · rw [if_neg c2, if_neg (Ne.symm c2), if_neg (Ne.symm c1)]
          omega
    rw [ef]
    have e1 : l ++ t :: ts = (l ++ [t]) ++ ts := by rw [List.append_assoc]; rfl
    refine surplus_loop ts (l ++ [t]) (putS (putS ns t.1) t.2.1) _ _ _ (fun z hz => hne z (List.mem_cons_of_mem _ hz)) (nodup_putS (nodup_putS h1)) (fun p => ?_) ?_ (by rw [List.length_append, List.length_singleton]; omega) (by rw [← e1]; exact q)
    · rw [mem_putS, mem_putS, h2]
      constructor
      · rintro ((⟨u, hu, hu2⟩ | rfl) | rfl)
        · exact ⟨u, List.mem_append_left _ hu, hu2⟩
        · exact ⟨t, by simp, .inl rfl⟩
        · exact ⟨t, by simp, .inr rfl⟩
      · rintro ⟨u, hu, hu2⟩
        rcases List.mem_append.mp hu with hu | hu
        · exact .inl (.inl ⟨u, hu, hu2⟩)
        · rw [List.mem_singleton.mp hu] at hu2
          rcases hu2 with rfl | rfl
          · exact .inl (.inr rfl)
          · exact .inr rfl
    · have a1 := len_putS ns t.1
      have a2 := len_putS (putS ns t.1) t.2.1
      rw [List.length_append, List.length_singleton]
      omega
def pickO (l : List Tri) : D → Option D
  | .str p => if over l p ≠ 0 then some (.tuple [.str p, .int (over l p)]) else none
  | _ => none
theorem pickO_all (l : List Tri) : ∀ ys : List Str, (ys.map PyData.str).filterMap (pickO l) = overD l ys
  | [] => rfl
  | p :: ys => by
    have ih := pickO_all l ys
    have h : pickO l (.str p) = if over l p ≠ 0 then some (.tuple [.str p, .int (over l p)]) else none := rfl
    unfold overD at ih ⊢
    rw [List.map_cons, List.filterMap_cons, h, ih, List.filter_cons]
    by_cases c : over l p = 0
    · simp [c]
    · simp [c]
theorem himp_more_out {e : EndsD} (ds : List D) (n : Nat) (k : D → Nat → Prop) (ke : Xv → Nat → Prop) (h : sdMoreOut ds n k ke) (he : e.rt = k) : cs_more_out (startE n_more_out ds) n e := by
  obtain ⟨l, rfl, hl, hne, q⟩ := h
  subst he
  refine ⟨by show 1 < 5; decide, trisD l, rfl, ?_⟩
  refine surplus_loop l [] [] none none none hne List.nodup_nil (fun p => ⟨(fun z => by cases z), (fun z => by obtain ⟨t, z, _⟩ := z; cases z)⟩) (Nat.le_refl _) (by simpa using hl) fun ns t2 t3 t4 h1 h2 h3 => ?_
  rw [List.nil_append] at h2 ⊢
  exact q ns h1 h2 h3
theorem himp_surplus {e : EndsD} (ds : List D) (n : Nat) (k : D → Nat → Prop) (ke : Xv → Nat → Prop) (h : sdSurplus ds n k ke) (he : e.rt = k) : cs_surplus (startE n_surplus ds) n e := by
  obtain ⟨s, l, rfl, hl, hne, q⟩ := h
  subst he
  refine ⟨⟨_, rfl⟩, s, l, rfl, l, rfl, hl, hne, fun ns h1 h2 h3 => ?_⟩
  refine ⟨rfl, tabK ns (over l), ns, rfl, by unfold tabK; rw [List.map_map]; rfl, by omega, fun ys hp hs => ?_⟩
  refine ⟨_, rfl, ?_⟩
  have hy : ∀ p, p ∈ ys ↔ ends l p := fun p => by rw [hp.mem_iff, h2]
  show cLcL _ _ _ _ _ [some (.v (cntD s l)), some (.v (.dict ((.none, .bool false) :: tabK ns (over l)))), none] n [] _
  refine lcL_run (pickO l) _ [] (fun d hd => ?_) ?_ ?_
  · obtain ⟨p, hp2, rfl⟩ := List.mem_map.mp hd
    have hin : p ∈ ns := hp.mem_iff.mp hp2
    have lk := look_tabK ns (over l) p
    rw [if_pos hin] at lk
    refine ⟨_, rfl, rfl, fun K1 hK => ?_, fun y hy K2 hK => ?_⟩
    · refine ⟨rfl, rfl, _, _, rfl, lk, .bool (!(over l p == 0)), rfl, _, rfl, ?_⟩
      have : (if over l p ≠ 0 then some (PyData.tuple [.str p, .int (over l p)]) else none).isSome = !(over l p == 0) := by
        by_cases c : over l p = 0
        · rw [if_neg (by simpa using c), c]
          rfl
        · rw [if_pos c]
          simp [c]
      rw [← this]
      exact hK
    · refine ⟨rfl, rfl, _, _, rfl, lk, by show 2 ≤ lim; decide, ?_⟩
      replace hy : (if over l p ≠ 0 then some (PyData.tuple [.str p, .int (over l p)]) else none) = some y := hy
      rw [(ifs hy).2]
      exact hK
  · rw [List.length_map, List.length_nil, hp.length_eq]
    unfold lim
    omega
  · show ∃ z, gTuple [.list ([] ++ (ys.map PyData.str).filterMap (pickO l))] z ∧ e.rt z n
    rw [List.nil_append, pickO_all]
    exact ⟨_, ⟨_, _, rfl, rfl, rfl⟩, q ys (hp.nodup_iff.mpr h1) hy hs⟩
end RM
namespace RM
open PySem PySem.Spec PyProof.Rows L2 CS RZ
/-! ### what canon tells -/
def Fine (l : List Tri) : Prop := ∀ t ∈ l, t.1 ≠ t.2.1 ∧ 0 ≤ t.2.2
theorem sumAt_append (l m : List Tri) (p : Str × Str) : sumAt (l ++ m) p = sumAt l p + sumAt m p := by
  unfold sumAt
  rw [List.filter_append, List.map_append, List.sum_append]
theorem sumAt_nil (p : Str × Str) : sumAt [] p = 0 := rfl
theorem sumAt_cons (t : Tri) (l : List Tri) (p : Str × Str) : sumAt (t :: l) p = (if pr t = p then t.2.2 else 0) + sumAt l p := by
  have := sumAt_append [t] l p
  rw [List.singleton_append] at this
  rw [this]
  congr 1
  have h2 := sumAt_snoc [] t p
  rw [List.nil_append, sumAt_nil, Int.zero_add] at h2
  exact h2
theorem sumAt_perm {l m : List Tri} (h : l.Perm m) (p : Str × Str) : sumAt l p = sumAt m p := by
  induction h with
  | nil => rfl
  | cons t _ ih => rw [sumAt_cons, sumAt_cons, ih]
  | swap t u l => rw [sumAt_cons, sumAt_cons, sumAt_cons, sumAt_cons]; omega
  | trans _ _ h1 h2 => rw [h1, h2]
theorem sumAt_nonneg {l : List Tri} (h : ∀ t ∈ l, 0 ≤ t.2.2) (p : Str × Str) : 0 ≤ sumAt l p := by
  induction l with
  | nil => exact Int.le_refl 0
  | cons t l ih =>
    rw [sumAt_cons]
    have h1 := ih fun z hz => h z (List.mem_cons_of_mem _ hz)
    have h2 := h t (List.mem_cons_self ..)
    split <;> omega
theorem sumAt_in {l : List Tri} {p : Str × Str} (h : sumAt l p ≠ 0) : p ∈ l.map pr := Decidable.byContradiction fun c => h (sumAt_none c)
/-- alike sums, alike counts -/
theorem canon_ext {l m : List Tri} (h : ∀ p, sumAt l p = sumAt m p ∨ (sumAt l p ≤ 0 ∧ sumAt m p ≤ 0)) : canon l = canon m := by
  have hpos : ∀ p, (0 < sumAt l p) ↔ (0 < sumAt m p) := fun p => by
    rcases h p with e | ⟨a, b⟩
    · rw [e]
    · omega
  have hp : (((firsts (l.map pr)).mergeSort leP).filter fun p => 0 < sumAt l p) = (((firsts (m.map pr)).mergeSort leP).filter fun p => 0 < sumAt m p) := by
    refine List.Perm.eq_of_pairwise (le := fun a b => leP a b = true) (fun a b _ _ x y => leP_anti x y) ((PySem.W.sort_pairwise leP_total _).sublist List.filter_sublist) ((PySem.W.sort_pairwise leP_total _).sublist List.filter_sublist) ?_
    refine (List.perm_ext_iff_of_nodup (((List.mergeSort_perm _ _).nodup_iff.mpr (nodup_firsts _)).sublist List.filter_sublist) (((List.mergeSort_perm _ _).nodup_iff.mpr (nodup_firsts _)).sublist List.filter_sublist)).mpr fun q => ?_
    rw [List.mem_filter, List.mem_filter, (List.mergeSort_perm _ _).mem_iff, (List.mergeSort_perm _ _).mem_iff, mem_firsts, mem_firsts]
    simp only [decide_eq_true_eq]
    constructor
    · rintro ⟨_, b⟩
      have b' := (hpos q).mp b
      exact ⟨sumAt_in (by omega), b'⟩
    · rintro ⟨_, b⟩
      have b' := (hpos q).mpr b
      exact ⟨sumAt_in (by omega), b'⟩
  unfold canon
  rw [hp]
  refine List.map_congr_left fun p hp => ?_
  have hpp := of_decide_eq_true (List.mem_filter.mp hp).2
  rcases h p with e | ⟨a, b⟩
  · rw [e]
  · omega
theorem numAt_cons (t : Tri) (l : List Tri) (p : Str × Str) : numAt (t :: l) p = if pr t = p then t.2.2 else numAt l p := by
  unfold numAt
  rw [List.find?_cons]
  by_cases c : pr t = p
  · rw [decide_eq_true c, if_pos c]
    rfl
  · rw [decide_eq_false c, if_neg c]
theorem numAt_sum {l : List Tri} (hn : (l.map pr).Nodup) (p : Str × Str) : numAt l p = sumAt l p := by
  induction l with
  | nil => rfl
  | cons t l ih =>
    rw [List.map_cons, List.nodup_cons] at hn
    rw [sumAt_cons]
    unfold numAt
    rw [List.find?_cons]
    by_cases c : pr t = p
    · rw [decide_eq_true c, if_pos c, sumAt_none (c ▸ hn.1), Int.add_zero]
      rfl
    · rw [decide_eq_false c, if_neg c, Int.zero_add]
      exact ih hn.2
theorem sumAt_canon (l : List Tri) (p : Str × Str) : sumAt (canon l) p = if 0 < sumAt l p then sumAt l p else 0 := by
  by_cases c : p ∈ (canon l).map pr
  · obtain ⟨t, ht, rfl⟩ := List.mem_map.mp c
    obtain ⟨h1, h2, h3⟩ := canon_mem ht
    rw [← numAt_sum (canon_nodup l)]
    unfold numAt
    have : (canon l).find? (fun u => pr u = pr t) = some t := by
      have hn := canon_nodup l
      generalize canon l = m at ht hn
      induction m with
      | nil => cases ht
      | cons u m ih =>
        rw [List.find?_cons]
        by_cases e : u = t
        · subst e
          rw [decide_eq_true rfl]
        · rcases List.mem_cons.mp ht with z | z
          · exact absurd z.symm e
          · rw [List.map_cons, List.nodup_cons] at hn
            have hne : ¬ pr u = pr t := fun w => hn.1 (by rw [w]; exact List.mem_map_of_mem z)
            rw [decide_eq_false hne]
            exact ih z hn.2
    rw [this]
    show t.2.2 = _
    rw [← h3, if_pos h2]
  · rw [sumAt_none c, if_neg]
    intro z
    refine c ?_
    rw [canon_pr, List.mem_filter]
    exact ⟨(List.mergeSort_perm _ _).mem_iff.mpr (mem_firsts.mpr (sumAt_in (by omega))), decide_eq_true z⟩
theorem sumAt_canon' {l : List Tri} (h : Fine l) (p : Str × Str) : sumAt (canon l) p = sumAt l p := by
  rw [sumAt_canon]
  have := sumAt_nonneg (fun t ht => (h t ht).2) p
  split <;> omega
theorem fine_canon {l : List Tri} (h : Fine l) : Fine (canon l) := fun t ht => by
  obtain ⟨h1, h2, _⟩ := canon_mem ht
  obtain ⟨u, hu, he⟩ := List.mem_map.mp h1
  refine ⟨fun z => (h u hu).1 ?_, by omega⟩
  have e1 : (pr u).1 = (pr t).1 := by rw [he]
  have e2 : (pr u).2 = (pr t).2 := by rw [he]
  change u.1 = t.1 at e1
  change u.2.1 = t.2.1 at e2
  rw [e1, e2, z]
theorem canon_canon {l : List Tri} (h : Fine l) : canon (canon l) = canon l := canon_ext fun p => .inl (sumAt_canon' h p)
theorem canon_add {l m : List Tri} (h : Fine l) (h2 : Fine m) : canon (canon l ++ canon m) = canon (l ++ m) := canon_ext fun p => .inl (by rw [sumAt_append, sumAt_append, sumAt_canon' h, sumAt_canon' h2])
theorem canon_perm {l m : List Tri} (h : l.Perm m) : canon l = canon m := canon_ext fun p => .inl (sumAt_perm h p)
theorem fine_append {l m : List Tri} (h : Fine l) (h2 : Fine m) : Fine (l ++ m) := fun t ht => (List.mem_append.mp ht).elim (h t) (h2 t)
theorem wrongT_none {l : List Tri} (h : Fine l) : wrongT l = none := by
  unfold wrongT
  have h1 : l.find? stillT = none := List.find?_eq_none.mpr fun t ht => by
    unfold stillT
    simpa using (h t ht).1
  have h2 : l.find? belowT = none := List.find?_eq_none.mpr fun t ht => by
    unfold belowT
    have := (h t ht).2
    simpa using this
  rw [h1, h2]
  rfl
theorem canon_nil : canon [] = [] := by
  have := canon_len []
  exact List.eq_nil_of_length_eq_zero (by simpa using this)
/-- what is left when some of the steps are taken away -/
theorem sumAt_left {l m : List Tri} (hn : (l.map pr).Nodup) (hm : (m.map pr).Nodup) (p : Str × Str) : sumAt (leftT l m) p = if p ∈ l.map pr then sumAt l p - sumAt m p else 0 := by
  have e1 : (leftT l m).map pr = l.map pr := by
    unfold leftT
    rw [List.map_map]
    rfl
  by_cases c : p ∈ l.map pr
  · rw [if_pos c, ← numAt_sum (by rw [e1]; exact hn), ← numAt_sum hn, ← numAt_sum hm]
    unfold leftT
    clear e1 hn
    induction l with
    | nil => cases c
    | cons t l ih =>
      rw [List.map_cons, numAt_cons, numAt_cons]
      by_cases e : pr t = p
      · rw [if_pos (show pr (t.1, t.2.1, t.2.2 - numAt m (pr t)) = p from e), if_pos e, e]
      · rw [if_neg (show ¬ pr (t.1, t.2.1, t.2.2 - numAt m (pr t)) = p from e), if_neg e]
        rw [List.map_cons] at c
        exact ih ((List.mem_cons.mp c).resolve_left fun z => e z.symm)
  · rw [if_neg c, sumAt_none (by rw [e1]; exact c)]
theorem canon_sub {l m : List Tri} (h : Fine l) (h2 : Fine m) (hle : ∀ p, sumAt m p ≤ sumAt l p) (r : List Tri) (hr : ∀ p, sumAt r p = sumAt l p - sumAt m p) :
    (canon m).find? (fun t => decide (numAt (canon l) (pr t) < t.2.2)) = none ∧ Fine (leftT (canon l) (canon m)) ∧ canon (leftT (canon l) (canon m)) = canon r := by
  refine ⟨List.find?_eq_none.mpr fun t ht => ?_, fun t ht => ?_, canon_ext fun p => .inl ?_⟩
  · obtain ⟨_, _, h3⟩ := canon_mem ht
    rw [numAt_sum (canon_nodup l), sumAt_canon' h, h3]
    have := hle (pr t)
    simpa using this
  · unfold leftT at ht
    obtain ⟨u, hu, rfl⟩ := List.mem_map.mp ht
    refine ⟨(fine_canon h u hu).1, ?_⟩
    obtain ⟨_, _, h3⟩ := canon_mem hu
    show 0 ≤ u.2.2 - numAt (canon m) (pr u)
    rw [numAt_sum (canon_nodup m), sumAt_canon' h2, h3]
    have := hle (pr u)
    omega
  · rw [sumAt_left (canon_nodup l) (canon_nodup m), sumAt_canon' h, sumAt_canon' h2, hr]
    split
    · rfl
    · rename_i c
      have e0 : sumAt l p = 0 := by
        have := sumAt_none c
        rwa [sumAt_canon' h] at this
      have e1 := hle p
      have e2 := sumAt_nonneg (fun t ht => (h2 t ht).2) p
      omega
end RM
namespace RM
open PySem PySem.Spec PyProof.Rows L2 CS RZ
/-! ### the promises, as they are used where nothing is raised -/
def GoodL (l : List Tri) : Prop := ∀ t ∈ l, GoodP (pr t)
theorem good_canon {l : List Tri} (h : GoodL l) : GoodL (canon l) := fun t ht => by
  obtain ⟨h1, _⟩ := canon_mem ht
  obtain ⟨u, hu, he⟩ := List.mem_map.mp h1
  rw [← he]
  exact h u hu
theorem good_append {l m : List Tri} (h : GoodL l) (h2 : GoodL m) : GoodL (l ++ m) := fun t ht => (List.mem_append.mp ht).elim (h t) (h2 t)
theorem mkInit {s : Str} {x : D} {rows : List D} {l : List Tri} {n : Nat} {k : List (D × D) → Nat → Prop} {ke : Xv → Nat → Prop} (hx : seqD x = some rows) (hr : RowsAre rows l) (hF : Fine l) (hg : GoodL l) (hl : l.length ≤ 1000) (q : k (cntF s (canon l)) n) : sdInit [.str s, x] n k ke :=
  ⟨s, x, rows, l, rfl, hx, hr, hg, hl, by rw [wrongT_none hF]; exact q⟩
theorem mkEq {s : Str} {l : List Tri} {n : Nat} {k : D → Nat → Prop} {ke : Xv → Nat → Prop} (hs : GoodS s) (hg : GoodL l) (q : k (.bool true) n) : sdEq [cntD s l, cntD s l] n k ke :=
  ⟨s, l, _, rfl, hs, hg, .inl ⟨s, l, rfl, hs, hg, by rw [decide_eq_true ⟨rfl, rfl⟩]; exact q⟩⟩
theorem mkAdd {s s2 : Str} {l m : List Tri} {n : Nat} {k : D → Nat → Prop} {ke : Xv → Nat → Prop} (hF : Fine l) (hF2 : Fine m) (hg : GoodL l) (hg2 : GoodL m) (hl : l.length + m.length ≤ 1000) (q : k (cntD s (canon (l ++ m))) n) : sdBinAdd [cntD s (canon l), cntD s2 (canon m)] n k ke :=
  ⟨s, canon l, s2, canon m, rfl, good_canon hg, good_canon hg2, by have := canon_len l; have := canon_len m; omega, by rw [wrongT_none (fine_append (fine_canon hF) (fine_canon hF2)), canon_add hF hF2]; exact q⟩
theorem mkSub {s s2 : Str} {l m : List Tri} {n : Nat} {k : D → Nat → Prop} {ke : Xv → Nat → Prop} (hF : Fine l) (hF2 : Fine m) (hg : GoodL l) (hl : l.length ≤ 1000) (hle : ∀ p, sumAt m p ≤ sumAt l p) (r : List Tri) (hr : ∀ p, sumAt r p = sumAt l p - sumAt m p) (q : k (cntD s (canon r)) n) : sdBinSub [cntD s (canon l), cntD s2 (canon m)] n k ke := by
  obtain ⟨h1, h2, h3⟩ := canon_sub hF hF2 hle r hr
  refine ⟨s, canon l, s2, canon m, rfl, good_canon hg, by have := canon_len l; omega, ?_⟩
  rw [h1]
  show match wrongT (leftT (canon l) (canon m)) with
    | some y => ke y n
    | none => k (cntD s (canon (leftT (canon l) (canon m)))) n
  rw [wrongT_none h2, h3]
  exact q
/-! ### the places -/
def sdP_places : SpD := fun ds n k _ => ∃ s l, ds = [cntD s l] ∧ l.length ≤ 30 ∧ ∀ ys : List Str, ys.Nodup → (∀ p, p ∈ ys ↔ p = s ∨ ends l p) → sortedS ys = true → k (.tuple (strD ys)) n
/-- sorted(set(texts)) -/
def cSortSet (t : CE) : CE := fun ρ n k ke => t ρ n (fun d ρ1 n1 => ∃ ss : List Str, d = .list (strD ss) ∧ ss.length ≤ 100 ∧ ∀ ys : List Str, ys.Nodup → (∀ p, p ∈ ys ↔ p ∈ ss) → sortedS ys = true → k (.list (strD ys)) ρ1 n1) ke
def cs_Counts_places : CS := cSq (cOwn 1 (cLc2 (cSeq (cFld (.nm 0) cCnt "_steps")) (stT (stCons (stN 3) (stCons (stN 4) (stCons (stN 5) (stNil))))) (cYes) (cSeq (cTup (cCons (cVar 3) (cCons (cVar 4) (cNil))))) (stN 2) (cYes) (cVar 2) [3, 4, 5, 2] [2])) (cRet (cCB gTuple (cCons (cSortSet (cLst (cCons (cFld (.nm 0) cCnt "_start") (cStar (cVar 1) (cNil))))) (cNil))))
abbrev n_Counts_places : List Str := ["self", "met", "place", "one", "other", "_"]
theorem places_loop {c : D} {n : Nat} {k : List D → En → Nat → Prop} : ∀ (l : List Tri) (acc : List Str), acc.length + 2 * l.length ≤ 1000 →
    (∀ ss : List Str, (∀ p, p ∈ ss ↔ p ∈ acc ∨ ends l p) → ss.length = acc.length + 2 * l.length → k (strD ss) [some (.v c), none, none, none, none, none] n) →
    cLcL2 (stT (stCons (stN 3) (stCons (stN 4) (stCons (stN 5) (stNil))))) cYes (cSeq (cTup (cCons (cVar 3) (cCons (cVar 4) (cNil))))) (stN 2) cYes (cVar 2) [3, 4, 5, 2] [2] (trisD l) [some (.v c), none, none, none, none, none] n (strD acc) k
  | [], acc, _, q => q acc (fun p => ⟨.inl, fun z => z.elim id fun ⟨t, ht, _⟩ => by cases ht⟩) rfl
  | t :: l, acc, hl, q => by
    rw [List.length_cons] at hl
    have e1 : strD acc ++ [PyData.str t.1] ++ [.str t.2.1] = strD (acc ++ [t.1, t.2.1]) := by
      unfold strD
      rw [List.map_append, List.append_assoc]
      rfl
    have la : (strD acc).length = acc.length := by unfold strD; rw [List.length_map]
    refine ⟨_, rfl, by show 2 ≤ lim; decide, _, rfl, ?_⟩
    refine ⟨_, rfl, by rw [la]; unfold lim; omega, _, rfl, by rw [List.length_append, la, List.length_singleton]; unfold lim; omega, ?_⟩
    show cLcL2 _ _ _ _ _ _ _ _ (trisD l) [some (.v c), none, none, none, none, none] n (strD acc ++ [PyData.str t.1] ++ [.str t.2.1]) k
    rw [e1]
    refine places_loop l (acc ++ [t.1, t.2.1]) (by rw [List.length_append]; simp; omega) fun ss h1 h2 => q ss (fun p => ?_) (by rw [h2, List.length_append, List.length_cons]; simp; omega)
    rw [h1, List.mem_append]
    constructor
    · rintro ((z | z) | ⟨u, hu, z⟩)
      · exact .inl z
      · refine .inr ⟨t, List.mem_cons_self .., ?_⟩
        rcases List.mem_cons.mp z with rfl | z
        · exact .inl rfl
        · exact .inr (List.mem_singleton.mp z).symm
      · exact .inr ⟨u, List.mem_cons_of_mem _ hu, z⟩
    · rintro (z | ⟨u, hu, z⟩)
      · exact .inl (.inl z)
      · rcases List.mem_cons.mp hu with rfl | hu
        · refine .inl (.inr ?_)
          rcases z with rfl | rfl
          · simp
          · simp
        · exact .inr ⟨u, hu, z⟩
theorem himp_Counts_places {e : EndsD} (ds : List D) (n : Nat) (k : D → Nat → Prop) (ke : Xv → Nat → Prop) (h : sdP_places ds n k ke) (he : e.rt = k) : cs_Counts_places (startE n_Counts_places ds) n e := by
  obtain ⟨s, l, rfl, hl, q⟩ := h
  subst he
  refine ⟨rfl, _, _, rfl, fld_steps s l, trisD l, rfl, ?_⟩
  refine places_loop l [] (by simp; omega) fun ss h1 h2 => ⟨by show 1 < 6; decide, ?_⟩
  have ls : (strD ss).length = ss.length := by unfold strD; rw [List.length_map]
  rw [List.length_nil] at h2
  refine ⟨rfl, _, _, rfl, fld_start s l, _, rfl, ?_, s :: ss, ?_, by rw [List.length_cons]; omega, fun ys y1 y2 y3 => ?_⟩
  · show ([PyData.str s] ++ (strD ss ++ [])).length ≤ lim
    rw [List.append_nil, List.length_append, ls, List.length_singleton]
    unfold lim
    omega
  · show PyData.list (.str s :: (strD ss ++ [])) = _
    rw [List.append_nil]
    rfl
  · refine ⟨_, ⟨_, _, rfl, rfl, rfl⟩, q ys y1 (fun p => ?_) y3⟩
    rw [y2, List.mem_cons, h1]
    simp
end RM
namespace RM
open PySem PySem.Spec PyProof.Rows L2 CS RZ
/-! ### sums over the places -/
def outsT (l : List Tri) (a : Str) : Int := ((l.filter fun t => t.1 = a).map fun t => t.2.2).sum
def insT (l : List Tri) (a : Str) : Int := ((l.filter fun t => t.2.1 = a).map fun t => t.2.2).sum
theorem outsT_cons (t : Tri) (l : List Tri) (a : Str) : outsT (t :: l) a = (if t.1 = a then t.2.2 else 0) + outsT l a := by
  unfold outsT
  rw [List.filter_cons]
  by_cases c : t.1 = a
  · rw [if_pos (decide_eq_true c), if_pos c, List.map_cons, List.sum_cons]
  · rw [if_neg (by simpa using c), if_neg c, Int.zero_add]
theorem insT_cons (t : Tri) (l : List Tri) (a : Str) : insT (t :: l) a = (if t.2.1 = a then t.2.2 else 0) + insT l a := by
  unfold insT
  rw [List.filter_cons]
  by_cases c : t.2.1 = a
  · rw [if_pos (decide_eq_true c), if_pos c, List.map_cons, List.sum_cons]
  · rw [if_neg (by simpa using c), if_neg c, Int.zero_add]
/-- a sum that one member alone gives -/
theorem sum_one {ys : List Str} (hn : ys.Nodup) (b : Str) (c : Int) : (ys.map fun y => if b = y then c else 0).sum = if b ∈ ys then c else 0 := by
  induction ys with
  | nil => rfl
  | cons y ys ih =>
    rw [List.nodup_cons] at hn
    rw [List.map_cons, List.sum_cons, ih hn.2]
    by_cases e : b = y
    · subst e
      rw [if_pos rfl, if_neg hn.1, if_pos (List.mem_cons_self ..), Int.add_zero]
    · rw [if_neg e, Int.zero_add]
      by_cases m : b ∈ ys
      · rw [if_pos m, if_pos (List.mem_cons_of_mem _ m)]
      · rw [if_neg m, if_neg fun z => (List.mem_cons.mp z).elim e m]
theorem sum_add (ys : List Str) (f g : Str → Int) : (ys.map fun y => f y + g y).sum = (ys.map f).sum + (ys.map g).sum := by
  induction ys with
  | nil => rfl
  | cons y ys ih =>
    rw [List.map_cons, List.map_cons, List.map_cons, List.sum_cons, List.sum_cons, List.sum_cons, ih]
    omega
theorem sum_zero (ys : List Str) : (ys.map fun _ => (0 : Int)).sum = 0 := by
  induction ys with
  | nil => rfl
  | cons y ys ih => rw [List.map_cons, List.sum_cons, ih]; rfl
theorem sum_outs {ys : List Str} (hn : ys.Nodup) (a : Str) : ∀ l : List Tri, (∀ p, ends l p → p ∈ ys) → (ys.map fun y => sumAt l (a, y)).sum = outsT l a
  | [], _ => sum_zero ys
  | t :: l, h => by
    have ih := sum_outs hn a l fun p ⟨u, hu, z⟩ => h p ⟨u, List.mem_cons_of_mem _ hu, z⟩
    rw [outsT_cons, ← ih]
    have : (fun y => sumAt (t :: l) (a, y)) = fun y => (if t.2.1 = y then (if t.1 = a then t.2.2 else 0) else 0) + sumAt l (a, y) := by
      funext y
      rw [sumAt_cons]
      congr 1
      by_cases c1 : t.1 = a
      · by_cases c2 : t.2.1 = y
        · rw [if_pos (show pr t = (a, y) by rw [← c1, ← c2]; rfl), if_pos c2, if_pos c1]
        · rw [if_neg (show ¬ pr t = (a, y) from fun z => c2 (congrArg Prod.snd (show (t.1, t.2.1) = (a, y) from z))), if_neg c2]
      · rw [if_neg (show ¬ pr t = (a, y) from fun z => c1 (congrArg Prod.fst (show (t.1, t.2.1) = (a, y) from z))), if_neg c1]
        split <;> rfl
    rw [this, sum_add, sum_one hn, if_pos (h _ ⟨t, List.mem_cons_self .., .inr rfl⟩)]
theorem sum_ins {ys : List Str} (hn : ys.Nodup) (a : Str) : ∀ l : List Tri, (∀ p, ends l p → p ∈ ys) → (ys.map fun y => sumAt l (y, a)).sum = insT l a
  | [], _ => sum_zero ys
  | t :: l, h => by
    have ih := sum_ins hn a l fun p ⟨u, hu, z⟩ => h p ⟨u, List.mem_cons_of_mem _ hu, z⟩
    rw [insT_cons, ← ih]
    have : (fun y => sumAt (t :: l) (y, a)) = fun y => (if t.1 = y then (if t.2.1 = a then t.2.2 else 0) else 0) + sumAt l (y, a) := by
      funext y
      rw [sumAt_cons]
      congr 1
      by_cases c1 : t.2.1 = a
      · by_cases c2 : t.1 = y
        · rw [if_pos (show pr t = (y, a) by rw [← c1, ← c2]; rfl), if_pos c2, if_pos c1]
        · rw [if_neg (show ¬ pr t = (y, a) from fun z => c2 (congrArg Prod.fst (show (t.1, t.2.1) = (y, a) from z))), if_neg c2]
      · rw [if_neg (show ¬ pr t = (y, a) from fun z => c1 (congrArg Prod.snd (show (t.1, t.2.1) = (y, a) from z))), if_neg c1]
        split <;> rfl
    rw [this, sum_add, sum_one hn, if_pos (h _ ⟨t, List.mem_cons_self .., .inl rfl⟩)]
theorem sum_total {ys : List Str} (hn : ys.Nodup) : ∀ l : List Tri, (∀ p, ends l p → p ∈ ys) → (ys.map fun y => outsT l y).sum = (l.map fun t => t.2.2).sum
  | [], _ => sum_zero ys
  | t :: l, h => by
    have ih := sum_total hn l fun p ⟨u, hu, z⟩ => h p ⟨u, List.mem_cons_of_mem _ hu, z⟩
    rw [List.map_cons, List.sum_cons, ← ih]
    have : (fun y => outsT (t :: l) y) = fun y => (if t.1 = y then t.2.2 else 0) + outsT l y := by
      funext y
      rw [outsT_cons]
    rw [this, sum_add, sum_one hn, if_pos (h _ ⟨t, List.mem_cons_self .., .inl rfl⟩)]
end RM
namespace RM
open PySem PySem.Spec PyProof.Rows L2 CS RZ
/-! ### texts in order -/
def leS (a b : Str) : Prop := a.cps.toList ≤ b.cps.toList
theorem leS_anti {a b : Str} (h : leS a b) (h2 : leS b a) : a = b := PySem.W.str_of_cps (List.le_antisymm h h2)
theorem leS_trans {a b c : Str} (h : leS a b) (h2 : leS b c) : leS a c := List.le_trans h h2
theorem not_lt {a b : Str} (h : ltCps b.cps.toList a.cps.toList = false) : leS a b := by
  rw [ltCps_eq, decide_eq_false_iff_not] at h
  exact List.not_lt.mp h
theorem rising_pw : ∀ (p : Str) (l : List Str), risingS p l = true → (p :: l).Pairwise leS
  | p, [], _ => List.pairwise_singleton _ _
  | p, x :: r, h => by
    have h' : (!ltCps x.cps.toList p.cps.toList && risingS x r) = true := h
    rw [Bool.and_eq_true] at h'
    have ih := rising_pw x r h'.2
    have hx : leS p x := not_lt (by simpa using h'.1)
    rw [List.pairwise_cons] at ih ⊢
    refine ⟨fun y hy => ?_, List.pairwise_cons.mpr ih⟩
    rcases List.mem_cons.mp hy with rfl | hy
    · exact hx
    · exact leS_trans hx (ih.1 y hy)
theorem sorted_pw {l : List Str} (h : sortedS l = true) : l.Pairwise leS := by
  cases l with
  | nil => exact .nil
  | cons x r => exact rising_pw x r h
theorem sorted_one {ys zs : List Str} (h1 : ys.Pairwise leS) (h2 : zs.Pairwise leS) (n1 : ys.Nodup) (n2 : zs.Nodup) (hm : ∀ p, p ∈ ys ↔ p ∈ zs) : ys = zs :=
  List.Perm.eq_of_pairwise (le := leS) (fun a b _ _ x y => leS_anti x y) h1 h2 ((List.perm_ext_iff_of_nodup n1 n2).mpr hm)
/-! ### what comes next to a place -/
theorem leP_fst {a b c : Str} (h : leP (a, b) (a, c) = true) : leS b c := by
  have g : PySem.W.dataLt (tx (a, c)) (tx (a, b)) = false := by
    have : (!PySem.W.dataLt (tx (a, c)) (tx (a, b))) = true := h
    simpa using this
  have al : ∀ x y : Str, PySem.W.alike (.str x) (.str y) = true := fun x y => by simp [PySem.W.alike]
  unfold tx at g
  rw [PySem.W.dataLt_pair (al _ _) (al _ _), RM.eqv_str, RM.eqv_str, if_pos (decide_eq_true rfl)] at g
  by_cases e : c = b
  · rw [e]
    exact List.le_refl _
  · rw [if_neg (by simpa using e), PySem.W.dataLt_str, decide_eq_false_iff_not] at g
    exact List.not_lt.mp g
theorem leP_snd {a b c : Str} (h : leP (a, c) (b, c) = true) : leS a b := by
  have g : PySem.W.dataLt (tx (b, c)) (tx (a, c)) = false := by
    have : (!PySem.W.dataLt (tx (b, c)) (tx (a, c))) = true := h
    simpa using this
  have al : ∀ x y : Str, PySem.W.alike (.str x) (.str y) = true := fun x y => by simp [PySem.W.alike]
  unfold tx at g
  rw [PySem.W.dataLt_pair (al _ _) (al _ _), RM.eqv_str, RM.eqv_str] at g
  by_cases e : b = a
  · rw [e]
    exact List.le_refl _
  · rw [if_neg (by simpa using e), PySem.W.dataLt_str, decide_eq_false_iff_not] at g
    exact List.not_lt.mp g
theorem canon_pw (l : List Tri) : (canon l).Pairwise fun t u => leP (pr t) (pr u) = true := by
  have h : ((canon l).map pr).Pairwise fun a b => leP a b = true := by
    rw [canon_pr]
    exact (PySem.W.sort_pairwise leP_total _).sublist List.filter_sublist
  exact List.pairwise_map.mp h
theorem nexts_eq {l : List Tri} (hp : l.Pairwise fun t u => leP (pr t) (pr u) = true) (hn : (l.map pr).Nodup) (a : Str) {ys : List Str} (h1 : ys.Pairwise leS) (n1 : ys.Nodup) (hm : ∀ p, ends l p → p ∈ ys) : (ys.filter fun y => hasP l (a, y)) = (l.filter fun t => t.1 = a).map fun t => t.2.1 := by
  have pf : (l.filter fun t => t.1 = a).Pairwise fun t u => leP (pr t) (pr u) = true := hp.sublist List.filter_sublist
  have nf : ((l.filter fun t => t.1 = a).map pr).Nodup := hn.sublist (List.filter_sublist.map _)
  refine sorted_one (h1.sublist List.filter_sublist) ?_ (n1.sublist List.filter_sublist) ?_ fun p => ?_
  · refine List.pairwise_map.mpr (pf.imp_of_mem fun {t u} ht hu h => ?_)
    have e1 := of_decide_eq_true (List.mem_filter.mp ht).2
    have e2 := of_decide_eq_true (List.mem_filter.mp hu).2
    have h' : leP (t.1, t.2.1) (u.1, u.2.1) = true := h
    rw [e1, e2] at h'
    exact leP_fst h'
  · refine List.pairwise_map.mpr ((List.pairwise_map.mp nf).imp_of_mem fun {t u} ht hu h z => h ?_)
    have e1 := of_decide_eq_true (List.mem_filter.mp ht).2
    have e2 := of_decide_eq_true (List.mem_filter.mp hu).2
    show (t.1, t.2.1) = (u.1, u.2.1)
    rw [e1, e2, z]
  · rw [List.mem_filter, List.mem_map]
    unfold hasP
    rw [decide_eq_true_eq, List.mem_map]
    constructor
    · rintro ⟨_, t, ht, he⟩
      have he' : (t.1, t.2.1) = (a, p) := he
      exact ⟨t, List.mem_filter.mpr ⟨ht, decide_eq_true (congrArg Prod.fst he')⟩, congrArg Prod.snd he'⟩
    · rintro ⟨t, ht, rfl⟩
      obtain ⟨h1, h2⟩ := List.mem_filter.mp ht
      exact ⟨hm _ ⟨t, h1, .inr rfl⟩, t, h1, by rw [← of_decide_eq_true h2]; rfl⟩
theorem befores_eq {l : List Tri} (hp : l.Pairwise fun t u => leP (pr t) (pr u) = true) (hn : (l.map pr).Nodup) (a : Str) {ys : List Str} (h1 : ys.Pairwise leS) (n1 : ys.Nodup) (hm : ∀ p, ends l p → p ∈ ys) : (ys.filter fun y => hasP l (y, a)) = (l.filter fun t => t.2.1 = a).map fun t => t.1 := by
  have pf : (l.filter fun t => t.2.1 = a).Pairwise fun t u => leP (pr t) (pr u) = true := hp.sublist List.filter_sublist
  have nf : ((l.filter fun t => t.2.1 = a).map pr).Nodup := hn.sublist (List.filter_sublist.map _)
  refine sorted_one (h1.sublist List.filter_sublist) ?_ (n1.sublist List.filter_sublist) ?_ fun p => ?_
  · refine List.pairwise_map.mpr (pf.imp_of_mem fun {t u} ht hu h => ?_)
    have e1 := of_decide_eq_true (List.mem_filter.mp ht).2
    have e2 := of_decide_eq_true (List.mem_filter.mp hu).2
    have h' : leP (t.1, t.2.1) (u.1, u.2.1) = true := h
    rw [e1, e2] at h'
    exact leP_snd h'
  · refine List.pairwise_map.mpr ((List.pairwise_map.mp nf).imp_of_mem fun {t u} ht hu h z => h ?_)
    have e1 := of_decide_eq_true (List.mem_filter.mp ht).2
    have e2 := of_decide_eq_true (List.mem_filter.mp hu).2
    show (t.1, t.2.1) = (u.1, u.2.1)
    rw [e1, e2, z]
  · rw [List.mem_filter, List.mem_map]
    unfold hasP
    rw [decide_eq_true_eq, List.mem_map]
    constructor
    · rintro ⟨_, t, ht, he⟩
      have he' : (t.1, t.2.1) = (p, a) := he
      exact ⟨t, List.mem_filter.mpr ⟨ht, decide_eq_true (congrArg Prod.snd he')⟩, congrArg Prod.fst he'⟩
    · rintro ⟨t, ht, rfl⟩
      obtain ⟨h1, h2⟩ := List.mem_filter.mp ht
      exact ⟨hm _ ⟨t, h1, .inl rfl⟩, t, h1, by rw [← of_decide_eq_true h2]; rfl⟩
end RM
namespace RM
open PySem PySem.Spec PyProof.Rows L2 CS RZ
/-! ### k08: a turn -/
def okS : Nat → D → Prop
  | 0, _ => False
  | _ + 1, .int _ => True
  | _ + 1, .str _ => True
  | _ + 1, .bool _ => True
  | _ + 1, .none => True
  | n + 1, .list ds => ds.length ≤ 1000 ∧ ∀ d ∈ ds, okS n d
  | n + 1, .tuple ds => ds.length ≤ 1000 ∧ ∀ d ∈ ds, okS n d
  | _ + 1, _ => False
/-- alike with itself -/
def sdSame : SpD := fun ds n k _ => ∃ x, ds = [x, x] ∧ okS 4 x ∧ k (.bool true) n
def r1 : CS := cSet 2 (cCall sdTags (cCons (cVar 0) (cCons (cOp addD (cC (.int 2)) (cCall sdTake (cCons (cVar 0) (cCons (cC (.int 5)) (cNil))))) (cNil))))
def r2 : CS := cPar 6 7 (cCons (cCall sdOf (cCons (cVar 0) (cCons (cVar 2) (cNil)))) (cCons (cCall sdStrewn (cCons (cVar 0) (cCons (cVar 2) (cCons (cC (.int 9)) (cCons (cCall sdOf (cCons (cVar 0) (cCons (cLst (cCons (cC (.int 1)) (cCons (cC (.int 3)) (cCons (cOp powD (cC (.int 10)) (cC (.int 28))) (cNil))))) (cNil)))) (cNil)))))) (cNil)))
def r3 : CS := cSet 3 (cMake cCnt sdInit (cCons (cVar 6) (cCons (cVar 7) (cNil))))
def r4 : CS := cIfS (cOrT (cNotT (cB (cEqO sdEq (cMake cCnt sdInit (cCons (cProp sdP_start (cVar 3) cCnt) (cCons (cProp sdP_steps (cVar 3) cCnt) (cNil)))) (cVar 3) cCnt))) (cNotT (cB (cEqO sdEq (cMake cCnt sdInit (cCons (cProp sdP_start (cVar 3) cCnt) (cCons (cOp addD (cRev (cProp sdP_steps (cVar 3) cCnt) (cNeg (cC (.int 1)))) (cProp sdP_steps (cVar 3) cCnt)) (cNil)))) (cBinO sdBinAdd (cVar 3) (cVar 3) cCnt) cCnt)))) (cRet (cC (.bool false))) (cNext)
def r5 : CS := cPar 8 9 (cCons (cMake1 cCnt sdInit (.tuple []) (cCons (cVar 6) (cNil))) (cCons (cVar 3) (cNil)))
def r6 : CS := cFor (cSeq (cCall sdPick (cCons (cVar 0) (cCons (cVar 7) (cCons (cCB gLen (cCons (cVar 7) (cNil))) (cNil)))))) (stN 4) (cAugO 8 sdBinAdd (cMake cCnt sdInit (cCons (cC (.str "yonder")) (cCons (cLst (cCons (cVar 4) (cNil))) (cNil)))) cCnt)
def r7 : CS := cIfS (cOrT (cNotT (cB (cEqO sdEq (cVar 8) (cVar 3) cCnt))) (cB (cOp neD (cProp sdP_start (cVar 8) cCnt) (cVar 6)))) (cRet (cC (.bool false))) (cNext)
def r8 : CS := cFor (cSeq (cCall sdPick (cCons (cVar 0) (cCons (cVar 7) (cCons (cCB gLen (cCons (cVar 7) (cNil))) (cNil)))))) (stN 4) (cAugO 9 sdBinSub (cMake cCnt sdInit (cCons (cC (.str "thither")) (cCons (cLst (cCons (cVar 4) (cNil))) (cNil)))) cCnt)
def r9 : CS := cIfS (cOrT (cNotT (cB (cEqO sdEq (cVar 9) (cMake1 cCnt sdInit (.tuple []) (cCons (cVar 6) (cNil))) cCnt))) (cB (cOp neD (cProp sdP_places (cVar 9) cCnt) (cTup (cCons (cVar 6) (cNil)))))) (cRet (cC (.bool false))) (cNext)
def q1 : CS := cOwn 10 (cLc (cSeq (cProp sdP_places (cVar 3) cCnt)) (stN 13) (cYes) (cSubO sdSub (cVar 3) (cTup (cCons (cVar 5) (cCons (cVar 13) (cNil)))) cCnt) [13])
def q2 : CS := cOwn 11 (cLc (cSeq (cProp sdP_places (cVar 3) cCnt)) (stN 13) (cYes) (cSubO sdSub (cVar 3) (cTup (cCons (cVar 13) (cCons (cVar 5) (cNil)))) cCnt) [13])
def q3 : CS := cIfS (cNotT (cB (cCall sdSame (cCons (cLst (cCons (cCB gSum (cCons (cVar 10) (cNil))) (cCons (cCB gSum (cCons (cVar 11) (cNil))) (cNil)))) (cCons (cLst (cCons (cMeth sdM_outs (cVar 3) (cCons (cVar 5) (cNil)) cCnt "outs") (cCons (cMeth sdM_ins (cVar 3) (cCons (cVar 5) (cNil)) cCnt "ins") (cNil)))) (cNil)))))) (cRet (cC (.bool false))) (cNext)
def q4 : CS := cSet 12 (cDGet2 (.ex (cCB gDictS (cCons (cCF gList' (cCons (cCall sdSurplus (cCons (cVar 3) (cNil))) (cNil))) (cNil)))) (cKey (cVar 5)) (cC (.int 0)))
def q5 : CS := cIfS (cB (cOp neD (cOp subD (cMeth sdM_outs (cVar 3) (cCons (cVar 5) (cNil)) cCnt "outs") (cMeth sdM_ins (cVar 3) (cCons (cVar 5) (cNil)) cCnt "ins")) (cVar 12))) (cRet (cC (.bool false))) (cNext)
def q6 : CS := cIfS (cNotT (cB (cCall sdSame (cCons (cLc (cSeq (cProp sdP_places (cVar 3) cCnt)) (stN 13) (cB (cInO false sdIn (cTup (cCons (cVar 5) (cCons (cVar 13) (cNil)))) (cVar 3) cCnt)) (cVar 13) [13]) (cCons (cCF gList' (cCons (cMeth sdM_nexts (cVar 3) (cCons (cVar 5) (cNil)) cCnt "nexts") (cNil))) (cNil)))))) (cRet (cC (.bool false))) (cNext)
def q7 : CS := cIfS (cNotT (cB (cCall sdSame (cCons (cLc (cSeq (cProp sdP_places (cVar 3) cCnt)) (stN 13) (cB (cInO false sdIn (cTup (cCons (cVar 13) (cCons (cVar 5) (cNil)))) (cVar 3) cCnt)) (cVar 13) [13]) (cCons (cCF gList' (cCons (cMeth sdM_befores (cVar 3) (cCons (cVar 5) (cNil)) cCnt "befores") (cNil))) (cNil)))))) (cRet (cC (.bool false))) (cNext)
def r10 : CS := cFor (cSeq (cProp sdP_places (cVar 3) cCnt)) (stN 5) (cSq q1 (cSq q2 (cSq q3 (cSq q4 (cSq q5 (cSq q6 (q7)))))))
def r11 : CS := cIfS (cB (cOp neD (cProp sdP_total (cVar 3) cCnt) (cCB gSum (cCons (cLc (cSeq (cProp sdP_places (cVar 3) cCnt)) (stN 5) (cYes) (cMeth sdM_outs (cVar 3) (cCons (cVar 5) (cNil)) cCnt "outs") [5]) (cNil))))) (cRet (cC (.bool false))) (cNext)
def rBody : CS := cSq r1 (cSq r2 (cSq r3 (cSq r4 (cSq r5 (cSq r6 (cSq r7 (cSq r8 (cSq r9 (cSq r10 (r11))))))))))
def cs_law_right : CS := cSq (cFor (cRange1 (cCons (cC (.int 6)) (cNil))) (stN 1) rBody) (cRet (cC (.bool true)))
abbrev fr (t1 t2 t3 t4 t5 t6 t7 t8 t9 t10 t11 t12 t13 : Option Sl) : En := [some (.v boxD), t1, t2, t3, t4, t5, t6, t7, t8, t9, t10, t11, t12, t13]
section
variable {e : EndsD} {n : Nat} {t1 t2 t3 t4 t5 t6 t7 t8 t9 t10 t11 t12 t13 : Option Sl}
theorem r1_ok (hn : n ≤ 500000) (q : ∀ (ss : List Str) (n' : Nat), ss.Nodup → 2 ≤ ss.length → ss.length ≤ 6 → (∀ s ∈ ss, s ∈ tagPool) → n' ≤ n + 1002 → e.nx (fr t1 (some (.v (.list (strD ss)))) t3 t4 t5 t6 t7 t8 t9 t10 t11 t12 t13) n') : r1 (fr t1 t2 t3 t4 t5 t6 t7 t8 t9 t10 t11 t12 t13) n e := by
  refine ⟨5, rfl, by omega, by decide, by decide, fun r r0 r1 => ?_⟩
  refine ⟨.int (2 + r), rfl, 2 + r, rfl, by omega, by omega, by omega, fun ss n' h1 h2 h3 h4 => q ss n' h2 (by omega) (by omega) h3 (by omega)⟩
theorem strD_len (ss : List Str) : (strD ss).length = ss.length := by unfold strD; rw [List.length_map]
theorem r2_ok {ss : List Str} (hn : n ≤ 550000) (s1 : ss.Nodup) (s2 : 2 ≤ ss.length) (s3 : ss.length ≤ 6)
    (q : ∀ (f : Str) (l : List Tri) (n' : Nat), f ∈ ss → l.length ≤ 9 → (∀ t ∈ l, t.1 ∈ ss ∧ t.2.1 ∈ ss ∧ t.1 ≠ t.2.1 ∧ 0 ≤ t.2.2) → n' ≤ n + 30002 → e.nx (fr t1 (some (.v (.list (strD ss)))) t3 t4 t5 (some (.v (.str f))) (some (.v (.tuple (trisD l)))) t8 t9 t10 t11 t12 t13) n') :
    r2 (fr t1 (some (.v (.list (strD ss)))) t3 t4 t5 t6 t7 t8 t9 t10 t11 t12 t13) n e := by
  refine ⟨.list (strD ss), strD ss, rfl, rfl, by omega, by rw [strD_len]; omega, by rw [strD_len]; omega, fun d hd => ?_⟩
  obtain ⟨f, hf, rfl⟩ := List.mem_map.mp hd
  refine ⟨.int (10 ^ 28), rfl, by show 3 ≤ lim; decide, ?_⟩
  refine ⟨.list [.int 1, .int 3, .int (10 ^ 28)], [.int 1, .int 3, .int (10 ^ 28)], rfl, rfl, by omega, by show 0 < 3; decide, by show 3 < 1000000; decide, fun d2 hd2 => ?_⟩
  obtain ⟨high, rfl, g0, g1⟩ : ∃ high : Int, d2 = .int high ∧ 0 ≤ high ∧ high < 2 ^ 199 := by
    rcases List.mem_cons.mp hd2 with rfl | hd2
    · exact ⟨1, rfl, by decide, by decide⟩
    rcases List.mem_cons.mp hd2 with rfl | hd2
    · exact ⟨3, rfl, by decide, by decide⟩
    · rw [List.mem_singleton.mp hd2]
      exact ⟨10 ^ 28, rfl, by decide, by decide⟩
  refine ⟨ss, 9, high, rfl, s1, s2, by omega, by omega, by decide, by decide, g0, g1, fun l n' h1 h2 h3 => ?_⟩
  exact ⟨.str f, .tuple (trisD l), rfl, q f l n' hf h1 (fun t ht => let ⟨a, b, c, d, _⟩ := h2 t ht; ⟨a, b, c, d⟩) (by omega)⟩
theorem r3_ok {f : Str} {l : List Tri} (hF : Fine l) (hg : GoodL l) (hl : l.length ≤ 9) (q : e.nx (fr t1 t2 (some (.v (cntD f (canon l)))) t4 t5 (some (.v (.str f))) (some (.v (.tuple (trisD l)))) t8 t9 t10 t11 t12 t13) n) :
    r3 (fr t1 t2 t3 t4 t5 (some (.v (.str f))) (some (.v (.tuple (trisD l)))) t8 t9 t10 t11 t12 t13) n e := by
  refine ⟨f, _, trisD l, l, rfl, rfl, rowsAre_tris l, hg, by omega, ?_⟩
  rw [wrongT_none hF]
  exact q
theorem r4_ok {f : Str} {l : List Tri} (hf : GoodS f) (hF : Fine l) (hg : GoodL l) (hl : l.length ≤ 9) (q : e.nx (fr t1 t2 (some (.v (cntD f (canon l)))) t4 t5 t6 t7 t8 t9 t10 t11 t12 t13) n) : r4 (fr t1 t2 (some (.v (cntD f (canon l)))) t4 t5 t6 t7 t8 t9 t10 t11 t12 t13) n e := by
  have lc := canon_len l
  have hc := fine_canon hF
  have gc := good_canon hg
  have hr : Fine (canon l).reverse := fun t ht => hc t (List.mem_reverse.mp ht)
  have gr : GoodL (canon l).reverse := fun t ht => gc t (List.mem_reverse.mp ht)
  refine ⟨⟨_, rfl⟩, f, canon l, rfl, ⟨_, rfl⟩, f, canon l, rfl, f, _, trisD (canon l), canon l, rfl, rfl, rowsAre_tris _, gc, by omega, ?_⟩
  rw [wrongT_none hc, canon_canon hF]
  refine ⟨⟨_, rfl⟩, ⟨_, rfl⟩, f, canon l, _, rfl, hf, gc, .inl ⟨f, canon l, rfl, hf, gc, ?_⟩⟩
  rw [decide_eq_true (show f = f ∧ canon l = canon l from ⟨rfl, rfl⟩)]
  refine ⟨true, rfl, ?_⟩
  refine ⟨⟨_, rfl⟩, f, canon l, rfl, ⟨_, rfl⟩, f, canon l, rfl, ?_⟩
  refine ⟨_, rfl, rfl, _, rfl, ?_⟩
  refine ⟨⟨_, rfl⟩, f, canon l, rfl, .tuple (trisD ((canon l).reverse ++ canon l)), ?_, ?_⟩
  · show (if (trisD (canon l)).reverse.length + (trisD (canon l)).length ≤ lim then some (PyData.tuple ((trisD (canon l)).reverse ++ trisD (canon l))) else none) = _
    rw [List.length_reverse, tris_len, if_pos (by unfold lim; omega)]
    unfold trisD
    rw [List.map_append, List.map_reverse]
  · have e1 : canon ((canon l).reverse ++ canon l) = canon (l ++ l) := canon_ext fun p => .inl (by rw [sumAt_append, sumAt_append, sumAt_perm (List.reverse_perm _), sumAt_canon' hF])
    refine ⟨f, _, _, (canon l).reverse ++ canon l, rfl, rfl, rowsAre_tris _, good_append gr gc, by rw [List.length_append, List.length_reverse]; omega, ?_⟩
    rw [wrongT_none (fine_append hr hc), e1]
    refine ⟨⟨_, rfl⟩, ⟨_, rfl⟩, f, canon l, f, canon l, rfl, gc, gc, by omega, ?_⟩
    rw [wrongT_none (fine_append hc hc), canon_add hF hF]
    refine ⟨⟨_, rfl⟩, ⟨_, rfl⟩, f, canon (l ++ l), _, rfl, hf, good_canon (good_append hg hg), .inl ⟨f, canon (l ++ l), rfl, hf, good_canon (good_append hg hg), ?_⟩⟩
    rw [decide_eq_true (show f = f ∧ canon (l ++ l) = canon (l ++ l) from ⟨rfl, rfl⟩)]
    exact ⟨true, rfl, q⟩
theorem r5_ok {f : Str} {m : D} (q : e.nx (fr t1 t2 (some (.v m)) t4 t5 (some (.v (.str f))) t7 (some (.v (cntD f (canon [])))) (some (.v m)) t10 t11 t12 t13) n) : r5 (fr t1 t2 (some (.v m)) t4 t5 (some (.v (.str f))) t7 t8 t9 t10 t11 t12 t13) n e :=
  ⟨f, _, [], [], rfl, rfl, rfl, fun _ h => (by cases h), by decide, _, _, rfl, q⟩
/-- what is picked of triples: all, in some order -/
theorem pick_all {out rest : List D} {l : List Tri} (hp : (out ++ rest).Perm (trisD l)) (hl : out.length = l.length) : ∃ m : List Tri, out = trisD m ∧ m.Perm l := by
  have hr : rest = [] := by
    have := hp.length_eq
    rw [List.length_append, tris_len, hl] at this
    exact List.eq_nil_of_length_eq_zero (by omega)
  subst hr
  rw [List.append_nil] at hp
  let un : D → Tri := fun d => match d with
    | .tuple [.str a, .str b, .int c] => (a, b, c)
    | _ => (⟨#[]⟩, ⟨#[]⟩, 0)
  have hu : ∀ t, un (triD t) = t := fun t => rfl
  refine ⟨out.map un, ?_, ?_⟩
  · unfold trisD
    rw [List.map_map]
    refine ((List.map_congr_left fun d hd => ?_).trans (List.map_id out)).symm
    obtain ⟨t, _, rfl⟩ := List.mem_map.mp (hp.mem_iff.mp hd)
    rfl
  · have := hp.map un
    unfold trisD at this
    rw [List.map_map] at this
    have e1 : (un ∘ triD) = id := funext hu
    rwa [e1, List.map_id] at this
end
end RM
namespace RM
open PySem PySem.Spec PyProof.Rows L2 CS RZ
section
variable {e : EndsD} {n : Nat} {t1 t2 t3 t4 t5 t6 t7 t8 t9 t10 t11 t12 t13 : Option Sl}
theorem fine1 {t : Tri} (h : t.1 ≠ t.2.1 ∧ 0 ≤ t.2.2) : Fine [t] := fun u hu => by
  rw [List.mem_singleton.mp hu]
  exact h
theorem good1 {t : Tri} (h : GoodP (pr t)) : GoodL [t] := fun u hu => by
  rw [List.mem_singleton.mp hu]
  exact h
theorem add_loop {f : Str} : ∀ (m done : List Tri) (t4 : Option Sl), Fine (done ++ m) → GoodL (done ++ m) → done.length + m.length ≤ 900 → (∀ t4, e.nx (fr t1 t2 t3 t4 t5 t6 t7 (some (.v (cntD f (canon (done ++ m))))) t9 t10 t11 t12 t13) n) →
    cForL (stN 4) (cAugO 8 sdBinAdd (cMake cCnt sdInit (cCons (cC (.str "yonder")) (cCons (cLst (cCons (cVar 4) (cNil))) (cNil)))) cCnt) (trisD m) (fr t1 t2 t3 t4 t5 t6 t7 (some (.v (cntD f (canon done)))) t9 t10 t11 t12 t13) n e
  | [], done, t4, _, _, _, q => by
    rw [List.append_nil] at q
    exact q t4
  | t :: m, done, t4, hF, hg, hl, q => by
    have ea : done ++ t :: m = (done ++ [t]) ++ m := by rw [List.append_assoc]; rfl
    rw [List.length_cons] at hl
    have ht : t ∈ done ++ t :: m := by simp
    have fd : Fine done := fun u hu => hF u (List.mem_append_left _ hu)
    have gd : GoodL done := fun u hu => hg u (List.mem_append_left _ hu)
    have ft := fine1 (hF t ht)
    have gt := good1 (hg t ht)
    have l1 := canon_len done
    have l2 : (canon [t]).length ≤ 1 := canon_len [t]
    refine ⟨_, rfl, cntF f (canon done), rfl, by show 1 ≤ lim; decide, "yonder", _, [triD t], [t], rfl, rfl, rowsAre_tris [t], gt, (by show 1 ≤ 1000; decide), ?_⟩
    rw [wrongT_none ft]
    refine ⟨⟨_, rfl⟩, f, canon done, "yonder", canon [t], rfl, good_canon gd, good_canon gt, by omega, ?_⟩
    rw [wrongT_none (fine_append (fine_canon fd) (fine_canon ft)), canon_add fd ft]
    refine add_loop m (done ++ [t]) _ (by rw [← ea]; exact hF) (by rw [← ea]; exact hg) (by rw [List.length_append, List.length_singleton]; omega) fun t4 => ?_
    rw [← ea]
    exact q t4
theorem r6_ok {f : Str} {l : List Tri} (hn : n ≤ 600000) (hF : Fine l) (hg : GoodL l) (hl : l.length ≤ 9) (q : ∀ (t4 : Option Sl) (n' : Nat), n' ≤ n + 1000 → e.nx (fr t1 t2 t3 t4 t5 t6 (some (.v (.tuple (trisD l)))) (some (.v (cntD f (canon l)))) t9 t10 t11 t12 t13) n') :
    r6 (fr t1 t2 t3 t4 t5 t6 (some (.v (.tuple (trisD l)))) (some (.v (cntD f (canon [])))) t9 t10 t11 t12 t13) n e := by
  refine ⟨.int (l.length : Nat), ⟨.tuple (trisD l), l.length, rfl, congrArg some (tris_len l), rfl⟩, .tuple (trisD l), trisD l, (l.length : Nat), rfl, .inl ⟨_, rfl, rfl⟩, by omega, by omega, by omega, by rw [tris_len]; omega, fun out rest n' hp ho hn' => ?_⟩
  obtain ⟨m, rfl, hm⟩ := pick_all hp (by rw [ho, tris_len]; omega)
  refine ⟨trisD m, rfl, ?_⟩
  refine add_loop m [] _ (fun t ht => hF t (hm.mem_iff.mp ht)) (fun t ht => hg t (hm.mem_iff.mp ht)) (by rw [hm.length_eq]; simp; omega) fun t4 => ?_
  rw [List.nil_append, canon_perm hm]
  exact q t4 n' hn'
theorem sub_all {f : Str} : ∀ (m : List Tri) (t4 : Option Sl), Fine m → GoodL m → m.length ≤ 900 → (∀ t4, e.nx (fr t1 t2 t3 t4 t5 t6 t7 t8 (some (.v (cntD f (canon [])))) t10 t11 t12 t13) n) →
    cForL (stN 4) (cAugO 9 sdBinSub (cMake cCnt sdInit (cCons (cC (.str "thither")) (cCons (cLst (cCons (cVar 4) (cNil))) (cNil)))) cCnt) (trisD m) (fr t1 t2 t3 t4 t5 t6 t7 t8 (some (.v (cntD f (canon m)))) t10 t11 t12 t13) n e
  | [], t4, _, _, _, q => q t4
  | t :: m, t4, hF, hg, hl, q => by
    rw [List.length_cons] at hl
    have ft := fine1 (hF t (List.mem_cons_self ..))
    have gt := good1 (hg t (List.mem_cons_self ..))
    have fm : Fine m := fun u hu => hF u (List.mem_cons_of_mem _ hu)
    have lc := canon_len (t :: m)
    rw [List.length_cons] at lc
    have hs : ∀ p, sumAt (t :: m) p = sumAt [t] p + sumAt m p := fun p => by
      have := sumAt_append [t] m p
      rwa [List.singleton_append] at this
    obtain ⟨h1, h2, h3⟩ := canon_sub hF ft (fun p => by have := sumAt_nonneg (fun u hu => (fm u hu).2) p; rw [hs]; omega) m (fun p => by rw [hs]; omega)
    refine ⟨_, rfl, cntF f (canon (t :: m)), rfl, by show 1 ≤ lim; decide, "thither", _, [triD t], [t], rfl, rfl, rowsAre_tris [t], gt, (by show 1 ≤ 1000; decide), ?_⟩
    rw [wrongT_none ft]
    refine ⟨⟨_, rfl⟩, f, canon (t :: m), "thither", canon [t], rfl, good_canon hg, by omega, ?_⟩
    rw [h1]
    dsimp only
    rw [wrongT_none h2, h3]
    exact sub_all m _ fm (fun u hu => hg u (List.mem_cons_of_mem _ hu)) (by omega) q
theorem r8_ok {f : Str} {l : List Tri} (hn : n ≤ 600000) (hF : Fine l) (hg : GoodL l) (hl : l.length ≤ 9) (q : ∀ (t4 : Option Sl) (n' : Nat), n' ≤ n + 1000 → e.nx (fr t1 t2 t3 t4 t5 t6 (some (.v (.tuple (trisD l)))) t8 (some (.v (cntD f (canon [])))) t10 t11 t12 t13) n') :
    r8 (fr t1 t2 t3 t4 t5 t6 (some (.v (.tuple (trisD l)))) t8 (some (.v (cntD f (canon l)))) t10 t11 t12 t13) n e := by
  refine ⟨.int (l.length : Nat), ⟨.tuple (trisD l), l.length, rfl, congrArg some (tris_len l), rfl⟩, .tuple (trisD l), trisD l, (l.length : Nat), rfl, .inl ⟨_, rfl, rfl⟩, by omega, by omega, by omega, by rw [tris_len]; omega, fun out rest n' hp ho hn' => ?_⟩
  obtain ⟨m, rfl, hm⟩ := pick_all hp (by rw [ho, tris_len]; omega)
  refine ⟨trisD m, rfl, ?_⟩
  rw [← canon_perm hm]
  exact sub_all m _ (fun t ht => hF t (hm.mem_iff.mp ht)) (fun t ht => hg t (hm.mem_iff.mp ht)) (by rw [hm.length_eq]; omega) fun t4 => q t4 n' hn'
theorem neD_str {a b : Str} (ha : GoodS a) (hb : GoodS b) : neD (.str a) (.str b) = some (.bool (!decide (a = b))) := by
  unfold neD
  rw [(OkN.str 0 ha).ok (by decide), (OkN.str 0 hb).ok (by decide), RM.eqv_str]
  rfl
theorem r7_ok {f : Str} {l : List Tri} (hf : GoodS f) (hg : GoodL l) (q : e.nx (fr t1 t2 (some (.v (cntD f (canon l)))) t4 t5 (some (.v (.str f))) t7 (some (.v (cntD f (canon l)))) t9 t10 t11 t12 t13) n) : r7 (fr t1 t2 (some (.v (cntD f (canon l)))) t4 t5 (some (.v (.str f))) t7 (some (.v (cntD f (canon l)))) t9 t10 t11 t12 t13) n e := by
  have gc := good_canon hg
  refine ⟨⟨_, rfl⟩, ⟨_, rfl⟩, f, canon l, _, rfl, hf, gc, .inl ⟨f, canon l, rfl, hf, gc, ?_⟩⟩
  rw [decide_eq_true (show f = f ∧ canon l = canon l from ⟨rfl, rfl⟩)]
  refine ⟨true, rfl, ?_⟩
  refine ⟨⟨_, rfl⟩, f, canon l, rfl, _, neD_str hf hf, _, rfl, ?_⟩
  rw [decide_eq_true rfl]
  exact q
end
end RM
namespace RM
open PySem PySem.Spec PyProof.Rows L2 CS RZ
theorem strs_eqv : ∀ ys : List Str, PyData.eqvAll (strD ys) (strD ys) = true
  | [] => by simp [strD, PyData.eqvAll]
  | y :: ys => by
    have ih := strs_eqv ys
    unfold strD at ih ⊢
    rw [List.map_cons]
    simp only [PyData.eqvAll]
    rw [RM.eqv_str, ih, decide_eq_true rfl]
    rfl
theorem OkN.strs {ys : List Str} (h : ∀ y ∈ ys, GoodS y) : OkN 1 (.tuple (strD ys)) := OkN.tuple fun d hd => by
  obtain ⟨y, hy, rfl⟩ := List.mem_map.mp hd
  exact .str 0 (h y hy)
theorem neD_strs {ys : List Str} (h : ∀ y ∈ ys, GoodS y) : neD (.tuple (strD ys)) (.tuple (strD ys)) = some (.bool false) := by
  unfold neD
  rw [(OkN.strs h).ok (by decide)]
  rw [if_pos (show (true && true) = true from rfl)]
  have : PyData.eqv (.tuple (strD ys)) (.tuple (strD ys)) = PyData.eqvAll (strD ys) (strD ys) := by simp [PyData.eqv]
  rw [this, strs_eqv]
  rfl
theorem neD_int (i j : Int) : neD (.int i) (.int j) = some (.bool (!(i == j))) := rfl
/-- what is known of the places that are told -/
structure Pl (f : Str) (L : List Tri) (ys : List Str) : Prop where
  nd : ys.Nodup
  mem : ∀ p, p ∈ ys ↔ p = f ∨ ends L p
  pw : ys.Pairwise leS
/-- what is known of what is counted -/
structure Ct (f : Str) (L : List Tri) : Prop where
  gf : GoodS f
  g : GoodL L
  fine : Fine L
  len : L.length ≤ 9
  nd : (L.map pr).Nodup
  pw : L.Pairwise fun t u => leP (pr t) (pr u) = true
theorem Pl.good {f : Str} {L : List Tri} {ys : List Str} (h : Pl f L ys) (c : Ct f L) : ∀ y ∈ ys, GoodS y := fun y hy => by
  rcases (h.mem y).mp hy with rfl | ⟨t, ht, rfl | rfl⟩
  · exact c.gf
  · exact (c.g t ht).1
  · exact (c.g t ht).2
theorem Pl.one {f : Str} {L : List Tri} {ys zs : List Str} (h : Pl f L ys) (h2 : Pl f L zs) : ys = zs := sorted_one h.pw h2.pw h.nd h2.nd fun p => (h.mem p).trans (h2.mem p).symm
theorem nodup_len : ∀ {ys zs : List Str}, ys.Nodup → (∀ y ∈ ys, y ∈ zs) → ys.length ≤ zs.length
  | [], _, _, _ => Nat.zero_le _
  | y :: ys, zs, hn, h => by
    have hy := h y (List.mem_cons_self ..)
    have hc := List.nodup_cons.mp hn
    have ih := nodup_len (ys := ys) (zs := zs.erase y) hc.2 fun z hz => (List.mem_erase_of_ne fun (e : z = y) => hc.1 (e ▸ hz)).mpr (h z (List.mem_cons_of_mem _ hz))
    rw [List.length_erase_of_mem hy] at ih
    have := List.length_pos_of_mem hy
    rw [List.length_cons]
    omega
theorem Pl.len {f : Str} {L : List Tri} {ys : List Str} (h : Pl f L ys) (c : Ct f L) : ys.length ≤ 100 := by
  have := nodup_len (zs := f :: (L.map (fun t => t.1) ++ L.map fun t => t.2.1)) h.nd fun y hy => by
    rcases (h.mem y).mp hy with rfl | ⟨t, ht, rfl | rfl⟩
    · exact List.mem_cons_self ..
    · exact List.mem_cons_of_mem _ (List.mem_append_left _ (List.mem_map.mpr ⟨t, ht, rfl⟩))
    · exact List.mem_cons_of_mem _ (List.mem_append_right _ (List.mem_map.mpr ⟨t, ht, rfl⟩))
  have lc := c.len
  rw [List.length_cons, List.length_append, List.length_map, List.length_map] at this
  omega
theorem ct_canon {f : Str} {l : List Tri} (hf : GoodS f) (hF : Fine l) (hg : GoodL l) (hl : l.length ≤ 9) : Ct f (canon l) := ⟨hf, good_canon hg, fine_canon hF, by have := canon_len l; omega, canon_nodup l, canon_pw l⟩
section
variable {e : EndsD} {n : Nat} {t1 t2 t3 t4 t5 t6 t7 t8 t9 t10 t11 t12 t13 : Option Sl}
theorem r9_ok {f : Str} (hf : GoodS f) (q : e.nx (fr t1 t2 t3 t4 t5 (some (.v (.str f))) t7 t8 (some (.v (cntD f (canon [])))) t10 t11 t12 t13) n) : r9 (fr t1 t2 t3 t4 t5 (some (.v (.str f))) t7 t8 (some (.v (cntD f (canon [])))) t10 t11 t12 t13) n e := by
  have g0 : GoodL [] := fun _ h => by cases h
  refine ⟨f, _, [], [], rfl, rfl, rfl, g0, by decide, ?_⟩
  refine ⟨⟨_, rfl⟩, ⟨_, rfl⟩, f, canon [], _, rfl, hf, good_canon g0, .inl ⟨f, canon [], rfl, hf, good_canon g0, ?_⟩⟩
  rw [decide_eq_true (show f = f ∧ canon [] = canon [] from ⟨rfl, rfl⟩)]
  refine ⟨true, rfl, ?_⟩
  refine ⟨⟨_, rfl⟩, f, canon [], rfl, by rw [canon_nil]; decide, fun ys y1 y2 y3 => ?_⟩
  have : ys = [f] := sorted_one (sorted_pw y3) (List.pairwise_singleton _ _) y1 (by simp) fun p => by
    rw [y2, canon_nil, List.mem_singleton]
    constructor
    · rintro (z | ⟨t, ht, _⟩)
      · exact z
      · cases ht
    · exact fun z => .inl z
  subst this
  refine ⟨by show 1 ≤ lim; decide, _, neD_strs (ys := [f]) (fun y hy => by rw [List.mem_singleton.mp hy]; exact hf), _, rfl, q⟩
def numF (L : List Tri) (g : Str → Str × Str) : D → Option D
  | .str p => some (.int (numAt L (g p)))
  | _ => none
theorem numF_all (L : List Tri) (g : Str → Str × Str) (ys : List Str) : (strD ys).filterMap (numF L g) = intsD (ys.map fun y => numAt L (g y)) := by
  unfold strD intsD
  rw [List.filterMap_map, List.map_map]
  induction ys with
  | nil => rfl
  | cons y ys ih =>
    rw [List.filterMap_cons, List.map_cons, ← ih]
    rfl
theorem num_fun {L : List Tri} (hn : (L.map pr).Nodup) (g : Str → Str × Str) (ys : List Str) : (ys.map fun y => numAt L (g y)) = ys.map fun y => sumAt L (g y) := List.map_congr_left fun y _ => numAt_sum hn _
theorem q1_ok {f a : Str} {L : List Tri} (c : Ct f L) (q : ∀ ys : List Str, Pl f L ys → e.nx (fr t1 t2 (some (.v (cntD f L))) t4 (some (.v (.str a))) t6 t7 t8 t9 (some (.own (.list (intsD (ys.map fun y => sumAt L (a, y)))))) t11 t12 none) n) : q1 (fr t1 t2 (some (.v (cntD f L))) t4 (some (.v (.str a))) t6 t7 t8 t9 t10 t11 t12 t13) n e := by
  refine ⟨⟨_, rfl⟩, f, L, rfl, by have := c.len; omega, fun ys y1 y2 y3 => ⟨strD ys, rfl, ?_⟩⟩
  have P : Pl f L ys := ⟨y1, y2, sorted_pw y3⟩
  show cLcL _ _ _ _ _ (fr t1 t2 (some (.v (cntD f L))) t4 (some (.v (.str a))) t6 t7 t8 t9 t10 t11 t12 none) n [] _
  have ly := P.len c
  refine lcL_run (numF L fun y => (a, y)) _ [] (fun d hd => ?_) (by rw [strD_len, List.length_nil]; unfold lim; omega) ?_
  · obtain ⟨y, hy, rfl⟩ := List.mem_map.mp hd
    refine ⟨_, rfl, rfl, fun K1 hK => hK, fun z hz K2 hK => ⟨by show 2 ≤ lim; decide, ⟨_, rfl⟩, f, L, _, a, y, rfl, rfl, by cases hz; exact hK⟩⟩
  · refine ⟨by show 10 < 14; decide, ?_⟩
    rw [List.nil_append, numF_all, num_fun c.nd]
    exact q ys P
theorem q2_ok {f a : Str} {L : List Tri} (c : Ct f L) (q : ∀ ys : List Str, Pl f L ys → e.nx (fr t1 t2 (some (.v (cntD f L))) t4 (some (.v (.str a))) t6 t7 t8 t9 t10 (some (.own (.list (intsD (ys.map fun y => sumAt L (y, a)))))) t12 none) n) : q2 (fr t1 t2 (some (.v (cntD f L))) t4 (some (.v (.str a))) t6 t7 t8 t9 t10 t11 t12 t13) n e := by
  refine ⟨⟨_, rfl⟩, f, L, rfl, by have := c.len; omega, fun ys y1 y2 y3 => ⟨strD ys, rfl, ?_⟩⟩
  have P : Pl f L ys := ⟨y1, y2, sorted_pw y3⟩
  show cLcL _ _ _ _ _ (fr t1 t2 (some (.v (cntD f L))) t4 (some (.v (.str a))) t6 t7 t8 t9 t10 t11 t12 none) n [] _
  have ly := P.len c
  refine lcL_run (numF L fun y => (y, a)) _ [] (fun d hd => ?_) (by rw [strD_len, List.length_nil]; unfold lim; omega) ?_
  · obtain ⟨y, hy, rfl⟩ := List.mem_map.mp hd
    refine ⟨_, rfl, rfl, fun K1 hK => hK, fun z hz K2 hK => ⟨by show 2 ≤ lim; decide, ⟨_, rfl⟩, f, L, _, y, a, rfl, rfl, by cases hz; exact hK⟩⟩
  · refine ⟨by show 11 < 14; decide, ?_⟩
    rw [List.nil_append, numF_all, num_fun c.nd]
    exact q ys P
end
end RM
namespace RM
open PySem PySem.Spec PyProof.Rows L2 CS RZ
section
variable {e : EndsD} {n : Nat} {t1 t2 t3 t4 t5 t6 t7 t8 t9 t10 t11 t12 t13 : Option Sl}
theorem ends_in {f : Str} {L : List Tri} {ys : List Str} (h : Pl f L ys) : ∀ p, ends L p → p ∈ ys := fun p z => (h.mem p).mpr (.inr z)
theorem q3_ok {f a : Str} {L : List Tri} {ys zs : List Str} (c : Ct f L) (ga : GoodS a) (h1 : Pl f L ys) (h2 : Pl f L zs) (q : e.nx (fr t1 t2 (some (.v (cntD f L))) t4 (some (.v (.str a))) t6 t7 t8 t9 (some (.v (.list (intsD (ys.map fun y => sumAt L (a, y)))))) (some (.v (.list (intsD (zs.map fun y => sumAt L (y, a)))))) t12 t13) n) :
    q3 (fr t1 t2 (some (.v (cntD f L))) t4 (some (.v (.str a))) t6 t7 t8 t9 (some (.own (.list (intsD (ys.map fun y => sumAt L (a, y)))))) (some (.own (.list (intsD (zs.map fun y => sumAt L (y, a)))))) t12 t13) n e := by
  have lc := c.len
  refine ⟨_, ⟨ys.map fun y => sumAt L (a, y), rfl, rfl⟩, _, ⟨zs.map fun y => sumAt L (y, a), rfl, rfl⟩, by show 2 ≤ lim; decide, ?_⟩
  refine ⟨⟨_, rfl, rfl⟩, f, L, a, rfl, ga, c.g, by omega, ⟨_, rfl, rfl⟩, f, L, a, rfl, ga, c.g, by omega, by show 2 ≤ lim; decide, ?_⟩
  rw [sum_outs h1.nd a L (ends_in h1), sum_ins h2.nd a L (ends_in h2)]
  exact ⟨.list [.int (outsT L a), .int (insT L a)], rfl, ⟨by show 2 ≤ 1000; decide, fun d hd => by
    rcases List.mem_cons.mp hd with rfl | hd
    · trivial
    · rw [List.mem_singleton.mp hd]
      trivial⟩, true, rfl, q⟩
theorem q4_ok {f a : Str} {L : List Tri} (c : Ct f L) (q : e.nx (fr t1 t2 (some (.v (cntD f L))) t4 (some (.v (.str a))) t6 t7 t8 t9 t10 t11 (some (.v (.int (over L a)))) t13) n) : q4 (fr t1 t2 (some (.v (cntD f L))) t4 (some (.v (.str a))) t6 t7 t8 t9 t10 t11 t12 t13) n e := by
  refine ⟨f, L, rfl, by have := c.len; omega, fun t ht => (c.fine t ht).1, fun ys y1 y2 y3 => ?_⟩
  have e1 : overD L ys = pairsD ((ys.filter fun p => over L p ≠ 0).map fun p => (p, .int (over L p))) := by
    unfold overD pairsD
    rw [List.map_map]
    rfl
  have e2 : strK ((ys.filter fun p => over L p ≠ 0).map fun p => (p, PyData.int (over L p))) = tabK (ys.filter fun p => over L p ≠ 0) (over L) := by
    unfold strK tabK
    rw [List.map_map]
    rfl
  have lk := look_tabK (ys.filter fun p => over L p ≠ 0) (over L) a
  rw [← e2] at lk
  have hn : (((ys.filter fun p => over L p ≠ 0).map fun p => (p, PyData.int (over L p))).map Prod.fst).Nodup := by
    rw [List.map_map]
    have : (Prod.fst ∘ fun p => (p, PyData.int (over L p))) = (id : Str → Str) := rfl
    rw [this, List.map_id]
    exact y1.sublist List.filter_sublist
  refine ⟨overD L ys, .inl ⟨_, rfl, rfl⟩, _, ⟨_, by rw [e1], hn, rfl⟩, ⟨_, rfl, rfl⟩, rfl, _, _, rfl, lk, ?_⟩
  rw [getD_tabK fun z => ?_]
  · exact q
  · by_cases c0 : over L a = 0
    · exact c0
    · by_cases c1 : a ∈ ys
      · exact absurd (List.mem_filter.mpr ⟨c1, decide_eq_true c0⟩) z
      · have hne : ¬ ends L a := fun w => c1 ((y2 a).mpr w)
        unfold over
        rw [List.filter_eq_nil_iff.mpr, List.filter_eq_nil_iff.mpr]
        · rfl
        · intro t ht
          simp only [decide_eq_true_eq]
          exact fun z => hne ⟨t, ht, .inr z⟩
        · intro t ht
          simp only [decide_eq_true_eq]
          exact fun z => hne ⟨t, ht, .inl z⟩
theorem q5_ok {f a : Str} {L : List Tri} (c : Ct f L) (ga : GoodS a) (q : e.nx (fr t1 t2 (some (.v (cntD f L))) t4 (some (.v (.str a))) t6 t7 t8 t9 t10 t11 (some (.v (.int (over L a)))) t13) n) : q5 (fr t1 t2 (some (.v (cntD f L))) t4 (some (.v (.str a))) t6 t7 t8 t9 t10 t11 (some (.v (.int (over L a)))) t13) n e := by
  have lc := c.len
  refine ⟨⟨_, rfl, rfl⟩, f, L, a, rfl, ga, c.g, by omega, ⟨_, rfl, rfl⟩, f, L, a, rfl, ga, c.g, by omega, _, rfl, .bool (!(over L a == over L a)), rfl, _, rfl, ?_⟩
  rw [show (!(over L a == over L a)) = false by simp]
  exact q
def hasF (L : List Tri) (g : Str → Str × Str) : D → Option D
  | .str p => if hasP L (g p) = true then some (.str p) else none
  | _ => none
theorem hasF_all (L : List Tri) (g : Str → Str × Str) : ∀ ys : List Str, (strD ys).filterMap (hasF L g) = strD (ys.filter fun y => hasP L (g y))
  | [] => rfl
  | y :: ys => by
    have ih := hasF_all L g ys
    have h : hasF L g (.str y) = if hasP L (g y) = true then some (.str y) else none := rfl
    unfold strD at ih ⊢
    rw [List.map_cons, List.filterMap_cons, h, ih, List.filter_cons]
    by_cases c : hasP L (g y) = true
    · rw [if_pos c, if_pos c]
      rfl
    · rw [if_neg c, if_neg c]
theorem okS_strs {ys : List Str} (h : ys.length ≤ 1000) : okS 4 (.list (strD ys)) := ⟨by rw [strD_len]; exact h, fun d hd => by
  obtain ⟨y, _, rfl⟩ := List.mem_map.mp hd
  trivial⟩
theorem q6_ok {f a : Str} {L : List Tri} (c : Ct f L) (ga : GoodS a) (q : e.nx (fr t1 t2 (some (.v (cntD f L))) t4 (some (.v (.str a))) t6 t7 t8 t9 t10 t11 t12 none) n) : q6 (fr t1 t2 (some (.v (cntD f L))) t4 (some (.v (.str a))) t6 t7 t8 t9 t10 t11 t12 t13) n e := by
  have lc := c.len
  refine ⟨⟨_, rfl⟩, f, L, rfl, by omega, fun ys y1 y2 y3 => ⟨strD ys, rfl, ?_⟩⟩
  have P : Pl f L ys := ⟨y1, y2, sorted_pw y3⟩
  show cLcL _ _ _ _ _ (fr t1 t2 (some (.v (cntD f L))) t4 (some (.v (.str a))) t6 t7 t8 t9 t10 t11 t12 none) n [] _
  have ly := P.len c
  refine lcL_run (hasF L fun y => (a, y)) _ [] (fun d hd => ?_) (by rw [strD_len, List.length_nil]; unfold lim; omega) ?_
  · obtain ⟨y, hy, rfl⟩ := List.mem_map.mp hd
    have h : hasF L (fun y => (a, y)) (.str y) = if hasP L (a, y) = true then some (.str y) else none := rfl
    refine ⟨_, rfl, rfl, fun K1 hK => ⟨by show 2 ≤ lim; decide, ⟨_, rfl⟩, f, L, _, a, y, rfl, rfl, _, rfl, _, rfl, ?_⟩, fun z hz K2 hK => ?_⟩
    · rw [h] at hK
      cases b : hasP L (a, y) with
      | true => rw [b] at hK; exact hK
      | false => rw [b] at hK; exact hK
    · rw [h] at hz
      rw [← (ifs hz).2] at hK
      exact hK
  · rw [List.nil_append, hasF_all, nexts_eq c.pw c.nd a P.pw P.nd (ends_in P)]
    refine ⟨⟨_, rfl, rfl⟩, f, L, a, rfl, ga, c.g, by omega, _, .inl ⟨_, rfl, rfl⟩, _, rfl, okS_strs ?_, true, rfl, q⟩
    have := List.length_filter_le (fun t : Tri => decide (t.1 = a)) L
    rw [List.length_map]
    omega
theorem q7_ok {f a : Str} {L : List Tri} (c : Ct f L) (ga : GoodS a) (q : e.nx (fr t1 t2 (some (.v (cntD f L))) t4 (some (.v (.str a))) t6 t7 t8 t9 t10 t11 t12 none) n) : q7 (fr t1 t2 (some (.v (cntD f L))) t4 (some (.v (.str a))) t6 t7 t8 t9 t10 t11 t12 t13) n e := by
  have lc := c.len
  refine ⟨⟨_, rfl⟩, f, L, rfl, by omega, fun ys y1 y2 y3 => ⟨strD ys, rfl, ?_⟩⟩
  have P : Pl f L ys := ⟨y1, y2, sorted_pw y3⟩
  show cLcL _ _ _ _ _ (fr t1 t2 (some (.v (cntD f L))) t4 (some (.v (.str a))) t6 t7 t8 t9 t10 t11 t12 none) n [] _
  have ly := P.len c
  refine lcL_run (hasF L fun y => (y, a)) _ [] (fun d hd => ?_) (by rw [strD_len, List.length_nil]; unfold lim; omega) ?_
  · obtain ⟨y, hy, rfl⟩ := List.mem_map.mp hd
    have h : hasF L (fun y => (y, a)) (.str y) = if hasP L (y, a) = true then some (.str y) else none := rfl
    refine ⟨_, rfl, rfl, fun K1 hK => ⟨by show 2 ≤ lim; decide, ⟨_, rfl⟩, f, L, _, y, a, rfl, rfl, _, rfl, _, rfl, ?_⟩, fun z hz K2 hK => ?_⟩
    · rw [h] at hK
      cases b : hasP L (y, a) with
      | true => rw [b] at hK; exact hK
      | false => rw [b] at hK; exact hK
    · rw [h] at hz
      rw [← (ifs hz).2] at hK
      exact hK
  · rw [List.nil_append, hasF_all, befores_eq c.pw c.nd a P.pw P.nd (ends_in P)]
    refine ⟨⟨_, rfl, rfl⟩, f, L, a, rfl, ga, c.g, by omega, _, .inl ⟨_, rfl, rfl⟩, _, rfl, okS_strs ?_, true, rfl, q⟩
    have := List.length_filter_le (fun t : Tri => decide (t.2.1 = a)) L
    rw [List.length_map]
    omega
end
end RM
namespace RM
open PySem PySem.Spec PyProof.Rows L2 CS RZ
section
variable {e : EndsD} {n : Nat} {t1 t2 t3 t4 t5 t6 t7 t8 t9 t10 t11 t12 t13 : Option Sl}
theorem place_loop {f : Str} {L : List Tri} (c : Ct f L) : ∀ (zs : List Str) (t5 t10 t11 t12 t13 : Option Sl), (∀ y ∈ zs, GoodS y) → (∀ t5 t10 t11 t12 t13 : Option Sl, e.nx (fr t1 t2 (some (.v (cntD f L))) t4 t5 t6 t7 t8 t9 t10 t11 t12 t13) n) →
    cForL (stN 5) (cSq q1 (cSq q2 (cSq q3 (cSq q4 (cSq q5 (cSq q6 (q7))))))) (strD zs) (fr t1 t2 (some (.v (cntD f L))) t4 t5 t6 t7 t8 t9 t10 t11 t12 t13) n e
  | [], t5, t10, t11, t12, t13, _, q => q t5 t10 t11 t12 t13
  | a :: zs, t5, t10, t11, t12, t13, hz, q => by
    have ga := hz a (List.mem_cons_self ..)
    refine ⟨_, rfl, ?_⟩
    refine q1_ok c fun y1 p1 => ?_
    refine q2_ok c fun y2 p2 => ?_
    refine q3_ok c ga p1 p2 ?_
    refine q4_ok c ?_
    refine q5_ok c ga ?_
    refine q6_ok c ga ?_
    refine q7_ok c ga ?_
    exact place_loop c zs _ _ _ _ _ (fun y hy => hz y (List.mem_cons_of_mem _ hy)) q
theorem r10_ok {f : Str} {L : List Tri} (c : Ct f L) (q : ∀ t5 t10 t11 t12 t13 : Option Sl, e.nx (fr t1 t2 (some (.v (cntD f L))) t4 t5 t6 t7 t8 t9 t10 t11 t12 t13) n) : r10 (fr t1 t2 (some (.v (cntD f L))) t4 t5 t6 t7 t8 t9 t10 t11 t12 t13) n e := by
  refine ⟨⟨_, rfl⟩, f, L, rfl, by have := c.len; omega, fun ys y1 y2 y3 => ⟨strD ys, rfl, ?_⟩⟩
  exact place_loop c ys _ _ _ _ _ (Pl.good ⟨y1, y2, sorted_pw y3⟩ c) q
def outF (L : List Tri) : D → Option D
  | .str p => some (.int (outsT L p))
  | _ => none
theorem outF_all (L : List Tri) (ys : List Str) : (strD ys).filterMap (outF L) = intsD (ys.map fun y => outsT L y) := by
  unfold strD intsD
  rw [List.filterMap_map, List.map_map]
  induction ys with
  | nil => rfl
  | cons y ys ih =>
    rw [List.filterMap_cons, List.map_cons, ← ih]
    rfl
theorem r11_ok {f : Str} {L : List Tri} (c : Ct f L) (q : e.nx (fr t1 t2 (some (.v (cntD f L))) t4 none t6 t7 t8 t9 t10 t11 t12 t13) n) : r11 (fr t1 t2 (some (.v (cntD f L))) t4 t5 t6 t7 t8 t9 t10 t11 t12 t13) n e := by
  have lc := c.len
  refine ⟨⟨_, rfl⟩, f, L, rfl, by omega, ⟨_, rfl⟩, f, L, rfl, by omega, fun ys y1 y2 y3 => ⟨strD ys, rfl, ?_⟩⟩
  have P : Pl f L ys := ⟨y1, y2, sorted_pw y3⟩
  show cLcL _ _ _ _ _ (fr t1 t2 (some (.v (cntD f L))) t4 none t6 t7 t8 t9 t10 t11 t12 t13) n [] _
  have ly := P.len c
  refine lcL_run (outF L) _ [] (fun d hd => ?_) (by rw [strD_len, List.length_nil]; unfold lim; omega) ?_
  · obtain ⟨y, hy, rfl⟩ := List.mem_map.mp hd
    refine ⟨_, rfl, rfl, fun K1 hK => hK, fun z hz K2 hK => ⟨⟨_, rfl, rfl⟩, f, L, y, rfl, P.good c y hy, c.g, by omega, by cases hz; exact hK⟩⟩
  · rw [List.nil_append, outF_all]
    refine ⟨_, ⟨ys.map fun y => outsT L y, rfl, rfl⟩, .bool (!((L.map fun t => t.2.2).sum == (L.map fun t => t.2.2).sum)), ?_, _, rfl, ?_⟩
    · rw [sum_total P.nd L (ends_in P)]
      rfl
    · rw [show (!((L.map fun t => t.2.2).sum == (L.map fun t => t.2.2).sum)) = false by simp]
      exact q
theorem body_ok (hn : n ≤ 500000) (q : ∀ (t2 t3 t4 t5 t6 t7 t8 t9 t10 t11 t12 t13 : Option Sl) (n' : Nat), n' ≤ n + 40000 → e.nx (fr t1 t2 t3 t4 t5 t6 t7 t8 t9 t10 t11 t12 t13) n') : rBody (fr t1 t2 t3 t4 t5 t6 t7 t8 t9 t10 t11 t12 t13) n e := by
  refine r1_ok hn fun ss n1 s1 s2 s3 s4 hn1 => ?_
  refine r2_ok (by omega) s1 s2 s3 fun f l n2 hf hl ht hn2 => ?_
  have gs : ∀ s ∈ ss, GoodS s := fun s hs => tag_good s (s4 s hs)
  have hF : Fine l := fun t h => ⟨(ht t h).2.2.1, (ht t h).2.2.2⟩
  have hg : GoodL l := fun t h => ⟨gs _ (ht t h).1, gs _ (ht t h).2.1⟩
  have gf := gs f hf
  refine r3_ok hF hg hl ?_
  refine r4_ok gf hF hg hl ?_
  refine r5_ok ?_
  refine r6_ok (by omega) hF hg hl fun u4 n3 hn3 => ?_
  refine r7_ok gf hg ?_
  refine r8_ok (by omega) hF hg hl fun u4 n4 hn4 => ?_
  refine r9_ok gf ?_
  refine r10_ok (ct_canon gf hF hg hl) fun u5 u10 u11 u12 u13 => ?_
  refine r11_ok (ct_canon gf hF hg hl) ?_
  exact q _ _ _ _ _ _ _ _ _ _ _ _ n4 (by omega)
end
def sdRight : SpD := fun ds n k _ => ds = [boxD] ∧ n = 0 ∧ ∀ n', k (.bool true) n'
abbrev n_law_right : List Str := ["_law_box_here", "_law_turn", "_law_tags_here", "_law_made", "_law_own", "_law_tag", "_law_first_so", "_law_rows_so", "_law_sum_so", "_law_left_so", "_law_far_so", "_law_near_so", "_law_over_so", "_law_far"]
theorem turns_loop {e : EndsD} : ∀ (turns : List D) (t1 t2 t3 t4 t5 t6 t7 t8 t9 t10 t11 t12 t13 : Option Sl) (n : Nat), n + 40000 * turns.length ≤ 500000 → (∀ (ρ : En) (n' : Nat), e.nx ρ n') → cForL (stN 1) rBody turns (fr t1 t2 t3 t4 t5 t6 t7 t8 t9 t10 t11 t12 t13) n e
  | [], _, _, _, _, _, _, _, _, _, _, _, _, _, n, _, q => q _ n
  | d :: turns, t1, t2, t3, t4, t5, t6, t7, t8, t9, t10, t11, t12, t13, n, h, q => by
    rw [List.length_cons] at h
    refine ⟨_, rfl, ?_⟩
    refine body_ok (by omega) fun u2 u3 u4 u5 u6 u7 u8 u9 u10 u11 u12 u13 n' hn' => ?_
    exact turns_loop turns _ _ _ _ _ _ _ _ _ _ _ _ _ n' (by omega) q
theorem himp_right {e : EndsD} (ds : List D) (n : Nat) (k : D → Nat → Prop) (ke : Xv → Nat → Prop) (h : sdRight ds n k ke) (he : e.rt = k) : cs_law_right (startE n_law_right ds) n e := by
  obtain ⟨rfl, rfl, q⟩ := h
  subst he
  refine ⟨6, rfl, ⟨by decide, by decide⟩, ?_⟩
  exact turns_loop _ none none none none none none none none none none none none none 0 (by decide) fun ρ n' => q n'
end RM
namespace RM
open PySem PySem.Spec PyProof.Rows L2 CS RZ
/-! ### k08 by hand -/
theorem firsts_id : ∀ (l m : List (Str × Str)), (m ++ l).Nodup → firsts m = m → firsts (m ++ l) = m ++ l
  | [], m, _, h => by rwa [List.append_nil]
  | p :: l, m, hn, h => by
    have e : m ++ p :: l = (m ++ [p]) ++ l := by rw [List.append_assoc]; rfl
    rw [e] at hn ⊢
    refine firsts_id l (m ++ [p]) hn ?_
    rw [firsts_snoc, h]
    unfold putOne
    rw [if_neg]
    intro z
    have := (List.nodup_append.mp hn).1
    exact (List.nodup_append.mp this).2.2 p z p (by simp) rfl
theorem canon_id {l : List Tri} (hn : (l.map pr).Nodup) (hp : (l.map pr).Pairwise fun a b => leP a b = true) (h0 : ∀ t ∈ l, 0 < t.2.2) : canon l = l := by
  have e1 : firsts (l.map pr) = l.map pr := firsts_id (l.map pr) [] (by simpa using hn) rfl
  have hs : ∀ t ∈ l, sumAt l (pr t) = t.2.2 := fun t ht => by
    rw [← numAt_sum hn]
    induction l with
    | nil => cases ht
    | cons u l ih =>
      rw [numAt_cons]
      rw [List.map_cons, List.nodup_cons] at hn
      rcases List.mem_cons.mp ht with rfl | ht
      · rw [if_pos rfl]
      · have hne : ¬ pr u = pr t := fun w => hn.1 (by rw [w]; exact List.mem_map_of_mem ht)
        rw [if_neg hne]
        rw [List.map_cons, List.pairwise_cons] at hp
        exact ih hn.2 hp.2 (fun z hz => h0 z (List.mem_cons_of_mem _ hz)) (firsts_id (l.map pr) [] (by simpa using hn.2) rfl) ht
  unfold canon
  rw [e1, List.mergeSort_of_pairwise hp, List.filter_eq_self.mpr fun p hp => ?_]
  · rw [List.map_map]
    refine (List.map_congr_left fun t ht => ?_).trans (List.map_id l)
    show (t.1, t.2.1, sumAt l (pr t)) = t
    rw [hs t ht]
  · obtain ⟨t, ht, rfl⟩ := List.mem_map.mp hp
    rw [hs t ht]
    exact decide_eq_true (h0 t ht)
theorem leP_ac : leP ("a", "b") ("c", "b") = true := by decide +kernel
def lA : List Tri := [("a", "b", 2), ("c", "b", 1)]
theorem lA_fine : Fine lA := by unfold Fine lA; decide +kernel
theorem lA_good : GoodL lA := by unfold GoodL GoodP GoodS lA; decide +kernel
def cs_law_by_hand_right : CS := cSq (cSet 0 (cMake cCnt sdInit (cCons (cC (.str "a")) (cCons (cTup (cCons (cTup (cCons (cC (.str "a")) (cCons (cC (.str "b")) (cCons (cC (.int 2)) (cNil))))) (cCons (cTup (cCons (cC (.str "c")) (cCons (cC (.str "b")) (cCons (cC (.int 1)) (cNil))))) (cNil)))) (cNil))))) (cSq (cSet 1 (cBinO sdBinSub (cVar 0) (cMake cCnt sdInit (cCons (cC (.str "x")) (cCons (cTup (cCons (cTup (cCons (cC (.str "a")) (cCons (cC (.str "b")) (cCons (cC (.int 2)) (cNil))))) (cNil))) (cNil)))) cCnt)) (cSq (cSet 2 (cLst (cCons (cMeth sdM_befores (cVar 0) (cCons (cC (.str "b")) (cNil)) cCnt "befores") (cCons (cMeth sdM_nexts (cVar 0) (cCons (cC (.str "b")) (cNil)) cCnt "nexts") (cCons (cProp sdP_steps (cVar 1) cCnt) (cCons (cProp sdP_places (cVar 1) cCnt) (cCons (cProp sdP_steps (cBinO sdBinAdd (cVar 0) (cVar 0) cCnt) cCnt) (cNil)))))))) (cRet (cCall sdSame (cCons (cVar 2) (cCons (cLst (cCons (cTup (cCons (cC (.str "a")) (cCons (cC (.str "c")) (cNil)))) (cCons (cTup (cNil)) (cCons (cTup (cCons (cTup (cCons (cC (.str "c")) (cCons (cC (.str "b")) (cCons (cC (.int 1)) (cNil))))) (cNil))) (cCons (cTup (cCons (cC (.str "a")) (cCons (cC (.str "b")) (cCons (cC (.str "c")) (cNil))))) (cCons (cTup (cCons (cTup (cCons (cC (.str "a")) (cCons (cC (.str "b")) (cCons (cC (.int 4)) (cNil))))) (cCons (cTup (cCons (cC (.str "c")) (cCons (cC (.str "b")) (cCons (cC (.int 2)) (cNil))))) (cNil)))) (cNil))))))) (cNil)))))))
def lX : List Tri := [("a", "b", 2)]
def lC : List Tri := [("c", "b", 1)]
def lD : List Tri := [("a", "b", 4), ("c", "b", 2)]
theorem lX_fine : Fine lX := by unfold Fine lX; decide +kernel
theorem lX_good : GoodL lX := by unfold GoodL GoodP GoodS lX; decide +kernel
theorem cA : canon lA = lA := canon_id (by decide +kernel) (by decide +kernel) (by unfold lA; decide +kernel)
theorem cX : canon lX = lX := canon_id (by decide +kernel) (by decide +kernel) (by unfold lX; decide +kernel)
theorem cC1 : canon lC = lC := canon_id (by decide +kernel) (by decide +kernel) (by unfold lC; decide +kernel)
theorem cD : canon (lA ++ lA) = lD := by
  have h : canon lD = lD := canon_id (by decide +kernel) (by decide +kernel) (by unfold lD; decide +kernel)
  rw [← h]
  refine canon_ext fun p => .inl ?_
  unfold lA lD
  simp only [List.cons_append, List.nil_append, sumAt_cons, sumAt_nil]
  have e1 : pr ("a", "b", 2) = pr ("a", "b", 4) := rfl
  have e2 : pr ("c", "b", 1) = pr ("c", "b", 2) := rfl
  rw [e1, e2]
  split <;> split <;> omega
def sdByHand : SpD := fun ds n k _ => ds = [] ∧ k (.bool true) n
theorem sub_AX : ∀ p, sumAt lC p = sumAt lA p - sumAt lX p := fun p => by
  unfold lC lA lX
  simp only [sumAt_cons, sumAt_nil]
  omega
theorem okS_tS {ys : List Str} (h : ys.length ≤ 1000) : okS 3 (.tuple (strD ys)) := ⟨by rw [strD_len]; exact h, fun d hd => by
  obtain ⟨y, _, rfl⟩ := List.mem_map.mp hd
  trivial⟩
theorem okS_tT {l : List Tri} (h : l.length ≤ 1000) : okS 3 (.tuple (trisD l)) := ⟨by rw [tris_len]; exact h, fun d hd => by
  obtain ⟨t, _, rfl⟩ := List.mem_map.mp hd
  refine ⟨by show 3 ≤ 1000; decide, fun z hz => ?_⟩
  rcases List.mem_cons.mp hz with rfl | hz
  · trivial
  rcases List.mem_cons.mp hz with rfl | hz
  · trivial
  · rw [List.mem_singleton.mp hz]
    trivial⟩
theorem himp_by_hand {e : EndsD} (ds : List D) (n : Nat) (k : D → Nat → Prop) (ke : Xv → Nat → Prop) (h : sdByHand ds n k ke) (he : e.rt = k) : cs_law_by_hand_right (startE ["_law_made", "_law_less_so", "_law_got"] ds) n e := by
  obtain ⟨rfl, q⟩ := h
  subst he
  have gS : ∀ s ∈ (["a", "b", "c"] : List Str), GoodS s := by unfold GoodS; decide +kernel
  have sC := sub_AX
  obtain ⟨h1, h2, h3⟩ := canon_sub lA_fine lX_fine (fun p => by have := sumAt_nonneg (l := lC) (by unfold lC; decide) p; rw [sC] at this; omega) lC sC
  rw [cA, cX] at h1 h2 h3
  rw [cC1] at h3
  refine ⟨by decide, by decide, by decide, "a", _, trisD lA, lA, rfl, rfl, rowsAre_tris lA, lA_good, by decide, ?_⟩
  rw [wrongT_none lA_fine, cA]
  refine ⟨by decide, by decide, "x", _, trisD lX, lX, rfl, rfl, rowsAre_tris lX, lX_good, by decide, ?_⟩
  rw [wrongT_none lX_fine, cX]
  refine ⟨⟨_, rfl⟩, ⟨_, rfl⟩, "a", lA, "x", lX, rfl, lA_good, by decide, ?_⟩
  rw [h1]
  dsimp only
  rw [wrongT_none h2, h3]
  refine ⟨⟨_, rfl, rfl⟩, "a", lA, "b", rfl, gS _ (by decide +kernel), lA_good, by decide, ?_⟩
  refine ⟨⟨_, rfl, rfl⟩, "a", lA, "b", rfl, gS _ (by decide +kernel), lA_good, by decide, ?_⟩
  refine ⟨⟨_, rfl⟩, "a", lC, rfl, ⟨_, rfl⟩, "a", lC, rfl, by decide, fun ys y1 y2 y3 => ?_⟩
  have hy : ys = (["a", "b", "c"] : List Str) := sorted_one (sorted_pw y3) (sorted_pw (show sortedS ["a", "b", "c"] = true by decide +kernel)) y1 (show (["a", "b", "c"] : List Str).Nodup by decide +kernel) fun p => by
    rw [y2]
    unfold ends lC
    simp only [List.mem_cons, List.not_mem_nil, or_false, exists_eq_left]
    constructor
    · rintro (rfl | rfl | rfl)
      · exact .inl rfl
      · exact .inr (.inr rfl)
      · exact .inr (.inl rfl)
    · rintro (rfl | rfl | rfl)
      · exact .inl rfl
      · exact .inr (.inr rfl)
      · exact .inr (.inl rfl)
  subst hy
  refine ⟨⟨_, rfl⟩, ⟨_, rfl⟩, "a", lA, "a", lA, rfl, lA_good, lA_good, by decide, ?_⟩
  rw [wrongT_none (fine_append lA_fine lA_fine), cD]
  refine ⟨⟨_, rfl⟩, "a", lD, rfl, by decide, ?_⟩
  refine ⟨by decide, by decide, by decide, by decide, by decide, by decide, by decide, by decide, by decide, ?_⟩
  refine ⟨_, rfl, ⟨by show 5 ≤ 1000; decide, fun d hd => ?_⟩, q⟩
  rcases List.mem_cons.mp hd with rfl | hd
  · exact okS_tS (by decide)
  rcases List.mem_cons.mp hd with rfl | hd
  · exact okS_tS (by decide)
  rcases List.mem_cons.mp hd with rfl | hd
  · exact okS_tT (by decide)
  rcases List.mem_cons.mp hd with rfl | hd
  · exact okS_tS (by decide)
  · rw [List.mem_singleton.mp hd]
    exact okS_tT (by decide)
end RM
namespace RM
open PySem PySem.Spec PyProof.Rows L2 CS RZ
/-! ### from the bare heap to data -/
theorem ev_bare {C : Ctx} {n : Nat} {H : Hp} (hB : C.B = fun _ => none) (h0 : C.H0 = H) (hz : ∀ a, C.Z a → C.T.bx = some a) (hb : ∀ b, C.T.bx = some b → C.Z b ∧ BoxAt H b n) : Ev C [] n [] H now := by
  refine ⟨rfl, fun i d h => by simp at h, fun i d h => by simp at h, fun i p h => (by cases h), fun i j p h => (by cases h), fun a z => ?_, fun a xs z e => ?_, fun a o h _ => h0 ▸ h, hb, fun p hp i q d h => (by cases h), fun a o h => ?_⟩
  · obtain ⟨A, B, F, e, _⟩ := (hb a (hz a z)).2
    exact ⟨_, h0 ▸ e⟩
  · obtain ⟨A, B, F, e2, _⟩ := (hb a (hz a z)).2
    rw [h0, e2] at e
    cases e
  · rw [hB] at h
    cases h
theorem right_imp {g : Glob} {vs : List V} {H : Hp} {Q : VK} {E : XK} (h : ∃ b : Addr, vs = [.ref b] ∧ BoxAt H b 0 ∧ ∀ H' : Hp, (∀ c o, c ≠ b → H c = some o → H' c = some o) → Q (.bl true) H') : spD g sdRight vs H Q E := by
  obtain ⟨b, rfl, hb, q⟩ := h
  refine ⟨{ T := ⟨g.K, g.cls, some b⟩, Z := fun a => a = b, H0 := H }, [boxD], 0, fun d _ => d = .bool true, fun _ _ => False, ⟨rfl, rfl⟩, rfl, ev_bare rfl rfl (fun a z => by rw [show a = b from z]) (fun b' h => ?_), .cons (.box rfl) .nil, ⟨rfl, rfl, fun _ => rfl⟩, fun d n' v H' hd F i => ?_, fun _ _ _ _ _ h => h.elim⟩
  · have e : b = b' := Option.some.inj h
    subst e
    exact ⟨rfl, hb⟩
  · subst hd
    rw [isBl i]
    exact q H' fun c o hc ho => F.keep c o ho fun z => hc (Option.some.inj z).symm
theorem hand_imp {g : Glob} {vs : List V} {H : Hp} {Q : VK} {E : XK} (h : vs = [] ∧ ∀ H' : Hp, Same H H' → Q (.bl true) H') : spD g sdByHand vs H Q E := by
  obtain ⟨rfl, q⟩ := h
  refine ⟨{ T := ⟨g.K, g.cls, none⟩, Z := fun _ => False, H0 := H }, [], 0, fun d _ => d = .bool true, fun _ _ => False, ⟨rfl, rfl⟩, rfl, ev_bare rfl rfl (fun a z => z.elim) (fun b' h => by cases h), .nil, ⟨rfl, rfl⟩, fun d n' v H' hd F i => ?_, fun _ _ _ _ _ h => h.elim⟩
  subst hd
  rw [isBl i]
  exact q H' fun c o ho => F.keep c o ho (by intro z; cases z)
/-- deep likeness, told of data -/
theorem same_imp {g : Glob} {vs : List V} {H : Hp} {Q : VK} {E : XK} (hk : ∀ d, okS 4 d → plain d = true) (h : spD g sdSame vs H Q E) : ∃ (x y : V) (d : D), vs = [x, y] ∧ Dp g.K H x d ∧ Dp g.K H y d ∧ okS 4 d ∧ ∀ H' : Hp, Same H H' → Q (.bl true) H' := by
  obtain ⟨C, ds, n, k, ke, hK, e0, E0, i, ⟨x, rfl, ok, s⟩, q, _⟩ := h
  obtain ⟨v, u, rfl, iv, iu⟩ := i.two
  refine ⟨v, u, x, rfl, hK.1 ▸ (iv.same hid_le).dp (hk x ok), hK.1 ▸ (iu.same hid_le).dp (hk x ok), ok, fun H' s' => q _ _ _ _ s ⟨fun a o h _ => s' _ _ (e0 ▸ h), fun b hb => (E0.box b hb).2.same s'⟩ (.bl true)⟩
theorem okS_plain : ∀ (n : Nat) (d : D), okS n d → plain d = true
  | 0, _, h => h.elim
  | _ + 1, .none, _ => rfl
  | _ + 1, .bool _, _ => rfl
  | _ + 1, .int _, _ => rfl
  | _ + 1, .str _, _ => rfl
  | n + 1, .list ds, h => by
    unfold plain
    have : ∀ l : List D, (∀ d ∈ l, okS n d) → plains l = true := by
      intro l
      induction l with
      | nil => intro _; rfl
      | cons d l ih =>
        intro hh
        unfold plains
        rw [okS_plain n d (hh d (List.mem_cons_self ..)), ih fun z hz => hh z (List.mem_cons_of_mem _ hz)]
        rfl
    exact this ds h.2
  | n + 1, .tuple ds, h => by
    unfold plain
    have : ∀ l : List D, (∀ d ∈ l, okS n d) → plains l = true := by
      intro l
      induction l with
      | nil => intro _; rfl
      | cons d l ih =>
        intro hh
        unfold plains
        rw [okS_plain n d (hh d (List.mem_cons_self ..)), ih fun z hz => hh z (List.mem_cons_of_mem _ hz)]
        rfl
    exact this ds h.2
  | _ + 1, .dict _, h => h.elim
end RM
namespace RM
open PySem PySem.Spec PyProof.Rows L2
/-! ### sets of texts that can be walked -/
section
variable {P : Program} {w : World} {A : Around} {E : Value → Shared → Prop} {s : Shared} {a : Addr} {ss : List Str}
def TxE (P : Program) (w : World) (x : Int × Value) : Prop := ∃ z t, x.2 = Value.str z t ∧ x.1 = (PySem.strKind P w).hash z
def txOf (x : Int × Value) : Str := match x.2 with | .str z _ => z | _ => Str.empty
structure Laid (P : Program) (w : World) (ss : List Str) (es : Array (Int × Value)) (t : SetTable) : Prop where
  el : ∀ x ∈ es.toList, TxE P w x
  pm : (es.toList.map txOf).Perm ss
  nd : ss.Nodup
  sz : es.size < scanBound
  fit : t.fits es.size = true
  ris : Ris t.place.toList
  led : w.params.followText "set-order" = true ∨ t.led = true
def TxSet (P : Program) (w : World) (a : Addr) (ss : List Str) (h : Heap) : Prop := ∃ o es ep t, h.get? a = some o ∧ o.ExactSet ∧ o.data = .set es ep t ∧ Laid P w ss es t
theorem Laid.elems {es : Array (Int × Value)} {t : SetTable} (L : Laid P w ss es t) : ElemsOf (PySem.strKind P w) es.toList := fun x hx => by
  obtain ⟨z, k, h1, h2⟩ := L.el x hx
  exact ⟨⟨z, by rw [h1]; exact strKind_is P w z k, h2⟩, by rw [h1]; rfl⟩
theorem Laid.len {es : Array (Int × Value)} {t : SetTable} (L : Laid P w ss es t) : es.size = ss.length := by
  have := L.pm.length_eq
  rw [List.length_map, Array.length_toList] at this
  exact this
theorem Laid.grown {es : Array (Int × Value)} {t : SetTable} (L : Laid P w ss es t) (m : Nat) : Laid P w ss (relayAll t es m).1 (relayAll t es m).2.1 := by
  have pm := relayAll_perm t es m
  have hz : (relayAll t es m).1.size = es.size := by
    have := pm.length_eq
    rwa [Array.length_toList, Array.length_toList] at this
  exact ⟨fun x hx => L.el x (pm.mem_iff.mp hx), (pm.map txOf).trans L.pm, L.nd, by rw [hz]; exact L.sz, relayAll_fits t es m, relayAll_ris t es m, L.led.imp id fun z => by rw [relayAll_led]; exact z⟩
theorem Laid.more {es : Array (Int × Value)} {t : SetTable} (L : Laid P w ss es t) {k : Str} {tk : Tok} (hk : k ∉ ss) (room : ss.length + 1 < scanBound) : Laid P w (k :: ss) (layNew t es ((PySem.strKind P w).hash k) (.str k tk)).1 (layNew t es ((PySem.strKind P w).hash k) (.str k tk)).2.1 := by
  have pm := layNew_perm t es ((PySem.strKind P w).hash k) (.str k tk)
  rw [Array.toList_push] at pm
  have pc := pm.trans (List.perm_append_singleton _ _)
  have hz : (layNew t es ((PySem.strKind P w).hash k) (.str k tk)).1.size = ss.length + 1 := by
    have := pc.length_eq
    rw [Array.length_toList, List.length_cons, Array.length_toList, L.len] at this
    exact this
  refine ⟨fun x hx => ?_, (pc.map txOf).trans (List.Perm.cons _ L.pm), List.nodup_cons.mpr ⟨hk, L.nd⟩, by rw [hz]; exact room, layNew_fits t es _ _, layNew_ris t es _ _ L.ris, L.led.imp id fun z => by rw [layNew_led]; exact z⟩
  rcases List.mem_cons.mp (pc.mem_iff.mp hx) with z | z
  · rw [z]
    exact ⟨k, tk, rfl, rfl⟩
  · exact L.el x z
theorem tx_store {es es' : Array (Int × Value)} {ep : Nat} {t t' : SetTable} {o : Obj} {Q : Unit → Shared → Prop} (ho : s.heap.get? a = some o) (hx : o.ExactSet) (hd : o.data = .set es ep t) (L : Laid P w ss es' t') (q : ∀ h', Heap.SameBut a s.heap h' → (∃ o', h'.get? a = some o' ∧ o'.ExactSet ∧ ∃ ep', o'.data = .set es' ep' t') → Q () { s with heap := h' }) :
    wpAny (model P w) A (storeSet a es' t') Q E s :=
  wpAny_storeSet_of ho hd (q _ (Heap.SameBut.update s.heap a (Obj.putSet es' t')) ⟨_, store_at ho hd, hx, _, rfl⟩) (fits_of_scanBound L.sz)
/-- what is stored, and stored again when the table has grown too full -/
theorem tx_tail {g : Bool → Sem Unit} (hg : ∀ (b : Bool) (s₁ : Shared) (Q' : Unit → Shared → Prop), Q' () s₁ → wpAny (model P w) A (g b) Q' E s₁) {es es1 : Array (Int × Value)} {ep : Nat} {t t2 : SetTable} {o : Obj} {wasDummy : Bool} {Q : Option Bool → Shared → Prop} (ho : s.heap.get? a = some o) (hx : o.ExactSet) (hd : o.data = .set es ep t) (L : Laid P w ss es1 t2)
    (q : ∀ h', Heap.SameBut a s.heap h' → TxSet P w a ss h' → Q (some true) { s with heap := h' }) :
    wpAny (model P w) A (do
        storeSet a es1 t2
        if (!wasDummy && t2.tooFull) = true then do
            g (relayAll t2 es1 (SetTable.grown es1.size)).2.2
            storeSet a (relayAll t2 es1 (SetTable.grown es1.size)).1 (relayAll t2 es1 (SetTable.grown es1.size)).2.1
            pure (some true)
          else pure (some true)) Q E s := by
  refine wpAny_bind (tx_store ho hx hd L fun h1 sb1 ⟨o1, ho1, hx1, ep1, hd1⟩ => ?_)
  split
  · refine wpAny_bind (hg _ _ _ ?_)
    refine wpAny_bind (tx_store (s := { s with heap := h1 }) ho1 hx1 hd1 (L.grown _) fun h2 sb2 ⟨o2, ho2, hx2, ep2, hd2⟩ => ?_)
    exact wpAny_pure (q h2 (sb1.trans sb2) ⟨o2, _, ep2, _, ho2, hx2, hd2, L.grown _⟩)
  · exact wpAny_pure (q h1 sb1 ⟨o1, _, ep1, _, ho1, hx1, hd1, L⟩)
theorem tx_add {k : Str} {tk : Tok} {Q : Bool → Shared → Prop} (R : TxSet P w a ss s.heap) (room : ss.length + 1 < scanBound) (hQ : ∀ h' b, Heap.SameBut a s.heap h' → TxSet P w a (if k ∈ ss then ss else k :: ss) h' → Q b { s with heap := h' }) :
    wpAny (model P w) A (setAddHashed a (.str k tk) ((PySem.strKind P w).hash k)) Q E s := by
  obtain ⟨o, es, ep, t, ho, hx, hd, L⟩ := R
  have hsc : (Value.str k tk).scannable = true := rfl
  unfold setAddHashed setAddHashedIn
  refine wpAny_holding (wpAny_bind (wpAny_setState_of ho hd L.fit ?_))
  dsimp only
  rw [byScan_of hsc L.sz L.elems]
  simp only [↓reduceIte]
  unfold setAddByScan
  refine wpAny_bind (wpAny_bind (wpAny_rule (wpAny_bind (wpAny_setScan_of (knd := PySem.strKind P w) (strKind_is P w k tk) ho hd L.fit L.elems ?_))))
  cases hf : List.findIdx? (fun e => (PySem.strKind P w).is k e.2) es.toList with
  | some j =>
    dsimp only
    obtain ⟨hj, pj, _⟩ := List.findIdx?_eq_some_iff_getElem.mp hf
    have hk : k ∈ ss := by
      obtain ⟨u, hu⟩ := Value.isStrOf_shape (show Value.isStrOf k es.toList[j].2 = true from pj)
      refine L.pm.mem_iff.mp (List.mem_map.mpr ⟨_, List.getElem_mem hj, ?_⟩)
      unfold txOf
      rw [hu]
    refine wpAny_pure (wpAny_pure (hQ s.heap _ (Heap.SameBut.refl a s.heap) ?_))
    rw [if_pos hk]
    exact ⟨o, es, ep, t, ho, hx, hd, L⟩
  | none =>
    dsimp only
    have hk : k ∉ ss := fun z => by
      obtain ⟨x, hx, q⟩ := List.mem_map.mp (L.pm.mem_iff.mpr z)
      have c := List.findIdx?_eq_none_iff.mp hf x hx
      obtain ⟨z2, t2, h1, _⟩ := L.el x hx
      unfold txOf at q
      rw [h1] at q c
      rw [show z2 = k from q] at c
      have := strKind_is P w k t2
      rw [this] at c
      cases c
    have M := L.more (tk := tk) hk room
    have fin : ∀ h' b, Heap.SameBut a s.heap h' → TxSet P w a (k :: ss) h' → Q b { s with heap := h' } := fun h' b sb r => hQ h' b sb (by rw [if_neg hk]; exact r)
    have hgw : ∀ (b : Bool) {s₁ : Shared} {Q' : Unit → Shared → Prop}, Q' () s₁ → wpAny (model P w) A (match b with | true => rule "set.scan.the-table-gave-way" | false => pure ()) Q' E s₁ :=
      fun b s₁ Q' q => by cases b <;> first | exact wpAny_pure q | exact wpAny_rule q
    generalize layNew t es ((PySem.strKind P w).hash k) (.str k tk) = Z at M ⊢
    obtain ⟨es1, t1, wasDummy, gave⟩ := Z
    dsimp only at M ⊢
    refine wpAny_bind (hgw _ ?_)
    split
    · refine wpAny_bind ?_
      rw [hashByValue_scannable 8 hsc]
      refine wpAny_pure ?_
      refine tx_tail (ss := k :: ss) (fun b s₁ Q' q => by cases b <;> first | exact wpAny_pure q | exact wpAny_rule q) ho hx hd ⟨M.el, M.pm, M.nd, M.sz, ?_, ?_, ?_⟩ ?_
      · first | (split <;> first | exact M.fit | exact SetTable.fits_plain_off M.fit) | exact M.fit
      · first | (split <;> exact M.ris) | exact M.ris
      · first | (split <;> exact M.led) | exact M.led
      · exact fun h' sb r => wpAny_pure (fin h' _ sb r)
    · refine wpAny_bind (wpAny_pure ?_)
      simp only [↓reduceIte]
      exact tx_tail (ss := k :: ss) (fun b s₁ Q' q => by cases b <;> first | exact wpAny_pure q | exact wpAny_rule q) ho hx hd M fun h' sb r => wpAny_pure (fin h' _ sb r)
end
end RM
set_option maxHeartbeats 4000000
namespace RM
open PySem PySem.Spec PyProof.Rows L2
section
variable {P : Program} {w : World} {A : Around} {E : Value → Shared → Prop} {s : Shared} {a : Addr} {ss : List Str}
theorem TxSet.at {h h' : Heap} (R : TxSet P w a ss h) (k : ∀ o, h.get? a = some o → h'.get? a = some o) : TxSet P w a ss h' := by
  obtain ⟨o, es, ep, t, ho, r⟩ := R
  exact ⟨o, es, ep, t, k o ho, r⟩
/-- a set that has just these, up to the i-th -/
def TxUp (P : Program) (w : World) (a : Addr) (ns : List Str) (i : Nat) (h : Heap) : Prop := ∃ cs, TxSet P w a cs h ∧ cs.length ≤ i ∧ ∀ x, x ∈ cs ↔ x ∈ ns.take i
theorem tx_fill {I : Addr} {fp wr : List Addr} {G : Array GenState → Array GenState → Prop} {n : Nat} {Pv : Nat → Value → Prop} {St : Nat → Shared → Prop} {R : Result → Shared → Prop}
    (W : WalksS P w A.in1 I fp wr G n Pv St) (S : Addr) (hSf : S ∉ fp) (ns : List Str) (hn : n = ns.length) (hb : ns.length + 1 < scanBound) (hval : ∀ i v, Pv i v → ∃ z t, ns[i]? = some z ∧ v = .str z t) :
    ∀ (k i : Nat) (s : Shared), n - i = k → i ≤ n → St i s → TxUp P w S ns i s.heap →
      (∀ s', Moved (S :: wr) G s s' → TxUp P w S ns n s'.heap → R (.ok (.ret .none)) s') →
      codeAny (model P w) A (.builtin "set.update.loop" ⟨[.ref S, .ref I], []⟩) R s := by
  have hSw : S ∉ wr := fun h => hSf (W.sub _ h)
  have hsub : ∀ b ∈ wr, b ∈ S :: wr := fun b hb => List.mem_cons_of_mem _ hb
  intro k
  induction k with
  | zero =>
    intro i s hk hi hst ⟨cs, hS, hc, hm⟩ hR
    obtain rfl : i = n := by omega
    refine codeAny_builtin F.entry_set_update_loop ?_
    rw [Around.under_plainId F.plain_set_update_loop _]
    show wpAny _ A.in1 (pyNext (.ref I) >>= _) _ _ s
    refine wpAny_bind (W.done s _ _ hst fun s' mv => ?_)
    show wpAny _ A.in1 (ret Value.none) _ _ s'
    exact wpAny_pure (hR s' (mv.mono hsub) ⟨cs, hS.at fun o e => mv.heap S o hSw e, hc, hm⟩)
  | succ k ih =>
    intro i s hk hi hst ⟨cs, hS, hc, hm⟩ hR
    have hlt : i < n := by omega
    refine codeAny_builtin F.entry_set_update_loop ?_
    rw [Around.under_plainId F.plain_set_update_loop _]
    show wpAny _ A.in1 (pyNext (.ref I) >>= _) _ _ s
    refine wpAny_bind (W.item i s _ _ hlt hst fun v s' hP hst' mv => ?_)
    obtain ⟨z, t, hz, rfl⟩ := hval i v hP
    have hS' : TxSet P w S cs s'.heap := hS.at fun o e => mv.heap S o hSw e
    show wpAny _ A.in1 (holding [Value.str z t] (setAdd S (.str z t)) >>= _) _ _ s'
    refine wpAny_bind (wpAny_holding ?_)
    unfold setAdd
    refine wpAny_holding ?_
    refine wpAny_bind ((PySem.strKind P w).pyHash (k := z) (strKind_is P w z t) ?_)
    refine tx_add (s := { s' with toks := s'.toks + 1 }) hS' (by omega) fun h' b sb hS2 => ?_
    have up : TxUp P w S ns (i + 1) h' := ⟨_, hS2, by split <;> (try rw [List.length_cons]) <;> omega, fun x => by
      rw [List.take_add_one, hz, List.mem_append, ← hm x]
      by_cases c : z ∈ cs
      · rw [if_pos c]
        exact ⟨.inl, fun q => q.elim id fun q => by rw [show x = z by simpa using q]; exact c⟩
      · rw [if_neg c, List.mem_cons]
        constructor
        · rintro (rfl | q)
          · exact .inr (by simp)
          · exact .inl q
        · rintro (q | q)
          · exact .inr q
          · exact .inl (by simpa using q)⟩
    refine wpAny_pure ⟨plainId_quiet F.plain_set_update_loop _, ih (i + 1) _ (by omega) hlt (W.frame _ s' _ _ hst' (Nat.le_succ _) fun b hb o e => ?_) up fun s'' mv2 up2 => ?_⟩
    · rw [sb.2 b fun q => hSf (q ▸ hb)]
      exact e
    · refine hR s'' (Moved.trans W.gtrans ((mv.mono hsub).then_heap (Nat.le_succ _) fun b o hb e => ?_) mv2) up2
      rw [sb.2 b fun q => hb (by rw [q]; exact List.mem_cons_self)]
      exact e
end
end RM
set_option maxHeartbeats 4000000
namespace RM
open PySem PySem.Spec PyProof.Rows L2 CS RZ
/-! ### set(a list of texts) -/
def newSet (w : World) : Obj := ⟨.type "set", none, .set #[] 0 (.fresh 0 0 (!w.params.followText "set-order")), #[]⟩
section
variable {P : Program} {w : World} {A : Around} {E : Value → Shared → Prop} {s : Shared}
theorem newSet_tx {h : Heap} {a : Addr} (e : h.get? a = some (newSet w)) : TxSet P w a [] h := by
  refine ⟨_, #[], 0, _, e, ⟨rfl, rfl, rfl⟩, rfl, fun x hx => ?_, List.Perm.nil, List.nodup_nil, by decide, rfl, List.Pairwise.nil, ?_⟩
  · simp at hx
  · cases w.params.followText "set-order"
    · exact .inr rfl
    · exact .inl rfl
/-- what is promised of the members when all of the list has been gone through -/
def TxFull (P : Program) (w : World) (S : Addr) (ns : List Str) (h h' : Heap) : Prop :=
  (∃ cs, TxSet P w S cs h' ∧ ∀ x, x ∈ cs ↔ x ∈ ns) ∧ ∀ b o, b ≠ S → h.get? b = some o → h'.get? b = some o
theorem tx_init {S l : Addr} {items : Array Value} {ns : List Str} {Q : PySem.Fin → Shared → Prop} (hh : A.handled = none) (hS : s.heap.get? S = some (newSet w)) (hne : l ≠ S) (hl : s.heap.IsList l items) (hn : items.size = ns.length) (hb : ns.length + 1 < scanBound)
    (hit : ∀ (i : Nat) (v : Value), items[i]? = some v → ∃ z t, ns[i]? = some z ∧ v = .str z t) (q : ∀ h' tk, TxFull P w S ns s.heap h' → Q (.done (.ret .none)) { s with heap := h', toks := tk }) :
    wpAny (model P w) A.in1 (Builtin.«set.__init__» ⟨[.ref S, .ref l], []⟩) Q E s := by
  have hT : Shared.TypeIs s (.ref S) "set" := ⟨_, hS, rfl⟩
  obtain ⟨ol, hol, hcl, nl, hdl⟩ := id hl
  obtain ⟨ocls, odict, odata, oslots⟩ := ol
  simp only at hcl hdl
  subst hcl; subst hdl
  have y1 := F.sub_list_set
  have y2 := F.sub_list_frozenset
  have y3 : (Value.type "list" == Value.type "dict") = false := by decide
  unfold Builtin.«set.__init__» noKeywords Builtin.Frozenset.updateFrom
  generalize hPI : pyIter = PI
  wp_walk
  subst hPI
  refine wpAny_pyIter_list hl ?_
  refine wpAny_bind (wpAny_runValue ?_)
  have lS := Heap.lt_size hS
  have ll := Heap.lt_size hol
  have up : ∀ {b : Addr} {o : Obj} (u : Obj), s.heap.get? b = some o → (s.heap.push u).get? b = some o := fun u e => Heap.get?_push_of_some u e
  have hSf : S ∉ [s.heap.objs.size, l] := by
    rw [List.mem_cons, List.mem_singleton, not_or]
    exact ⟨Nat.ne_of_lt lS, fun z => hne z.symm⟩
  have hb0 : A.in1.in1.handled = none := by simp [hh]
  refine tx_fill (Walks.list hb0 s.heap.objs.size l (Nat.ne_of_lt ll) items).toS S hSf ns hn hb hit _ 0 _ rfl (Nat.zero_le _) ?g2 ?g0 ?g1
  case g2 => exact ⟨⟨_, Heap.get?_push_size _ rfl, rfl, rfl⟩, hl.push _⟩
  case g0 => exact ⟨[], newSet_tx (up _ hS), Nat.le_refl _, fun x => by simp⟩
  case g1 =>
    rintro ⟨h', g2, d', tk', os'⟩ mv ⟨cs, hc, _, hm⟩
    obtain rfl : g2 = s.gens := mv.gens
    obtain rfl : d' = s.drawn := mv.drawn
    obtain rfl : os' = s.os := mv.os
    show wpAny _ _ _ _ _ _
    refine wpAny_pure ?_
    show wpAny _ _ (ret Value.none) _ _ _
    refine wpAny_pure (q h' tk' ⟨⟨cs, hc, fun x => ?_⟩, fun b o hbS e => mv.heap b o ?_ (up _ e)⟩)
    · rw [hm, hn, List.take_length]
    · rw [List.mem_cons, List.mem_singleton, not_or]
      exact ⟨hbS, Nat.ne_of_lt (Heap.lt_size e)⟩
theorem call_setT {l : Addr} {items : Array Value} {ns : List Str} {Q : Value → Shared → Prop} (hh : A.handled = none) (hl : s.heap.IsList l items) (hn : items.size = ns.length) (hb : ns.length + 1 < scanBound)
    (hit : ∀ (i : Nat) (v : Value), items[i]? = some v → ∃ z t, ns[i]? = some z ∧ v = .str z t) (q : ∀ h' tk, TxFull P w s.heap.objs.size ns s.heap h' → Q (.ref s.heap.objs.size) { s with heap := h', toks := tk }) :
    wpAny (model P w) A (call (.type "set") [.ref l]) Q E s := by
  have lim0 := Heap.lt_size (show s.heap.get? l = some _ from hl.choose_spec.1)
  have nS : (s.heap.push (newSet w)).get? s.heap.objs.size = some (newSet w) := Heap.get?_push_size _ rfl
  have tS : Shared.TypeIs { s with heap := s.heap.push (newSet w) } (.ref s.heap.objs.size) "set" := ⟨_, nS, rfl⟩
  have m1 := F.called_set.mro
  have m2 := F.called_set.made
  have m3 := F.called_set.sub
  have m4 := F.called_set.notType
  have m5 := F.called_set.canCreate
  have m6 := F.typeCall_set_1 (.ref l)
  have m7 := F.called_set.init.lookup
  have m8 := F.called_set.init.bind (.ref s.heap.objs.size)
  obtain ⟨c1, c2, m1⟩ := m1
  refine wpAny_call (codeAny_of_tree ?_)
  show wpAny _ _ (callAny (.type "set") _) _ _ _
  refine wpAny_pure ⟨Code.quiet_builtin _ (by decide +kernel), codeAny_builtin F.entry_type_call ?_⟩
  rw [Around.under_plain (weight_type_call_type "set" [.ref l] []) rfl]
  repeat any_goals first | assumption | wp_step
  refine codeAny_mono (code_set_led1 (.ref l) (E := E) (Q₁ := fun r s1 => r = .ref s.heap.objs.size ∧ s1 = { s with heap := s.heap.push (newSet w) }) ⟨rfl, rfl⟩) fun r s1 hr => ?_
  match r, hr with
  | .error e, hr => exact hr
  | .ok (.ret r), hr =>
    obtain ⟨rfl, rfl⟩ := hr
    repeat any_goals first | assumption | wp_step
    refine codeAny_mono (codeAny_call_builtin (R := wants (fun r s2 => r = .none ∧ ∃ h' tk, s2 = { s with heap := h', toks := tk } ∧ TxFull P w s.heap.objs.size ns s.heap h') E) F.called_set.init.plain F.entry_set_init (check_set_init_1 tS ?_)) fun r2 s2 hr2 => ?_
    · refine tx_init (A := A.in1) (by simp [hh]) nS (Nat.ne_of_lt lim0) (hl.push _) hn hb hit fun h' tk ⟨t1, t2⟩ => ?_
      exact ⟨rfl, h', tk, rfl, t1, fun b o z e => t2 b o z (Heap.get?_push_of_some _ e)⟩
    · match r2, hr2 with
      | .error e, hr2 => exact hr2
      | .ok (.ret r2), hr2 =>
        obtain ⟨rfl, h', tk, rfl, t⟩ := hr2
        repeat any_goals first | assumption | wp_step
        exact q h' tk t
end
end RM
set_option maxHeartbeats 4000000
namespace RM
open PySem PySem.Spec PyProof.Rows L2 CS RZ
/-! ### sets of texts as objects; sorted of one -/
theorem tx_ok {P : Program} {w : World} {H : Hp} {h : Heap} {a : Addr} {ss : List Str} (R : TxSet P w a ss h) : ObjOk P w H h a (.ext (TxSet P w a ss)) := by
  obtain ⟨o, es, ep, t, ho, r⟩ := id R
  exact ⟨R, ⟨o, ho⟩, fun h1 h2 p k => p.at k⟩
theorem pw_sorted {l : List Str} (h : l.Pairwise leS) : sortedS l = true := by
  cases l with
  | nil => rfl
  | cons x r =>
    refine risingS_of_pairwise x r (h.imp fun {a b} q => ?_)
    rw [ltCps_eq, decide_eq_false_iff_not]
    exact List.not_lt.mpr q
def leT (a b : Str) : Bool := PySem.W.dataLe false PyData.str a b
theorem leT_iff {a b : Str} : leT a b = true ↔ leS a b := by
  show (!PySem.W.dataLt (.str b) (.str a)) = true ↔ _
  rw [PySem.W.dataLt_str]
  unfold leS
  simp
theorem leT_pw {a b c : Str} (x : leT a b = true) (y : leT b c = true) : leT a c = true := leT_iff.mpr (leS_trans (leT_iff.mp x) (leT_iff.mp y))
theorem leT_or (a b : Str) : (leT a b || leT b a) = true := by
  rw [Bool.or_eq_true, leT_iff, leT_iff]
  exact List.le_total a.cps.toList b.cps.toList
theorem sortT_pw (l : List Str) : (l.mergeSort leT).Pairwise leS :=
  (List.pairwise_mergeSort (le := leT) (fun a b c x y => leT_pw x y) leT_or l).imp fun {a b} x => leT_iff.mp x
theorem alikeT (l : List Str) : PySem.W.AllAlike (l.map PyData.str) := PySem.W.AllAlike.of fun b b' => by simp [PySem.W.alike]
theorem sortableT (l : List Str) : PySem.W.Sortable (l.map PyData.str) := PySem.W.Sortable.others fun b => ⟨by simp, fun xs => by simp⟩
section
variable {X : Cx}
def rSetT (K : PySem.W.Frag) (P : Program) (w : World) : List V → Hp → VK → Prop := fun xs H Q => ∃ (l : Addr) (ss : List Str), xs = [V.ref l] ∧ SqL K H l (ss.map V.str) ∧ ss.length ≤ 1000 ∧
  ∀ a cs, H a = none → (∀ x, x ∈ cs ↔ x ∈ ss) → Q (.ref a) (upd H a (.ext (TxSet P w a cs)))
theorem vals_strs : ∀ {ss : List Str} {us : List Value}, Vals (ss.map V.str) us → us.length = ss.length ∧ ∀ (i : Nat) (v : Value), us[i]? = some v → ∃ z t, ss[i]? = some z ∧ v = .str z t
  | [], [], .nil => ⟨rfl, fun i v h => by simp at h⟩
  | s :: ss, u :: us, .cons h r => by
    obtain ⟨l1, l2⟩ := vals_strs (ss := ss) r
    obtain ⟨t, rfl⟩ := h
    refine ⟨by rw [List.length_cons, List.length_cons, l1], fun i v hv => ?_⟩
    cases i with
    | zero => exact ⟨s, t, rfl, (Option.some.inj hv).symm⟩
    | succ i => exact l2 i v hv
theorem cr_setT (hc : X.calm = true) : CallR X (.type "set") (rSetT X.K X.prog X.w) := by
  intro pins s σ H xs us Q I r h
  obtain ⟨l, ss, rfl, hl, hb, q⟩ := h
  rw [Vals.ref1 r]
  obtain ⟨its, rv, pl, hz⟩ := I.list hl
  obtain ⟨e1, e2⟩ := vals_strs rv
  have hn := I.hok.fresh (Nat.le_refl s.heap.objs.size)
  refine call_setT (P := X.prog) (w := X.w) (ns := ss) (I.ok.hd hc) pl.isList (by simpa using e1) (by unfold scanBound; omega) (fun i v hv => e2 i v (by simpa using hv)) fun h' tk ⟨⟨cs, t1, t2⟩, t3⟩ => ?_
  exact ⟨.ref s.heap.objs.size, upd H s.heap.objs.size (.ext (TxSet X.prog X.w s.heap.objs.size cs)), I.laid (t' := tk) (fun b o e => t3 b o (Nat.ne_of_lt (Heap.lt_size e)) e) (Nat.le_refl _) (tx_ok t1), rfl, q _ cs hn t2⟩
def rSortedTx (P : Program) (w : World) : List V → Hp → VK → Prop := fun xs H Q => ∃ (a : Addr) (cs : List Str), xs = [V.ref a] ∧ H a = some (.ext (TxSet P w a cs)) ∧
  ∀ (ys : List Str) (p : Addr), ys.Nodup → (∀ x, x ∈ ys ↔ x ∈ cs) → sortedS ys = true → H p = none → Q (.ref p) (upd H p (.lst (ys.map V.str)))
theorem cr_sortedTx (hc : X.calm = true) (hu : X.A.units + 64 < cLine) : CallR X (.builtin "sorted") (rSortedTx X.prog X.w) := by
  intro pins s σ H xs us Q I r h
  obtain ⟨a, cs, rfl, ha, q⟩ := h
  obtain ⟨o, es, ep, t, ho, hx, hd, L⟩ := (show TxSet X.prog X.w a cs s.heap from (I.hok a _ ha).1)
  rw [Vals.ref1 r]
  refine Calls.call_function_entry PyProof.Rows.kind_sorted PyProof.Rows.plain_sorted PyProof.Rows.entry_sorted (PyProof.Rows.args_sorted1 _) ?_
  unfold Builtin.«sorted»
  refine wpAny_bind (m := checkCount "sorted" 1 1 _) (wpAny_pure ?_)
  refine wpAny_bind (collect_set (A := X.A.in1) (I.ok.hd hc) ⟨o, ho, hx.1, hd⟩ L.fit L.sz L.ris L.led fun s1 vs k1 z1 g1 o1 pm => ?_)
  have hv : ∀ v ∈ vs, ∃ z t, v = Value.str z t := fun v hv => by
    obtain ⟨e, he, rfl⟩ := List.mem_map.mp (pm.mem_iff.mp hv)
    obtain ⟨z, t, e1, _⟩ := L.el e he
    exact ⟨z, t, e1⟩
  have e0 : PySem.W.EachIs (fun u (z : Str) => RelV (V.str z) u) vs (vs.map fun v => txOf (0, v)) := by
    clear pm
    induction vs with
    | nil => exact .nil
    | cons v vs ih =>
      obtain ⟨z, t, rfl⟩ := hv v (List.mem_cons_self ..)
      exact .cons ⟨t, rfl⟩ (ih fun u hu => hv u (List.mem_cons_of_mem _ hu))
  have pz : (vs.map fun v => txOf (0, v)).Perm cs := (pm.map _).trans (by rw [List.map_map]; exact L.pm)
  generalize (vs.map fun v => txOf (0, v)) = zs at e0 pz
  have hL : vs.length ≤ sizeLine := by
    rw [pm.length_eq, List.length_map, Array.length_toList]
    exact fits_of_scanBound L.sz
  refine wpAny_bind (wpAny_newList ?_ hL)
  show wpAny _ _ _ _ _ { s1 with heap := s1.heap.push (seqObj "list" vs.toArray 0) }
  have hoL : (s1.heap.push (seqObj "list" vs.toArray 0)).get? s1.heap.objs.size = some (seqObj "list" vs.toArray 0) := Heap.get?_push_size _ rfl
  have er : PySem.W.EachIs (fun u (z : Str) => ∃ as, Reads (PySem.W.sortingHeap (s1.heap.push (seqObj "list" vs.toArray 0)) s1.heap.objs.size vs) u (.str z) as) vs zs := by
    clear hoL hL pz pm hv
    generalize PySem.W.sortingHeap _ _ vs = hh
    induction e0 with
    | nil => exact .nil
    | cons h t ih =>
      obtain ⟨tk, rfl⟩ := h
      exact .cons ⟨_, .str _ _⟩ ih
  have S := PySem.W.SortsAt.data (prog := X.prog) (w := X.w) (A := X.A.in1.in1) (s := { s1 with heap := PySem.W.sortingHeap (s1.heap.push (seqObj "list" vs.toArray 0)) s1.heap.objs.size vs }) (PySem.W.each_map (R := fun v d => ∃ as, Reads (PySem.W.sortingHeap (s1.heap.push (seqObj "list" vs.toArray 0)) s1.heap.objs.size vs) v d as) PyData.str er)
    (alikeT _) (sortableT _) fun d hd => by
      obtain ⟨z, _, rfl⟩ := List.mem_map.mp hd
      have : (PyData.str z).depth = 0 := by simp [PyData.depth]
      have e3 : X.A.in1.in1.units = X.A.units + 2 := rfl
      omega
  refine wpAny_bind (wpAny_holding (wpAny_call_entry slot_list_sort ⟨_, hoL, rfl⟩ entry_list_sort ?_ (args_list_sort _)))
  show wpAny (model X.prog X.w) X.A.in1.in1 (Builtin.«list.sort» ⟨[.ref s1.heap.objs.size], []⟩) _ _ _
  refine PySem.W.list_sort_vals (s := { s1 with heap := s1.heap.push (seqObj "list" vs.toArray 0) }) hoL S hL ?_
  refine ⟨_, rfl, wpAny_pure ⟨_, rfl, ?_⟩⟩
  have eo := PySem.W.sortVals_data (enc := PyData.str) (R := fun u (z : Str) => RelV (V.str z) u) false e0 er (alikeT _)
  obtain ⟨e', he'⟩ := PyProof.Rows.sortedHeap_at (vs := vs) (out := (PySem.W.sortVals (PySem.W.dataKind (PySem.W.sortingHeap (s1.heap.push (seqObj "list" vs.toArray 0)) s1.heap.objs.size vs) (zs.map PyData.str)) false vs vs).toArray) hoL
  have lz : zs.length = vs.length := e0.length.symm
  have hlen : ((zs.mergeSort leT).map V.str).length ≤ sizeLine := by
    rw [List.length_map, List.length_mergeSort, lz]
    exact hL
  have hn : H s1.heap.objs.size = none := I.hok.fresh z1
  have kk : ∀ b u, s.heap.get? b = some u → (PyProof.Rows.sortedHeap (s1.heap.push (seqObj "list" vs.toArray 0)) s1.heap.objs.size vs (PySem.W.sortVals (PySem.W.dataKind (PySem.W.sortingHeap (s1.heap.push (seqObj "list" vs.toArray 0)) s1.heap.objs.size vs) (zs.map PyData.str)) false vs vs).toArray).get? b = some u := fun b u e => by
    have e2 := k1 b u e
    have hb : b < s1.heap.objs.size := Heap.lt_size e2
    rw [PyProof.Rows.sortedHeap_old (Nat.ne_of_lt hb) (by rw [size_push']; exact Nat.lt_succ_of_lt hb)]
    exact Heap.get?_push_of_some _ e2
  have pm2 := List.mergeSort_perm zs leT
  refine ⟨.ref s1.heap.objs.size, upd H s1.heap.objs.size (.lst ((zs.mergeSort leT).map V.str)), ?_, rfl, q _ _ (pm2.nodup_iff.mpr (pz.nodup_iff.mpr L.nd)) (fun x => pm2.mem_iff.trans pz.mem_iff) (pw_sorted (sortT_pw zs)) hn⟩
  exact I.call' (ch := []) o1 (Un.laid kk z1 hn) (I.hok.laid kk z1 (show ObjOk X.prog X.w _ _ _ (.lst ((zs.mergeSort leT).map V.str)) from ⟨hlen, _, e', vals_of_each V.str eo, he'⟩)) (by rw [show s1.gens = s.gens from g1]; exact I.bare) fun _ z => nomatch z
end
end RM
namespace RM
open PySem PySem.Spec PyProof.Rows L2 CS RZ
/-! ### sorted(set(e)), e a list of texts -/
theorem IsL.strs {T : Tab} {H : Hp} : ∀ {vs : List V} {ss : List Str}, IsL T H vs (strD ss) → vs = ss.map V.str
  | _, [], .nil => rfl
  | _, s :: ss, .cons a b => by rw [List.map_cons, a.str', IsL.strs (ss := ss) b]
section
variable {X : Cx} {g : Glob} {xk : WX} {pos pos2 : Pos}
theorem pf_sortSet {p p2 : Pos} {e : Expr} {t : CE} (hc : X.calm = true) (hu : X.A.units + 64 < cLine) (G : Good X g) (hg : Gl X "sorted") (hm : X.mg "sorted" = none) (hg2 : Gl X "set") (hm2 : X.mg "set" = none) (ha : PD X g xk e t)
    (hs2 : starEach [e] X.env = (false, eval e X.env) :: starEach [] X.env := by rfl) (hp2 : (backTo pos2 (starEach [] X.env)).any (·.1) = false := by rfl)
    (hs : starEach [.Call (.Name "set" p2) [e] [] pos2] X.env = (false, eval (.Call (.Name "set" p2) [e] [] pos2) X.env) :: starEach [] X.env := by rfl) (hpl : (backTo pos (starEach [] X.env)).any (·.1) = false := by rfl) :
    PDF X g xk (.Call (.Name "sorted" p) [.Call (.Name "set" p2) [e] [] pos2] [] pos) (cSortSet t) := by
  refine ⟨PE.imp (pe_callB (cr_sortedTx hc hu) hg hm (by decide +kernel) (pa_cons (pe_callTy (cr_setT hc) hg2 hm2 (by decide +kernel) (pa_cons ha.pe pa_nil hs2) (by decide) (by decide) hs2 hp2) pa_nil hs) (by decide) (by decide) hs hpl) fun σ H Q h => ?_⟩
  obtain ⟨C, ρ, n, O, k, ke, hK, E, t, x, q⟩ := h
  refine ⟨C, ρ, n, O, _, ke, hK, E, t, x, fun d ρ1 n1 v H1 O1 k1 E1 S1 i1 => ?_⟩
  obtain ⟨ss, rfl, hl, k1⟩ := k1
  obtain ⟨a, xs, rfl, ha', r⟩ := i1.list'
  rw [r.strs] at ha'
  refine ⟨a, ss, rfl, SqL.of (hid_le _ _ ha'), by omega, fun b cs hb hcs => ?_⟩
  refine ⟨b, cs, rfl, upd_same, fun ys p y1 y2 y3 hp => ?_⟩
  have hne : p ≠ b := fun z => by
    rw [z, upd_same] at hp
    cases hp
  rw [upd_ne hne] at hp
  have hp2 : upd H1 b (.ext (TxSet X.prog X.w b cs)) p = none := by
    rw [upd_ne hne]
    exact hp
  exact q _ _ _ p H1 _ O1 (k1 ys y1 (fun x => (y2 x).trans (hcs x)) y3) E1 S1 hp ((same_new hb).trans (same_new hp2)) (.lst upd_same (isL_strs ys)) rfl
end
end RM
namespace RM
open PySem PySem.Spec PyProof.Rows L2 CS RZ
/-! ### what the written part says of a class, as truth values -/
section
variable {K : PySem.W.Frag} {C f p : Addr} {m : Str}
def clB (K : PySem.W.Frag) (C : Addr) : Bool := PySem.W.plainGet K C Str.empty && (PySem.W.hasDictIn K C && (PySem.W.plainOver K C && (PySem.W.findIn K (.ref C) "__setattr__" == some (some (.builtin "object.__setattr__")))))
theorem clB_ok (h : clB K C = true) : Cls K C := by
  unfold clB at h
  simp only [Bool.and_eq_true, beq_iff_eq] at h
  exact ⟨h.1, h.2.1, h.2.2.1, h.2.2.2⟩
def noB (K : PySem.W.Frag) (C : Addr) (fs : List Str) : Bool := fs.all fun f => PySem.W.findIn K (.ref C) f == some none
theorem noB_at {fs : List Str} {x : Str} (h : noB K C fs = true) (hx : x ∈ fs) : NoAttr K C x := by
  unfold noB at h
  rw [List.all_eq_true] at h
  exact beq_iff_eq.mp (h x hx)
def mkB (K : PySem.W.Frag) (C f : Addr) : Bool := PySem.W.makesIn K C && ((PySem.W.findIn K (.ref C) "__init__" == some (some (.ref f))) && (PySem.W.isFn K (.ref f) && PySem.W.keepIn K (.ref C)))
theorem mkB_ok (h : mkB K C f = true) : Mk K C f := by
  unfold mkB at h
  simp only [Bool.and_eq_true, beq_iff_eq] at h
  exact ⟨h.1, h.2.1, h.2.2.1, h.2.2.2⟩
/-- a def of the class under this name -/
def mtB (K : PySem.W.Frag) (C : Addr) (m : Str) (f : Addr) : Bool := (PySem.W.findIn K (.ref C) m == some (some (.ref f))) && (PySem.W.isFn K (.ref f) && (PySem.W.keepIn K (.ref f) && PySem.W.fnIn K f))
theorem mtB_ok (h : mtB K C m f = true) : Meth K C m f ∧ PySem.W.fnIn K f = true := by
  unfold mtB at h
  simp only [Bool.and_eq_true, beq_iff_eq] at h
  exact ⟨⟨h.1, h.2.1, h.2.2.1⟩, h.2.2.2⟩
def prB (K : PySem.W.Frag) (C : Addr) (m : Str) (p f : Addr) (rest : List Value) : Bool := (PySem.W.findIn K (.ref C) m == some (some (.ref p))) && ((PySem.W.specialIn K (.ref p) "__get__" == some (some (.builtin "property.__get__"))) && ((PySem.W.takesIn K (.ref p) == some true) && (PySem.W.recIn K p "property" == some (.ref f :: rest))))
theorem prB_ok {rest : List Value} (h : prB K C m p f rest = true) : PropOf K C m p f := by
  unfold prB at h
  simp only [Bool.and_eq_true, beq_iff_eq] at h
  exact ⟨h.1, h.2.1, h.2.2.1, rest, h.2.2.2⟩
def inB (K : PySem.W.Frag) (C : Addr) : Bool := clB K C && ((PySem.W.findIn K (.ref C) "__class__" == some (some (.builtin "object.__class__"))) && ((PySem.W.specialIn K (.builtin "object.__class__") "__get__" == some (some (.builtin "getset_descriptor.__get__"))) && ((PySem.W.takesIn K (.builtin "object.__class__") == some true) && ((PySem.W.mroIn K C (.type "object") == some true) && (PySem.W.kitOne K (.ref C) (.ref C) == some true)))))
theorem inB_ok (h : inB K C = true) : C8.InsC K C := by
  unfold inB at h
  simp only [Bool.and_eq_true, beq_iff_eq] at h
  exact ⟨clB_ok h.1, h.2.1, h.2.2.1, h.2.2.2.1, h.2.2.2.2.1, h.2.2.2.2.2⟩
def mroB (K : PySem.W.Frag) (C : Addr) : Bool := match PySem.W.clsIn K C with
  | some cd => cd.mro == [.ref C, .type "object"]
  | none => false
theorem mroB_ok (h : mroB K C = true) : ∃ cd, PySem.W.clsIn K C = some cd ∧ cd.mro = [.ref C, .type "object"] := by
  unfold mroB at h
  split at h
  · rename_i cd e
    exact ⟨cd, e, beq_iff_eq.mp h⟩
  · cases h
/-! own errors -/
def erB (K : PySem.W.Frag) (C fI : Addr) (fs : List Str) (bm : List Value) : Bool :=
  (PySem.W.findIn K (.ref C) "__setattr__" == some (some (.builtin "object.__setattr__"))) && (PySem.W.hasDictIn K C && (PySem.W.keepIn K (.ref C) && ((PySem.W.findIn K (.ref C) "__init__" == some (some (.ref fI))) && ((PySem.W.typeIn K (.ref fI) == some (.type "function")) && (PySem.W.excOver K C bm && (noB K C fs && ((PySem.W.subIn K (.ref C) (.type "BaseException") == some true) && (PySem.W.typeIn K (.ref C) == some (.type "type")))))))))
theorem erB_ok {fI : Addr} {fs : List Str} {bm : List Value} {B newId initId : String} (F : ExcBaseFacts B newId initId bm) (S : StoreFacts B bm "object.__setattr__" "object") {nm q : Str} {N : Addr} {bs : List Value} {sn : List Str} {sub : List Value} {ab : Bool} {col : Option Bool} {dd : Option Addr} {u0 u1 u2 u3 u5 : Option Value}
    (hC : K.lookup C = some (excClassObj nm q C N bs bm true sn sub ab col dd u0 u1 u2 u3 u5 newId)) (h : erB K C fI fs bm = true) : ErrC K C fI fs := by
  unfold erB at h
  simp only [Bool.and_eq_true, beq_iff_eq] at h
  obtain ⟨h1, h2, h3, h4, h5, h6, h7, h8, h9⟩ := h
  exact ⟨⟨⟨B, newId, initId, bm, F, S, h6, nm, q, N, bs, sn, sub, ab, col, dd, u0, u1, u2, u3, u5, hC⟩, h1, h2, h3, h4, h5⟩, fun f hf => noB_at h7 hf, h8, h9⟩
/-! a def with one default, the empty tuple -/
theorem dfl_unit {x qual : Str} {st : Stmt} {f T E : Addr} {oc kV doc pm cdv ct : Value} {od an : Option Addr} {osl : Array (Option Value)} {oT oE : Obj} {n m : Nat} (l : K.lookup f = some ⟨oc, od, .func (PySem.W.fnOf x qual (defArgs st) (defBody st) (defScope st) (.ref T) kV doc pm an cdv ct), osl⟩)
    (c : PySem.W.codeIn K cdv qual = true) (k : PySem.W.keepIn K (.ref f) = true) (lT : K.lookup T = some oT) (hT : oT.data = .seq #[.ref E] n) : FunD K x qual (defArgs st) (defBody st) (defScope st) [V.ref E] [] f (PySem.W.fnOf x qual (defArgs st) (defBody st) (defScope st) (.ref T) kV doc pm an cdv ct) :=
  ⟨⟨oc, od, .ref T, kV, doc, pm, an, cdv, ct, osl, rfl, l, c, .inr ⟨by simp, T, oT, [.ref E], n, rfl, lT, hT, .cons rfl .nil⟩, .inl rfl⟩, k⟩
theorem unit_at {E : Addr} {oE : Obj} {m : Nat} (lE : K.lookup E = some oE) (hc : oE.cls = .type "tuple") (hd : oE.data = .seq #[] m) (T : Tab) (H : Hp) (hK : T.K = K) : Is T H (.ref E) (.tuple []) :=
  .tup (.inr ⟨oE, #[], m, by rw [hK]; exact lE, hc, hd, by decide, .nil⟩) .nil
end
end RM
namespace RM
open PySem PySem.Spec PyProof.Rows L2 CS RZ
/-! ### try: .. except (A, ..) as n: .. -/
def cTryT (cns ms : List Nat) (i : Nat) (body suite : CS) : CS := fun ρ n e => body ρ n { e with xc := fun x ρ' n' => x.1 ∈ ms ∧ if x.1 ∈ cns then suite (ρ'.set i (some (Sl.v (exc x.1 x.2)))) n' { nx := fun ρ2 n2 => e.nx (ρ2.set i none) n2, rt := e.rt, bk := fun ρ2 n2 => e.bk (ρ2.set i none) n2, ct := fun ρ2 n2 => e.ct (ρ2.set i none) n2, xc := kF } else e.xc x ρ' n' }
theorem takes_F {X : Cx} : Takes X xF := fun _ _ ⟨_, _, _, _, _, _, _, _, _, _, _, _, _, _, _, _, w⟩ => w.elim
section
variable {X : Cx} {g : Glob} {xk : WX} {pos : Pos}
theorem pds_tryT {n : Str} {te : Expr} {i : Nat} {cns ms : List Nat} {body suite : List Stmt} {b1 : Stmt} {pos' : Pos} {cb cs : CS} (hs : X.stack = X.env :: X.outer) (hf : X.env.frame = some X.env.locals) (hex : X.ex = []) (hN : X.N.Nodup) (hi : X.N[i]? = some n)
    (hln : X.env.kindOf n = some .local) (hc : CS.Tst X te (cns.map fun c => .ref (g.cls c))) (tk : Takes X xk) (hm : ∀ c ∈ ms, PySem.W.exmAny X.K (.ref (g.cls c)) (cns.map fun c => .ref (g.cls c)) = some (decide (c ∈ cns)))
    (hb : ∀ (W : WX) (pn : List (Addr × Obj)) (xe : Value → Shared → Prop), Takes (X.tr pn xe) W → PassesOwn (model X.prog X.w) X.A X.env xe → PDSs (X.tr pn xe) g W body cb)
    (hsu : ∀ (a : Addr) (pn : List (Addr × Obj)), PDSs (X.suite a pn) g xF (b1 :: suite) cs) :
    PDS X g xk (.Try body [.ExceptHandler (some te) (some n) (b1 :: suite) pos'] [] [] pos) (cTryT cns ms i cb cs) := by
  refine ⟨ps_imp (CS.ps_try_test (tb := fun W => liftS g W cb) (ts := liftS g xF cs) hs hf hex hN hi hln hc tk (fun W pn xe tw pw => (hb W pn xe tw pw).pss) (fun a pn => (hsu a pn).pss)) fun F σ H h => ?_⟩
  obtain ⟨C, ρ, n0, O, e, hK, E, t, l⟩ := h
  refine ⟨C.see (hid C O H), ρ, n0, O, _, hK, E.see, t, ⟨fun ρ1 n1 σ1 H1 O1 a E1 S1 => l.nx _ _ _ _ _ a (E1.unsee E.vis).1 S1, fun d n1 v H1 a Fn iv => l.rt _ _ _ _ a ⟨Fn.keep, Fn.box⟩ iv, fun ρ1 n1 σ1 H1 O1 a E1 S1 => l.bk _ _ _ _ _ a (E1.unsee E.vis).1 S1, fun ρ1 n1 σ1 H1 O1 a E1 S1 => l.ct _ _ _ _ _ a (E1.unsee E.vis).1 S1, fun c fs ρ1 n1 σ1 H1 O1 dd a E1 xi => ?_⟩⟩
  obtain ⟨E2, S2⟩ := E1.unsee E.vis
  obtain ⟨hlt, a⟩ := a
  have hK2 : C.T.cls c = g.cls c := by rw [hK.2]
  refine ⟨decide (c ∈ cns), by show PySem.W.exmAny X.K (.ref (C.T.cls c)) _ = _; rw [hK2]; exact hm c hlt, fun hy ad na => ?_, fun hn => ?_⟩
  · have hcn : c ∈ cns := of_decide_eq_true hy
    rw [if_pos hcn] at a
    obtain ⟨E3, S3, h3⟩ := E2.new (o := XO (.ref (C.T.cls c)) dd ad) na
    obtain ⟨E4, S4⟩ := E3.set (i := i) (v := .ref ad) (d := exc c fs) (exc_is h3 (xi.same S3))
    refine ⟨C, _, n1, _, _, hK, E4, a, ?_⟩
    have Sb := (S2.trans S3).trans S4
    refine ⟨fun ρ5 n5 σ5 H5 O5 x5 E5 S5 => ?_, fun d n5 v5 H5 x5 Fn iv => l.rt _ _ _ _ x5 Fn iv, fun ρ5 n5 σ5 H5 O5 x5 E5 S5 => ?_, fun ρ5 n5 σ5 H5 O5 x5 E5 S5 => ?_, xl_F⟩
    · exact l.nx _ _ _ _ _ x5 (E5.wipe1 i) ((Sb.trans S5).trans hid_cut)
    · exact l.bk _ _ _ _ _ x5 (E5.wipe1 i) ((Sb.trans S5).trans hid_cut)
    · exact l.ct _ _ _ _ _ x5 (E5.wipe1 i) ((Sb.trans S5).trans hid_cut)
  · have hcn : ¬ c ∈ cns := of_decide_eq_false hn
    rw [if_neg hcn] at a
    exact l.xc c fs ρ1 n1 σ1 H1 O1 dd a E2 xi
end
end RM
namespace RM
open PySem PySem.Spec PyProof.Rows L2 CS RZ
/-! ### o.m(x = e, ..) -/
structure PDKw (X : Cx) (g : Glob) (xk : WX) (kws : List Keyword) (td : CA) : Prop where
  pk : PK X kws (liftA g xk td)
structure HasMK (P : Program) (w : World) (K : PySem.W.Frag) (mg : Str → Option Value) (base : Heap) (g : Glob) (j : Nat) (CX : CXT) (c : Nat) (m : Str) (ps ks : List Str) (sd : SpD) : Prop where
  ex : ∃ f fd, FnOk P w K mg base CX j f fd ps (spD g sd) ∧ KBn K fd ps 1 ks (fun us ws => us ++ ws) (fun vs zs => vs ++ zs) ∧ Meth K (g.cls c) m f ∧ Cls K (g.cls c)
section
variable {X : Cx} {g : Glob} {xk : WX} {pos kpos : Pos} {CX : CXT} {k j c : Nat} {nm : Option Str} {m : Str} {ps ks : List Str} {sd : SpD}
theorem pdk_nil : PDKw X g xk [] cNil := ⟨⟨fun p pins s σ H Q I h => pk_nil.run p pins s σ H Q I (let ⟨C, ρ, n, O, k, ke, hK, E, t, x, q⟩ := h; q _ _ _ _ _ _ t E (Same.refl _) .nil)⟩⟩
theorem pdk_cons {e : Expr} {kws : List Keyword} {t : CE} {u : CA} (ha : PD X g xk e t) (hr : PDKw X g xk kws u) : PDKw X g xk (⟨nm, e, kpos⟩ :: kws) (cCons t u) := by
  refine ⟨⟨fun p pins s σ H Q I h => (pk_cons ha.pe hr.pk).run p pins s σ H Q I ?_⟩⟩
  obtain ⟨C, ρ, n, O, k, ke, hK, E, t, x, q⟩ := h
  refine ⟨C, ρ, n, O, _, ke, hK, E, t, x, fun d ρ1 n1 v H1 O1 k1 E1 S1 i1 => ?_⟩
  exact ⟨C, ρ1, n1, O1, _, ke, hK, E1, k1, x, fun ds ρ2 n2 vs H2 O2 k2 E2 S2 i2 => q _ _ _ _ _ _ k2 E2 (S1.trans S2) (.cons (i1.same S2) i2)⟩
theorem run_kw {f : Addr} {fd : FuncData} {sp : Sp} {gs : List Value → List Value → List Value} {gV : List V → List V → List V} {n : Nat} {E : L2.St → XK} {pins : List (Addr × Obj)} {σ : L2.St} {H : Hp} {s : Shared} {Q : VK} {us ws : List Value} {vs zs : List V} (F : FnOk X.prog X.w X.K X.mg X.base CX k f fd ps sp) (hr : Room k X.A) (hb : KBn X.K fd ps n ks gs gV) (hx : PassesAt CX X σ (E σ)) (I : Inv X pins σ H s)
    (r : Vals vs us) (rz : Vals zs ws) (l1 : us.length = n) (l2 : ws.length = ks.length) (h : sp (gV vs zs) H Q (E σ)) : wpAny (model X.prog X.w) X.A (call (.ref f) us (ks.zip ws)) (EP X pins σ Q) X.xe s :=
  wpAny_call (codeAny_mono (F.run X.A X.stack s H ⟨us, ks.zip ws⟩ (gs us ws) (gV vs zs) Q (E σ) hr I.env0 (hb.to s us ws I.kIn l1 l2) (hb.rel r rz) h) (cr_out (fun e s' z => hx pins H s e s' I z) fun _ _ z => I.after z))
theorem pd_mK {o : Expr} {kws : List Keyword} {to : CE} {ta : CA} {apos : Pos} {pl : Sem Bool} (h : HasMK X.prog X.w X.K X.mg X.base g j CX c m ps ks sd) (hr : Room k X.A) (l : j ≤ k) (ho : PD X g xk o to) (hx : ∀ σ, PassesAt CX X σ (WE xk σ)) (ha : PDKw X g xk kws ta)
    (hall : (backToKw pos (keywordEach kws X.env)).all (·.1.isSome) = true := by rfl) (hks : (backToKw pos (keywordEach kws X.env)).filterMap (·.1) = ks := by rfl) (hkl : ∀ (ds : List D) ρ n k ke, ta ρ n k ke → ta ρ n (fun ds ρ' n' => ds.length = ks.length ∧ k ds ρ' n') ke)
    (hpl : ((backTo pos (starEach [] X.env)).any (·.1) || (backToKw pos (keywordEach kws X.env)).any (·.1.isNone)) = false := by rfl)
    (ht : eval (.Call (.Attribute o m apos) [] kws pos) X.env = (do
      let ov ← eval o X.env
      standAt apos.atName
      let (f, first) ← holding [ov] (getMethod ov m pl)
      callWith pos f first (backTo pos (starEach [] X.env)) (backToKw pos (keywordEach kws X.env))) := by rfl) : PD X g xk (.Call (.Attribute o m apos) [] kws pos) (cMeth sd to ta c m) := by
  obtain ⟨f, fd, F, hb, hm, hC⟩ := h.ex
  refine ⟨⟨fun pins s σ H Q I h => ?_⟩⟩
  obtain ⟨C, ρ, n, O, k, ke, hK, E, t, x, q⟩ := h
  refine PySem.W.methodCall_KW (pl := pl) (thn (ho.pe.run pins s σ H (fun v H1 => ∃ (d : D) (ρ1 : En) (n1 : Nat) (O1 : Ow), ((∃ fs, d = obj c fs ∧ fieldD fs m = none) ∧ ta ρ1 n1 (fun ds ρ2 n2 => sd (d :: ds) n2 (fun z n3 => k z ρ2 n3) (fun y n3 => ke y ρ2 n3)) ke) ∧ Ev C ρ1 n1 σ H1 O1 ∧ Same (hid C O H) (hid C O1 H1) ∧ Is C.T (hid C O1 H1) v d) I
    ⟨C, ρ, n, O, _, ke, hK, E, t, x, fun d ρ1 n1 v H1 O1 a b c i => ⟨d, ρ1, n1, O1, a, b, c, i⟩⟩) fun u s1 ⟨v, H1, I1, rx, d, ρ1, n1, O1, ⟨⟨fs, ed, hfm⟩, k1⟩, E1, S1, i1⟩ => ?_) ht
  subst ed
  obtain ⟨a, dx, us, rfl, g1, _, r⟩ := isObj i1
  have hl := isF_look m r
  rw [hfm] at hl
  rw [hK.2] at g1
  obtain rfl : u = Value.ref a := rx
  refine getmeth_ok I1 (hid_le _ _ g1) hC hm hl ?_
  refine PySem.W.callWith_KW0 (first := [.ref a]) (h₀ := X.base) I.ok.mod.kin hm.kp hall ?_ hpl
  refine thn (ha.pk.run pos pins s1 σ H1 (fun vs H2 => vs.length = ks.length ∧ spD g sd (.ref a :: vs) H2 Q (WE xk σ)) I1 ⟨C, ρ1, n1, O1, _, ke, hK, E1, hkl [] _ _ _ _ k1, x, fun ds ρ2 n2 vs H2 O2 k2 E2 S2 i2 => ⟨by rw [i2.length]; exact k2.1,
    spD_use hK E2 x (.cons (i1.same S2) i2) k2.2 fun d n' v H' a b c i => q _ _ _ _ _ _ a b ((S1.trans S2).trans c) i⟩⟩) fun ws s2 ⟨zs, H2, I2, rz, l2, q2⟩ => ⟨I2.kIn, ?_⟩
  rw [hks]
  exact run_kw (us := [.ref a]) (vs := [.ref a]) (E := WE xk) F (hr.mono l) hb (hx σ) I2 (.cons rfl .nil) rz rfl (rz.length.symm.trans l2) q2
theorem kl1 {t : CE} (ds : List D) (ρ : En) (n : Nat) (k : List D → En → Nat → Prop) (ke : KE) (h : cCons t cNil ρ n k ke) (hm : ∀ {k k' : D → En → Nat → Prop}, (∀ d ρ n, k d ρ n → k' d ρ n) → t ρ n k ke → t ρ n k' ke) : cCons t cNil ρ n (fun ds ρ' n' => ds.length = 1 ∧ k ds ρ' n') ke := hm (fun d ρ n h => ⟨rfl, h⟩) h
end
end RM
namespace RM
open PySem PySem.Spec PyProof.Rows L2 CS RZ
/-! ### the errors of a program, beside one another -/
structure ErX (K : PySem.W.Frag) (g : Glob) (ms : List Nat) (fs : List Str) (vb : Nat → Bool) : Prop where
  csx : ∀ c ∈ ms, PySem.W.CsxC K (g.cls c)
  xf : ∀ c ∈ ms, XfC K (g.cls c)
  no : ∀ c ∈ ms, ∀ f ∈ fs, PySem.W.findIn K (.ref (g.cls c)) f = some none
  kit : ∀ c ∈ ms, ∀ d ∈ ms, PySem.W.kitOne K (.ref (g.cls c)) (.ref (g.cls d)) = some (decide (c = d))
  exm : ∀ c ∈ ms, ∀ d ∈ ms, PySem.W.exmOne K (.ref (g.cls c)) (.ref (g.cls d)) = some (decide (c = d))
  kv : ∀ c ∈ ms, PySem.W.kitOne K (.ref (g.cls c)) (.type "ValueError") = some (vb c)
  kl : ∀ c ∈ ms, PySem.W.kitOne K (.ref (g.cls c)) (.type "LookupError") = some (!vb c)
section
variable {K : PySem.W.Frag} {g : Glob} {ms : List Nat} {fs : List Str} {vb : Nat → Bool}
theorem ErX.any (x : ErX K g ms fs vb) {c : Nat} (hc : c ∈ ms) : ∀ {cns : List Nat}, (∀ d ∈ cns, d ∈ ms) → PySem.W.exmAny K (.ref (g.cls c)) (cns.map fun d => .ref (g.cls d)) = some (decide (c ∈ cns))
  | [], _ => by
    show some false = _
    simp
  | d :: cns, h => by
    have h1 := x.exm c hc d (h d (List.mem_cons_self ..))
    have h2 := x.any hc (cns := cns) fun e he => h e (List.mem_cons_of_mem _ he)
    rw [List.map_cons]
    unfold PySem.W.exmAny
    rw [h1, h2]
    by_cases a : c = d
    · simp [a]
    · simp [a]
def cxB (K : PySem.W.Frag) (C : Addr) : Bool := (PySem.W.findIn K (.ref C) "__getattribute__" == some (some (.builtin "BaseException.__getattribute__"))) && ((PySem.W.findIn K (.ref C) "__getattr__" == some none) && ((PySem.W.subIn K (.ref C) (.type "BaseException") == some true) && (PySem.W.hasDictIn K C && ((PySem.W.findIn K (.ref C) "__class__" == some (some (.builtin "object.__class__"))) && ((PySem.W.specialIn K (.builtin "object.__class__") "__get__" == some (some (.builtin "getset_descriptor.__get__"))) && ((PySem.W.takesIn K (.builtin "object.__class__") == some true) && (PySem.W.mroIn K C (.type "object") == some true)))))))
theorem cxB_ok {C : Addr} (h : cxB K C = true) : PySem.W.CsxC K C ∧ XfC K C := by
  unfold cxB at h
  simp only [Bool.and_eq_true, beq_iff_eq] at h
  obtain ⟨h1, h2, h3, h4, h5, h6, h7, h8⟩ := h
  exact ⟨⟨h1, h2, h3, h4, h5, h6, h7, h8⟩, ⟨h1, h2, h3, h4⟩⟩
def erxB (K : PySem.W.Frag) (cl : List (Nat × Addr)) (fs : List Str) (vb : Nat → Bool) : Bool := cl.all fun p => cxB K p.2 && (noB K p.2 fs && ((cl.all fun q => (PySem.W.kitOne K (.ref p.2) (.ref q.2) == some (decide (p.1 = q.1))) && (PySem.W.exmOne K (.ref p.2) (.ref q.2) == some (decide (p.1 = q.1)))) && ((PySem.W.kitOne K (.ref p.2) (.type "ValueError") == some (vb p.1)) && (PySem.W.kitOne K (.ref p.2) (.type "LookupError") == some (!vb p.1)))))
theorem erx_ok {cl : List (Nat × Addr)} (h : erxB K cl fs vb = true) (hg : ∀ p ∈ cl, g.cls p.1 = p.2) : ErX K g (cl.map Prod.fst) fs vb := by
  unfold erxB at h
  simp only [List.all_eq_true, Bool.and_eq_true, beq_iff_eq] at h
  have at_ : ∀ c ∈ cl.map Prod.fst, ∃ p ∈ cl, p.1 = c ∧ g.cls c = p.2 := fun c hc => by
    obtain ⟨p, hp, rfl⟩ := List.mem_map.mp hc
    exact ⟨p, hp, rfl, hg p hp⟩
  refine ⟨fun c hc => ?_, fun c hc => ?_, fun c hc f hf => ?_, fun c hc d hd => ?_, fun c hc d hd => ?_, fun c hc => ?_, fun c hc => ?_⟩ <;> obtain ⟨p, hp, rfl, e⟩ := at_ c hc <;> rw [e]
  · exact (cxB_ok (h p hp).1).1
  · exact (cxB_ok (h p hp).1).2
  · exact noB_at (h p hp).2.1 hf
  · obtain ⟨q, hq, rfl, e2⟩ := at_ d hd
    rw [e2]
    exact ((h p hp).2.2.1 q hq).1
  · obtain ⟨q, hq, rfl, e2⟩ := at_ d hd
    rw [e2]
    exact ((h p hp).2.2.1 q hq).2
  · exact (h p hp).2.2.2.1
  · exact (h p hp).2.2.2.2
end
end RM
namespace RM
open PySem PySem.Spec PyProof.Rows L2 CS RZ
/-! ### isinstance of two built-in types -/
def cIsK (o : Opd) (a b : String) : CE := fun ρ n k ke => cOpd o ρ n (fun get ρ1 n1 => ∃ d t, get ρ1 = some d ∧ kindD d = some t ∧ k (.bool (decide (t = a ∨ t = b))) ρ1 n1) ke
def kit2B (a b : String) : Bool := kinds.all fun t => (kitB t a == some (decide (t = a))) && (kitB t b == some (decide (t = b)))
theorem kit2_at {K : PySem.W.Frag} {a b t : String} (h : kit2B a b = true) (ht : t ∈ kinds) : PySem.W.kitAny K (.type t) [.type a, .type b] = some (decide (t = a ∨ t = b)) := by
  unfold kit2B at h
  simp only [List.all_eq_true, Bool.and_eq_true, beq_iff_eq] at h
  obtain ⟨h1, h2⟩ := h t ht
  by_cases c : t = a
  · exact kitAny_cons (kit_ty h1) (fun z => by simp [c] at z) (fun _ => by simp [c])
  · refine kitAny_cons (kit_ty h1) (fun _ => ?_) (fun z => by simp [c] at z)
    refine kitAny_cons (kit_ty h2) (fun z => ?_) (fun z => ?_)
    · have : ¬ t = b := by simpa using z
      simp [c, this]
      rfl
    · have : t = b := by simpa using z
      simp [this]
section
variable {X : Cx} {g : Glob} {xk : WX} {pos p : Pos}
theorem pd_isK {e : Expr} {o : Opd} {x y : Str} {a b : String} {px py pt : Pos} {kk} (G : Good X g) (hk : kit2B a b = true) (h : PDQ X g xk e o) (gx : Gl X x) (mx : X.mg x = none) (vx : bootBuiltins x = some (.type a)) (gy : Gl X y) (my : X.mg y = none) (vy : bootBuiltins y = some (.type b)) (hg : Gl X "isinstance") (hm : X.mg "isinstance" = none)
    (nx : x ≠ "__name__" := by decide) (dx : (x == ("__debug__" : Str)) = false := by decide) (ny : y ≠ "__name__" := by decide) (dy : (y == ("__debug__" : Str)) = false := by decide)
    (hs : starEach [e, .Tuple [.Name x px, .Name y py] kk pt] X.env = (false, eval e X.env) :: starEach [.Tuple [.Name x px, .Name y py] kk pt] X.env := by rfl) (hs2 : starEach [.Tuple [.Name x px, .Name y py] kk pt] X.env = (false, eval (.Tuple [.Name x px, .Name y py] kk pt) X.env) :: starEach [] X.env := by rfl)
    (hs3 : starEach [.Name x px, .Name y py] X.env = (false, eval (.Name x px) X.env) :: starEach [.Name y py] X.env := by rfl) (hs4 : starEach [.Name y py] X.env = (false, eval (.Name y py) X.env) :: starEach [] X.env := by rfl)
    (hpl : (backTo pos (starEach [.Tuple [.Name x px, .Name y py] kk pt] X.env)).any (·.1) = false := by rfl) : PD X g xk (.Call (.Name "isinstance" p) [e, .Tuple [.Name x px, .Name y py] kk pt] [] pos) (cIsK o a b) := by
  refine ⟨PE.imp (pe_callB call_isiT hg hm (by decide +kernel) (pa_cons h.pe (pa_cons (pe_tup (pa_cons (pe_bltn (v := .ty a) gx mx vx rfl nx dx) (pa_cons (pe_bltn (v := .ty b) gy my vy rfl ny dy) pa_nil hs4) hs3)) pa_nil hs2) hs) (by decide) (by decide) hs hpl) fun σ H Q r => ?_⟩
  obtain ⟨C, ρ, n, O, k, ke, hK, E, t, x, q⟩ := r
  refine ⟨C, ρ, n, O, _, ke, hK, E, t, x, fun get ρ1 n1 v H1 O1 k1 E1 S1 p1 => ?_⟩
  obtain ⟨d, t, h1, h2, k1⟩ := k1
  refine ⟨(by show 2 ≤ sizeLine; decide), fun tp ntp => ?_⟩
  obtain ⟨E2, S2, e2⟩ := E1.new (o := .tup [.ty a, .ty b]) ntp
  have iv := kind_ty (((p1 _ _ _ _ _ E1 (Same.refl _) h1).is hid_le).same (same_new (o := .tup [V.ty a, V.ty b]) ntp)) h2
  exact ⟨v, tp, [.ty a, .ty b], .type t, [.type a, .type b], _, rfl, upd_same, .cons (.ty a) (.cons (.ty b) .nil), (hK.1.trans G.K) ▸ iv, kit2_at hk (kind_mem h2), q _ _ _ _ _ _ k1 E2 (S1.trans S2) (.bl _)⟩
end
/-! ### lists for tuples, at any depth -/
mutual
def listsD : D → D
  | .list ds => .list (listsDs ds)
  | .tuple ds => .list (listsDs ds)
  | d => d
def listsDs : List D → List D
  | [] => []
  | d :: ds => listsD d :: listsDs ds
end
theorem listsDs_map : ∀ ds : List D, listsDs ds = ds.map listsD
  | [] => rfl
  | d :: ds => by
    show listsD d :: listsDs ds = _
    rw [listsDs_map ds]
    rfl
def sdLists (m : Nat) : SpD := fun ds n k _ => ∃ x, ds = [x] ∧ okS m x ∧ k (listsD x) n
def cs_lists (m : Nat) : CS := cRet (cIf (cB (cIsK (.nm 0) "list" "tuple")) (cLc (cSeq (cVar 0)) (stN 1) (cYes) (cCall (sdLists m) (cCons (cVar 1) (cNil))) [1]) (cVar 0))
theorem himp_lists (m : Nat) {e : EndsD} (ds : List D) (n : Nat) (k : D → Nat → Prop) (ke : Xv → Nat → Prop) (h : sdLists (m + 1) ds n k ke) (he : e.rt = k) : cs_lists m (startE ["_law_matter", "_law_bit"] ds) n e := by
  obtain ⟨x, rfl, ok, q⟩ := h
  subst he
  have go : ∀ (xs : List D), seqD x = some xs → xs.length ≤ 1000 → (∀ d ∈ xs, okS m d) → listsD x = .list (xs.map listsD) → cLc (cSeq (cVar 0)) (stN 1) (cYes) (cCall (sdLists m) (cCons (cVar 1) (cNil))) [1] [some (.v x), none] n (fun d _ n' => e.rt d n') e.xc := fun xs h1 h2 h3 h4 => by
    refine ⟨xs, h1, ?_⟩
    refine lcL_run (fun d => some (listsD d)) xs [] (fun d hd => ⟨_, rfl, rfl, fun K1 hK => hK, fun y hy K2 hK => ?_⟩) (by rw [List.length_nil]; unfold lim; omega) ?_
    · cases hy
      exact ⟨d, rfl, h3 d hd, hK⟩
    · rw [List.nil_append]
      have : xs.filterMap (fun d => some (listsD d)) = xs.map listsD := by rw [List.filterMap_eq_map']
      rw [this, ← h4]
      exact q
  cases x with
  | list xs => exact ⟨rfl, _, _, rfl, rfl, _, rfl, go xs rfl ok.1 ok.2 (by show PyData.list (listsDs xs) = _; rw [listsDs_map])⟩
  | tuple xs => exact ⟨rfl, _, _, rfl, rfl, _, rfl, go xs rfl ok.1 ok.2 (by show PyData.list (listsDs xs) = _; rw [listsDs_map])⟩
  | dict xs => exact ok.elim
  | none => exact ⟨rfl, _, _, rfl, rfl, _, rfl, q⟩
  | bool b => exact ⟨rfl, _, _, rfl, rfl, _, rfl, q⟩
  | int b => exact ⟨rfl, _, _, rfl, rfl, _, rfl, q⟩
  | str b => exact ⟨rfl, _, _, rfl, rfl, _, rfl, q⟩
end RM
namespace RM
open PySem PySem.Spec PyProof.Rows L2 CS RZ
/-! ### k05: Counts that are none -/
def inPl (s : Str) (l : List Tri) (a : Str) : Bool := decide (a = s) || l.any fun t => decide (t.1 = a) || decide (t.2.1 = a)
theorem inPl_iff {s a : Str} {l : List Tri} : inPl s l a = true ↔ a = s ∨ ends l a := by
  unfold inPl ends
  simp
def sdM_check : SpD := fun ds n k ke => ∃ s l a, ds = [cntD s l, .str a] ∧ GoodS s ∧ GoodS a ∧ GoodL l ∧ l.length ≤ 30 ∧ if inPl s l a = true then k .none n else ke (cNoPlace, errF ["place"] [.str a]) n
def dueT (s : Str) (l : List Tri) : D := match l.find? stillT with
  | some t => .list [.str "still", .str t.1]
  | none => match l.find? belowT with
    | some t => .list [.str "below", .str t.1, .str t.2.1, .int t.2.2]
    | none => .list [.str "made", .str s]
def sdHeard : SpD := fun ds n k _ => ∃ s x rows l, ds = [.str s, x] ∧ seqD x = some rows ∧ RowsAre rows l ∧ GoodL l ∧ l.length ≤ 1000 ∧ k (dueT s l) n
def sdDue : SpD := fun ds n k _ => ∃ s l, ds = [.str s, .list (trisD l)] ∧ GoodS s ∧ GoodL l ∧ l.length ≤ 1000 ∧ k (dueT s l) n
def sdSpots : SpD := fun ds n k _ => ∃ s l, ds = [.str s, .tuple (trisD l)] ∧ GoodS s ∧ GoodL l ∧ l.length ≤ 30 ∧ ∀ ys : List Str, ys.Nodup → (∀ p, p ∈ ys ↔ p = s ∨ ends l p) → sortedS ys = true → k (.list (strD ys)) n
def sdChecked : SpD := fun ds n k _ => ∃ s l a, ds = [cntD s l, .str a] ∧ GoodS s ∧ GoodS a ∧ GoodL l ∧ l.length ≤ 30 ∧ k (if inPl s l a = true then .none else .list [.str a, .bool true]) n
def cs_Counts_check : CS := cIfS (cB (cOp ninD (cVar 1) (cProp sdP_places (cVar 0) cCnt))) (cRaise cNoPlace ["place"] (cCons (cVar 1) (cNil))) (cNext)
abbrev n_Counts_check : List Str := ["self", "place"]
def cs_spots : CS := cSq (cSet 2 (cLst (cCons (cVar 0) (cNil)))) (cSq (cFor (cSeq (cVar 1)) (stN 3) (cSet 2 (cOp addD (cVar 2) (cLc (cSeq (cSl (cVar 3) (cNo) (cPart (cC (.int 2))))) (stN 4) (cB (cOp ninD (cVar 4) (cVar 2))) (cVar 4) [4])))) (cRet (cSortSet (cLc (cSeq (cVar 2)) (stN 4) (cYes) (cCB gStr (cCons (cVar 4) (cNil))) [4]))))
abbrev n_spots : List Str := ["_law_first_so", "_law_rows_so", "_law_found", "_law_own", "_law_tag"]
def cs_heard : CS := cSq (cAsg (stT (stCons (stN 3) (stCons (stN 4) (stNil)))) (cTup (cCons (cC .none) (cCons (cC .none) (cNil))))) (cSq (cTryT [cStill, cBelow, cShort, cNoPlace] [cNoPlace, cStill, cBelow, cShort] 2 (cSet 3 (cMake cCnt sdInit (cCons (cVar 0) (cCons (cVar 1) (cNil))))) (cSet 4 (cVar 2))) (cSq (cIfS (cB (cOp isN (cVar 4) (cC .none))) (cRet (cLst (cCons (cC (.str "made")) (cCons (cProp sdP_start (cVar 3) cCnt) (cNil))))) (cNext)) (cSq (cIfS (cAndT (cB (cIsX (.nm 4) [cNoPlace, cStill, cBelow, cShort] (fun c => decide (c = cStill)))) (cAndT (cB (cIsX (.nm 4) [cNoPlace, cStill, cBelow, cShort] (fun c => decide (c ≠ 0)))) (cNotT (cB (cIsX (.nm 4) [cNoPlace, cStill, cBelow, cShort] (fun c => decide (c = cBelow))))))) (cRet (cLst (cCons (cC (.str "still")) (cCons (cXFld (.nm 4) [cNoPlace, cStill, cBelow, cShort] "place") (cNil))))) (cNext)) (cSq (cIfS (cAndT (cB (cIsX (.nm 4) [cNoPlace, cStill, cBelow, cShort] (fun c => decide (c = cBelow)))) (cAndT (cB (cIsX (.nm 4) [cNoPlace, cStill, cBelow, cShort] (fun c => decide (c ≠ 0)))) (cNotT (cB (cIsX (.nm 4) [cNoPlace, cStill, cBelow, cShort] (fun c => decide (c = cShort))))))) (cRet (cLst (cCons (cC (.str "below")) (cCons (cXFld (.nm 4) [cNoPlace, cStill, cBelow, cShort] "one") (cCons (cXFld (.nm 4) [cNoPlace, cStill, cBelow, cShort] "other") (cCons (cXFld (.nm 4) [cNoPlace, cStill, cBelow, cShort] "number") (cNil))))))) (cNext)) (cRet (cC (.str "other")))))))
abbrev n_heard : List Str := ["_law_first_so", "_law_rows_so", "error_so", "_law_told", "_law_caught"]
def cs_due : CS := cSq (cOwn 2 (cLc (cSeq (cVar 1)) (stN 4) (cB (cOp eqD (cOp atD (cVar 4) (cC (.int 0))) (cOp atD (cVar 4) (cC (.int 1))))) (cVar 4) [4])) (cSq (cOwn 3 (cLc (cSeq (cVar 1)) (stN 4) (cB (cOp ltD (cOp atD (cVar 4) (cC (.int 2))) (cC (.int 0)))) (cVar 4) [4])) (cSq (cIfS (cB (cOp neD (cVar 2) (cLst (cNil)))) (cRet (cLst (cCons (cC (.str "still")) (cCons (cOp atD (cOp atD (cVar 2) (cC (.int 0))) (cC (.int 0))) (cNil))))) (cNext)) (cRet (cIf (cB (cOp neD (cVar 3) (cLst (cNil)))) (cOp addD (cLst (cCons (cC (.str "below")) (cNil))) (cCF gList' (cCons (cOp atD (cVar 3) (cC (.int 0))) (cNil)))) (cLst (cCons (cC (.str "made")) (cCons (cVar 0) (cNil))))))))
abbrev n_due : List Str := ["_law_first_so", "_law_rows_so", "_law_still_so", "_law_low_so", "_law_own"]
def cs_checked : CS := cSq (cAsg (stT (stCons (stN 3) (stCons (stN 4) (stNil)))) (cTup (cCons (cC .none) (cCons (cC (.int 7)) (cNil))))) (cSq (cTryT [cNoPlace] [cNoPlace, cStill, cBelow, cShort] 2 (cSet 4 (cMeth sdM_check (cVar 0) (cCons (cVar 1) (cNil)) cCnt "check")) (cSet 3 (cVar 2))) (cSq (cIfS (cB (cOp isN (cVar 3) (cC .none))) (cRet (cVar 4)) (cNext)) (cRet (cLst (cCons (cXFld (.nm 3) [cNoPlace, cStill, cBelow, cShort] "place") (cCons (cIsX (.nm 3) [cNoPlace, cStill, cBelow, cShort] (fun c => !(fun c => decide (c ≠ 0)) c)) (cNil)))))))
abbrev n_checked : List Str := ["_law_made", "_law_tag", "error_so", "_law_caught", "_law_told"]

theorem anyD_str (ys : List Str) (a : Str) : anyD (strD ys) (.str a) = decide (a ∈ ys) := by
  unfold anyD strD
  rw [List.any_map]
  induction ys with
  | nil => rfl
  | cons y ys ih =>
    rw [List.any_cons, ih]
    show (PyData.eqv (.str y) (.str a) || _) = _
    rw [RM.eqv_str]
    by_cases c : y = a
    · simp [c]
    · simp [c, Ne.symm c]
theorem OkN.strsL {ys : List Str} (h : ∀ y ∈ ys, GoodS y) : OkN 1 (.list (strD ys)) := OkN.list fun d hd => by
  obtain ⟨y, hy, rfl⟩ := List.mem_map.mp hd
  exact .str 0 (h y hy)
theorem memD_tup {ys : List Str} {a : Str} (h : ∀ y ∈ ys, GoodS y) (ha : GoodS a) : memD (.str a) (.tuple (strD ys)) = some (decide (a ∈ ys)) := by
  show (if (okE (.str a) && okE (.tuple (strD ys))) = true then some (anyD (strD ys) (.str a)) else none) = _
  rw [(OkN.str 0 ha).ok (by decide), (OkN.strs h).ok (by decide), if_pos (show (true && true) = true from rfl), anyD_str]
theorem memD_lst {ys : List Str} {a : Str} (h : ∀ y ∈ ys, GoodS y) (ha : GoodS a) : memD (.str a) (.list (strD ys)) = some (decide (a ∈ ys)) := by
  show (if (okE (.str a) && okE (.list (strD ys))) = true then some (anyD (strD ys) (.str a)) else none) = _
  rw [(OkN.str 0 ha).ok (by decide), (OkN.strsL h).ok (by decide), if_pos (show (true && true) = true from rfl), anyD_str]
theorem good_ends {s : Str} {l : List Tri} (hs : GoodS s) (hg : GoodL l) {p : Str} (h : p = s ∨ ends l p) : GoodS p := by
  rcases h with rfl | ⟨t, ht, h⟩
  · exact hs
  · rcases h with rfl | rfl
    · exact (hg t ht).1
    · exact (hg t ht).2
theorem himp_Counts_check {e : EndsD} (ds : List D) (n : Nat) (k : D → Nat → Prop) (ke : Xv → Nat → Prop) (h : sdM_check ds n k ke) (hn : ∀ ρ n, k .none n → e.nx ρ n) (hx : ∀ x ρ n, ke x n → e.xc x ρ n) : cs_Counts_check (startE ["self", "place"] ds) n e := by
  obtain ⟨s, l, a, rfl, gs, ga, hg, hl, q⟩ := h
  refine ⟨⟨_, rfl⟩, s, l, rfl, hl, fun ys y1 y2 y3 => ?_⟩
  refine ⟨.bool (!decide (a ∈ ys)), by show (memD _ _).map _ = _; rw [memD_tup (fun y hy => good_ends gs hg ((y2 y).mp hy)) ga]; rfl, _, rfl, ?_⟩
  have e1 : decide (a ∈ ys) = inPl s l a := by
    rw [Bool.eq_iff_iff, decide_eq_true_iff, inPl_iff, y2]
  rw [e1]
  cases c : inPl s l a with
  | true =>
    rw [c, if_pos rfl] at q
    exact hn _ _ q
  | false =>
    rw [c, if_neg (by simp)] at q
    exact ⟨rfl, hx _ _ _ q⟩
theorem himp_heard {e : EndsD} (ds : List D) (n : Nat) (k : D → Nat → Prop) (ke : Xv → Nat → Prop) (h : sdHeard ds n k ke) (he : e.rt = k) : cs_heard (startE n_heard ds) n e := by
  obtain ⟨s, x, rows, l, rfl, hx, hr, hg, hl, q⟩ := h
  subst he
  refine ⟨by show 2 ≤ lim; decide, _, rfl, ?_⟩
  refine ⟨s, x, rows, l, rfl, hx, hr, hg, hl, ?_⟩
  unfold wrongT
  unfold dueT at q
  cases c : l.find? stillT with
  | some t =>
    rw [c] at q
    refine ⟨show cStill ∈ [cNoPlace, cStill, cBelow, cShort] by decide, ?_⟩
    rw [if_pos (show (stillX t).1 ∈ [cStill, cBelow, cShort, cNoPlace] by show cStill ∈ [cStill, cBelow, cShort, cNoPlace]; decide)]
    refine ⟨.bool false, rfl, false, rfl, ?_⟩
    refine ⟨rfl, cStill, _, rfl, by decide, _, rfl, ?_⟩
    refine ⟨rfl, cStill, _, rfl, by decide, _, rfl, ?_⟩
    refine ⟨rfl, cStill, _, rfl, by decide, _, rfl, ?_⟩
    refine ⟨rfl, cStill, _, _, rfl, by decide, rfl, by show 2 ≤ lim; decide, q⟩
  | none =>
    rw [c] at q
    cases c2 : l.find? belowT with
    | some t =>
      rw [c2] at q
      refine ⟨show cBelow ∈ [cNoPlace, cStill, cBelow, cShort] by decide, ?_⟩
      rw [if_pos (show (belowX t).1 ∈ [cStill, cBelow, cShort, cNoPlace] by show cBelow ∈ [cStill, cBelow, cShort, cNoPlace]; decide)]
      refine ⟨.bool false, rfl, false, rfl, ?_⟩
      refine ⟨rfl, cBelow, _, rfl, by decide, _, rfl, ?_⟩
      refine ⟨rfl, cBelow, _, rfl, by decide, _, rfl, ?_⟩
      refine ⟨rfl, cBelow, _, rfl, by decide, _, rfl, ?_⟩
      refine ⟨rfl, cBelow, _, rfl, by decide, _, rfl, ?_⟩
      refine ⟨rfl, cBelow, _, _, rfl, by decide, rfl, ?_⟩
      refine ⟨rfl, cBelow, _, _, rfl, by decide, rfl, ?_⟩
      exact ⟨rfl, cBelow, _, _, rfl, by decide, rfl, by show 4 ≤ lim; decide, q⟩
    | none =>
      rw [c2] at q
      refine ⟨.bool true, rfl, true, rfl, ?_⟩
      exact ⟨⟨_, rfl⟩, s, canon l, rfl, by show 2 ≤ lim; decide, q⟩
theorem find_filter {α : Type} (f : α → Bool) : ∀ l : List α, (l.filter f).head? = l.find? f
  | [] => rfl
  | x :: l => by
    rw [List.filter_cons, List.find?_cons]
    cases f x with
    | true => rfl
    | false => exact find_filter f l
theorem OkN.trisL {l : List Tri} (h : GoodL l) : OkN 2 (.list (trisD l)) := OkN.list fun d hd => by
  obtain ⟨t, ht, rfl⟩ := List.mem_map.mp hd
  exact OkN.tri (h t ht)
theorem neD_nil {l : List Tri} (h : GoodL l) : neD (.list (trisD l)) (.list []) = some (.bool (!l.isEmpty)) := by
  unfold neD
  rw [(OkN.trisL h).ok (by decide), (OkN.list (k := 0) (ds := []) (fun d hd => by cases hd)).ok (by decide), if_pos (show (true && true) = true from rfl)]
  cases l <;> simp [trisD, PyData.eqv, PyData.eqvAll]
theorem atI_zero {α : Type} (d : α) (ds : List α) : atI (d :: ds) 0 = some d := by
  unfold atI ixN
  rw [if_pos (by decide), if_pos (by rw [List.length_cons]; omega)]
  rfl
theorem himp_due {e : EndsD} (ds : List D) (n : Nat) (k : D → Nat → Prop) (ke : Xv → Nat → Prop) (h : sdDue ds n k ke) (he : e.rt = k) : cs_due (startE n_due ds) n e := by
  obtain ⟨s, l, rfl, gs, hg, hl, q⟩ := h
  subst he
  refine ⟨trisD l, rfl, ?_⟩
  refine part_run (f := stillT) (v := triD) hl (fun t ht => ⟨_, rfl, rfl, fun K1 hK => ?_, fun K2 hK => hK⟩) ⟨by show 2 < 5; decide, ?_⟩
  · exact ⟨_, rfl, _, rfl, _, eqD_str (hg t ht).1 (hg t ht).2, _, rfl, hK⟩
  refine ⟨trisD l, rfl, ?_⟩
  refine part_run (f := belowT) (v := triD) hl (fun t ht => ⟨_, rfl, rfl, fun K1 hK => ?_, fun K2 hK => hK⟩) ⟨by show 3 < 5; decide, ?_⟩
  · exact ⟨_, rfl, _, rfl, _, rfl, hK⟩
  have g1 : GoodL (l.filter stillT) := fun t ht => hg t (List.mem_filter.mp ht).1
  have g2 : GoodL (l.filter belowT) := fun t ht => hg t (List.mem_filter.mp ht).1
  have f1 := find_filter stillT l
  have f2 := find_filter belowT l
  unfold dueT at q
  refine ⟨by show 0 ≤ lim; decide, _, neD_nil g1, _, rfl, ?_⟩
  cases c1 : l.filter stillT with
  | cons t r =>
    rw [c1] at f1
    rw [← f1] at q
    exact ⟨triD t, atI_zero _ _, .str t.1, atI_zero _ _, by show 2 ≤ lim; decide, q⟩
  | nil =>
    rw [c1] at f1
    rw [← f1] at q
    refine ⟨by show 0 ≤ lim; decide, _, neD_nil g2, _, rfl, ?_⟩
    cases c2 : l.filter belowT with
    | cons t r =>
      rw [c2] at f2
      rw [← f2] at q
      refine ⟨by show 1 ≤ lim; decide, triD t, atI_zero _ _, [.str t.1, .str t.2.1, .int t.2.2], ?_, _, rfl, q⟩
      exact .inl ⟨_, rfl, rfl⟩
    | nil =>
      rw [c2] at f2
      rw [← f2] at q
      exact ⟨by show 2 ≤ lim; decide, q⟩
/-! places, gathered -/
def newF (fs : List Str) : D → Option D
  | .str a => if a ∈ fs then none else some (.str a)
  | _ => none
def newS (fs : List Str) (a : Str) : List Str := if a ∈ fs then [] else [a]
theorem newF_str (fs : List Str) (a : Str) : newF fs (.str a) = if a ∈ fs then none else some (.str a) := rfl
theorem newF_all (fs : List Str) (a b : Str) : [PyData.str a, .str b].filterMap (newF fs) = strD (newS fs a ++ newS fs b) := by
  rw [List.filterMap_cons, List.filterMap_cons, newF_str, newF_str]
  unfold newS strD
  by_cases h1 : a ∈ fs <;> by_cases h2 : b ∈ fs <;> simp [h1, h2]
theorem spots_loop {e : EndsD} {s : Str} {x : D} {n : Nat} : ∀ (ts l : List Tri) (fs : List Str) (t3 : Option Sl), GoodS s → GoodL (l ++ ts) → (∀ p, p ∈ fs ↔ p = s ∨ ends l p) → fs.length ≤ 1 + 2 * l.length → l.length + ts.length ≤ 30 →
    (∀ (fs : List Str) (t3 : Option Sl), (∀ p, p ∈ fs ↔ p = s ∨ ends (l ++ ts) p) → fs.length ≤ 61 → e.nx [some (.v (.str s)), some (.v x), some (.v (.list (strD fs))), t3, none] n) →
    cForL (stN 3) (cSet 2 (cOp addD (cVar 2) (cLc (cSeq (cSl (cVar 3) (cNo) (cPart (cC (.int 2))))) (stN 4) (cB (cOp ninD (cVar 4) (cVar 2))) (cVar 4) [4]))) (trisD ts) [some (.v (.str s)), some (.v x), some (.v (.list (strD fs))), t3, none] n e
  | [], l, fs, t3, gs, hg, h1, h2, h3, q => by
    rw [List.append_nil] at q
    exact q fs t3 h1 (by simp at h3; omega)
  | t :: ts, l, fs, t3, gs, hg, h1, h2, h3, q => by
    rw [List.length_cons] at h3
    refine ⟨_, rfl, ?_⟩
    refine ⟨2, rfl, _, rfl, [.str t.1, .str t.2.1], rfl, ?_⟩
    have gl : GoodL l := fun t ht => hg t (List.mem_append_left _ ht)
    have gt : GoodP (pr t) := hg t (List.mem_append_right _ (List.mem_cons_self ..))
    have gf : ∀ p ∈ fs, GoodS p := fun p hp => good_ends gs gl ((h1 p).mp hp)
    show cLcL _ _ _ _ _ [some (.v (.str s)), some (.v x), some (.v (.list (strD fs))), some (.v (triD t)), none] n [] _
    refine lcL_run (newF fs) _ [] (fun d hd => ?_) (by show 0 + 2 ≤ lim; decide) ?_
    · obtain ⟨a, rfl, ga⟩ : ∃ a, d = .str a ∧ GoodS a := by
        rcases List.mem_cons.mp hd with rfl | hd
        · exact ⟨_, rfl, gt.1⟩
        · exact ⟨_, List.mem_singleton.mp hd, gt.2⟩
      refine ⟨_, rfl, rfl, fun K1 hK => ⟨.bool (!decide (a ∈ fs)), by show (memD _ _).map _ = _; rw [memD_lst gf ga]; rfl, _, rfl, ?_⟩, fun y hy K2 hK => ?_⟩
      · rw [newF_str] at hK
        by_cases c : a ∈ fs
        · rw [if_pos c] at hK
          rw [decide_eq_true c]
          exact hK
        · rw [if_neg c] at hK
          rw [decide_eq_false c]
          exact hK
      · rw [newF_str] at hy
        by_cases c : a ∈ fs
        · rw [if_pos c] at hy
          cases hy
        · rw [if_neg c] at hy
          cases hy
          exact hK
    · rw [List.nil_append, newF_all]
      have lf : ∀ a : Str, (newS fs a).length ≤ 1 := fun a => by unfold newS; split <;> simp
      have l1 := lf t.1
      have l2 := lf t.2.1
      have e1 : l ++ t :: ts = (l ++ [t]) ++ ts := by rw [List.append_assoc]; rfl
      refine ⟨.list (strD (fs ++ (newS fs t.1 ++ newS fs t.2.1))), ?_, ?_⟩
      · show (if (strD fs).length + (strD (newS fs t.1 ++ newS fs t.2.1)).length ≤ lim then some (PyData.list (strD fs ++ strD (newS fs t.1 ++ newS fs t.2.1))) else none) = _
        rw [if_pos (by rw [strD_len, strD_len, List.length_append]; unfold lim; omega)]
        unfold strD
        rw [← List.map_append]
      · refine spots_loop ts (l ++ [t]) _ _ gs (by rw [← e1]; exact hg) (fun p => ?_) (by rw [List.length_append, List.length_append, List.length_append, List.length_singleton]; omega) (by rw [List.length_append, List.length_singleton]; omega) (by rw [← e1]; exact q)
        rw [List.mem_append, List.mem_append, h1]
        have ha : ∀ a : Str, p ∈ newS fs a → p = a := fun a => by unfold newS; split <;> simp
        have hb : ∀ a : Str, a ∈ fs ∨ a ∈ newS fs a := fun a => by
          unfold newS
          by_cases c : a ∈ fs
          · exact .inl c
          · exact .inr (by simp [c])
        constructor
        · rintro ((z | ⟨u, hu, z⟩) | (z | z))
          · exact .inl z
          · exact .inr ⟨u, List.mem_append_left _ hu, z⟩
          · exact .inr ⟨t, by simp, .inl (ha _ z).symm⟩
          · exact .inr ⟨t, by simp, .inr (ha _ z).symm⟩
        · rintro (z | ⟨u, hu, z⟩)
          · exact .inl (.inl z)
          · rcases List.mem_append.mp hu with hu | hu
            · exact .inl (.inr ⟨u, hu, z⟩)
            · rw [List.mem_singleton.mp hu] at z
              rcases z with rfl | rfl
              · exact (hb t.1).imp (fun y => (h1 _).mp y) .inl
              · exact (hb t.2.1).imp (fun y => (h1 _).mp y) .inr
theorem himp_spots {e : EndsD} (ds : List D) (n : Nat) (k : D → Nat → Prop) (ke : Xv → Nat → Prop) (h : sdSpots ds n k ke) (he : e.rt = k) : cs_spots (startE n_spots ds) n e := by
  obtain ⟨s, l, rfl, gs, hg, hl, q⟩ := h
  subst he
  refine ⟨by show 1 ≤ lim; decide, trisD l, rfl, ?_⟩
  refine spots_loop l [] [s] none gs hg (fun p => ?_) (by simp) (by simpa using hl) fun fs t3 h1 h2 => ?_
  · rw [List.mem_singleton]
    exact ⟨.inl, fun z => z.elim id fun ⟨t, ht, _⟩ => by cases ht⟩
  · refine ⟨strD fs, rfl, ?_⟩
    show cLcL _ _ _ _ _ [some (.v (.str s)), some (.v (.tuple (trisD l))), some (.v (.list (strD fs))), t3, none] n [] _
    refine lcL_run (fun d => some d) _ [] (fun d hd => ?_) (by rw [strD_len, List.length_nil]; unfold lim; omega) ?_
    · obtain ⟨a, _, rfl⟩ := List.mem_map.mp hd
      exact ⟨_, rfl, rfl, fun K1 hK => hK, fun y hy K2 hK => ⟨.str a, .inr ⟨a, rfl, rfl⟩, by cases hy; exact hK⟩⟩
    · rw [List.nil_append, show (strD fs).filterMap (fun d => some d) = strD fs by simp]
      exact ⟨fs, rfl, by omega, fun ys y1 y2 y3 => q ys y1 (fun p => (y2 p).trans (h1 p)) y3⟩
theorem himp_checked {e : EndsD} (ds : List D) (n : Nat) (k : D → Nat → Prop) (ke : Xv → Nat → Prop) (h : sdChecked ds n k ke) (he : e.rt = k) : cs_checked (startE n_checked ds) n e := by
  obtain ⟨s, l, a, rfl, gs, ga, hg, hl, q⟩ := h
  subst he
  refine ⟨by show 2 ≤ lim; decide, _, rfl, ?_⟩
  refine ⟨⟨_, rfl, rfl⟩, s, l, a, rfl, gs, ga, hg, hl, ?_⟩
  cases c : inPl s l a with
  | true =>
    rw [c, if_pos rfl] at q
    rw [if_pos rfl]
    exact ⟨.bool true, rfl, true, rfl, q⟩
  | false =>
    rw [c, if_neg (by simp)] at q
    rw [if_neg (by simp)]
    refine ⟨show cNoPlace ∈ [cNoPlace, cStill, cBelow, cShort] by decide, ?_⟩
    rw [if_pos (show cNoPlace ∈ [cNoPlace] by decide)]
    refine ⟨.bool false, rfl, false, rfl, ?_⟩
    refine ⟨rfl, cNoPlace, _, _, rfl, by decide, rfl, ?_⟩
    exact ⟨rfl, cNoPlace, _, rfl, by decide, by show 2 ≤ lim; decide, q⟩
end RM
set_option maxHeartbeats 4000000
namespace RM
open PySem PySem.Spec PyProof.Rows L2 CS RZ
/-! ### k05, drawn -/
def a1 : CS := cSet 2 (cCall sdTags (cCons (cVar 0) (cCons (cOp addD (cC (.int 2)) (cCall sdTake (cCons (cVar 0) (cCons (cC (.int 4)) (cNil))))) (cNil))))
def a2 : CS := cOwn 3 (cCF gList' (cCons (cCall sdStrewn (cCons (cVar 0) (cCons (cVar 2) (cCons (cC (.int 6)) (cCons (cC (.int 4)) (cNil)))))) (cNil)))
def a3 : CS := cFor (cRange1 (cCons (cCall sdTake (cCons (cVar 0) (cCons (cC (.int 3)) (cNil)))) (cNil))) (stN 4) (cSq (cSet 7 (cCall sdOf (cCons (cVar 0) (cCons (cLst (cCons (cTup (cCons (cOp atD (cVar 2) (cC (.int 0))) (cCons (cOp atD (cVar 2) (cC (.int 0))) (cCons (cC (.int 1)) (cNil))))) (cCons (cTup (cCons (cOp atD (cVar 2) (cC (.int 1))) (cCons (cOp atD (cVar 2) (cC (.int 0))) (cCons (cOp subD (cNeg (cC (.int 1))) (cCall sdTake (cCons (cVar 0) (cCons (cC (.int 9)) (cNil))))) (cNil))))) (cCons (cTup (cCons (cOp atD (cVar 2) (cC (.int 1))) (cCons (cOp atD (cVar 2) (cC (.int 1))) (cCons (cNeg (cC (.int 2))) (cNil))))) (cNil))))) (cNil))))) (cDrop (cMut 3 (cCons (cCall sdTake (cCons (cVar 0) (cCons (cOp addD (cCBQ gLen (.nm 3)) (cC (.int 1))) (cNil)))) (cCons (cVar 7) (cNil))) uIns)))
def a4 : CS := cSet 5 (cCall sdDue (cCons (cOp atD (cVar 2) (cC (.int 0))) (cCons (cVar 3) (cNil))))
def a5 : CS := cSet 6 (cLst (cCons (cCall sdHeard (cCons (cOp atD (cVar 2) (cC (.int 0))) (cCons (cCB gTuple (cCons (cVar 3) (cNil))) (cNil)))) (cCons (cCall sdHeard (cCons (cOp atD (cVar 2) (cC (.int 0))) (cCons (cCall (sdLists 3) (cCons (cVar 3) (cNil))) (cNil)))) (cNil))))
def a6 : CS := cIfS (cNotT (cB (cCall sdSame (cCons (cVar 6) (cCons (cLst (cCons (cVar 5) (cCons (cVar 5) (cNil)))) (cNil)))))) (cRet (cC (.bool false))) (cNext)
def a7 : CS := cIfS (cB (cOp eqD (cOp atD (cVar 5) (cC (.int 0))) (cC (.str "made")))) (cSq (cSet 8 (cMake cCnt sdInit (cCons (cOp atD (cVar 2) (cC (.int 0))) (cCons (cVar 3) (cNil))))) (cSq (cSet 9 (cCall sdSpots (cCons (cOp atD (cVar 2) (cC (.int 0))) (cCons (cCall sdSummed (cCons (cVar 3) (cNil))) (cNil))))) (cSq (cOwn 6 (cLc (cSeq (cOp addD (cVar 2) (cLst (cCons (cC (.str "inland")) (cNil))))) (stN 10) (cYes) (cCall sdChecked (cCons (cVar 8) (cCons (cVar 10) (cNil)))) [10])) (cSq (cOwn 5 (cLc (cSeq (cOp addD (cVar 2) (cLst (cCons (cC (.str "inland")) (cNil))))) (stN 10) (cYes) (cIf (cB (cOp inD (cVar 10) (cVar 9))) (cC .none) (cLst (cCons (cVar 10) (cCons (cC (.bool true)) (cNil))))) [10])) (cIfS (cNotT (cB (cCall sdSame (cCons (cVar 6) (cCons (cVar 5) (cNil)))))) (cRet (cC (.bool false))) (cNext)))))) (cNext)
def aBody : CS := cSq a1 (cSq a2 (cSq a3 (cSq a4 (cSq a5 (cSq a6 (a7))))))
def at1 : CS := cFor (cRange1 (cCons (cC (.int 8)) (cNil))) (stN 1) aBody
def at2 : CS := cRet (cC (.bool true))
def cs_right5 : CS := cSq at1 (at2)
abbrev n_right5 : List Str := ["_law_box_here", "_law_turn", "_law_tags_here", "_law_rows_so", "_law_lap", "_law_due_here", "_law_got", "_law_odd", "_law_made", "_law_spots_so", "_law_tag"]
abbrev gr (t1 t2 t3 t4 t5 t6 t7 t8 t9 t10 : Option Sl) : En := [some (.v boxD), t1, t2, t3, t4, t5, t6, t7, t8, t9, t10]
theorem range_len (r : Int) : (rangeD 0 r.toNat).length = r.toNat := by
  unfold rangeD
  rw [List.length_map, List.length_range]
def InS (ss : List Str) (l : List Tri) : Prop := ∀ t ∈ l, t.1 ∈ ss ∧ t.2.1 ∈ ss
section
variable {e : EndsD} {n : Nat} {t1 t2 t3 t4 t5 t6 t7 t8 t9 t10 : Option Sl}
theorem a1_ok (hn : n ≤ 500000) (q : ∀ (s0 s1 : Str) (ss : List Str) (n' : Nat), (s0 :: s1 :: ss).Nodup → (s0 :: s1 :: ss).length ≤ 5 → (∀ s ∈ s0 :: s1 :: ss, s ∈ tagPool) → n' ≤ n + 1002 → e.nx (gr t1 (some (.v (.list (strD (s0 :: s1 :: ss))))) t3 t4 t5 t6 t7 t8 t9 t10) n') : a1 (gr t1 t2 t3 t4 t5 t6 t7 t8 t9 t10) n e := by
  refine ⟨4, rfl, by omega, by decide, by decide, fun r r0 r1 => ?_⟩
  refine ⟨.int (2 + r), rfl, 2 + r, rfl, by omega, by omega, by omega, fun ss n' h1 h2 h3 h4 => ?_⟩
  match ss, h1, h2, h3 with
  | s0 :: s1 :: ss, h1, h2, h3 => exact q s0 s1 ss n' h2 (by omega) h3 (by omega)
  | [s0], h1, _, _ =>
    rw [List.length_singleton] at h1
    omega
  | [], h1, _, _ =>
    rw [List.length_nil] at h1
    omega
theorem a2_ok {ss : List Str} (hn : n ≤ 550000) (s1 : ss.Nodup) (s2 : 2 ≤ ss.length) (s3 : ss.length ≤ 5) (q : ∀ (l : List Tri) (n' : Nat), l.length ≤ 6 → InS ss l → n' ≤ n + 30001 → e.nx (gr t1 (some (.v (.list (strD ss)))) (some (.own (.list (trisD l)))) t4 t5 t6 t7 t8 t9 t10) n') : a2 (gr t1 (some (.v (.list (strD ss)))) t3 t4 t5 t6 t7 t8 t9 t10) n e := by
  refine ⟨ss, 6, 4, rfl, s1, s2, by omega, by omega, by decide, by decide, by decide, by decide, fun l n' h1 h2 h3 => ?_⟩
  exact ⟨trisD l, .inl ⟨_, rfl, rfl⟩, by show 3 < 11; decide, q l n' h1 (fun t ht => ⟨(h2 t ht).1, (h2 t ht).2.1⟩) (by omega)⟩
theorem put_len (l : List Tri) (t : Tri) (i : Nat) : (l.take i ++ [t] ++ l.drop i).length = l.length + 1 := by
  rw [List.length_append, List.length_append, List.length_singleton, List.length_take, List.length_drop]
  omega
theorem odd_loop {s0 s1 : Str} {ss : List Str} : ∀ (turns : List D) (l : List Tri) (t4 t7 : Option Sl) (n : Nat), n + 10 * turns.length ≤ 800000 → l.length + turns.length ≤ 8 → InS (s0 :: s1 :: ss) l →
    (∀ (l : List Tri) (t4 t7 : Option Sl) (n' : Nat), l.length ≤ 8 → InS (s0 :: s1 :: ss) l → n' ≤ n + 10 * turns.length → e.nx (gr t1 (some (.v (.list (strD (s0 :: s1 :: ss))))) (some (.own (.list (trisD l)))) t4 t5 t6 t7 t8 t9 t10) n') →
    cForL (stN 4) (cSq (cSet 7 (cCall sdOf (cCons (cVar 0) (cCons (cLst (cCons (cTup (cCons (cOp atD (cVar 2) (cC (.int 0))) (cCons (cOp atD (cVar 2) (cC (.int 0))) (cCons (cC (.int 1)) (cNil))))) (cCons (cTup (cCons (cOp atD (cVar 2) (cC (.int 1))) (cCons (cOp atD (cVar 2) (cC (.int 0))) (cCons (cOp subD (cNeg (cC (.int 1))) (cCall sdTake (cCons (cVar 0) (cCons (cC (.int 9)) (cNil))))) (cNil))))) (cCons (cTup (cCons (cOp atD (cVar 2) (cC (.int 1))) (cCons (cOp atD (cVar 2) (cC (.int 1))) (cCons (cNeg (cC (.int 2))) (cNil))))) (cNil))))) (cNil))))) (cDrop (cMut 3 (cCons (cCall sdTake (cCons (cVar 0) (cCons (cOp addD (cCBQ gLen (.nm 3)) (cC (.int 1))) (cNil)))) (cCons (cVar 7) (cNil))) uIns)))
      turns (gr t1 (some (.v (.list (strD (s0 :: s1 :: ss))))) (some (.own (.list (trisD l)))) t4 t5 t6 t7 t8 t9 t10) n e
  | [], l, t4, t7, n, hn, hl, hi, q => q l t4 t7 n (by simpa using hl) hi (by omega)
  | d :: turns, l, t4, t7, n, hn, hl, hi, q => by
    rw [List.length_cons] at hn hl q
    refine ⟨_, rfl, ?_⟩
    have z0 : atD (.list (strD (s0 :: s1 :: ss))) (.int 0) = some (.str s0) := atI_zero _ _
    have z1 : atD (.list (strD (s0 :: s1 :: ss))) (.int 1) = some (.str s1) := by
      show atI (PyData.str s0 :: PyData.str s1 :: strD ss) 1 = _
      unfold atI ixN
      rw [if_pos (by decide), if_pos (by rw [List.length_cons, List.length_cons]; omega)]
      rfl
    refine ⟨.str s0, z0, .str s0, z0, by show 3 ≤ lim; decide, ?_⟩
    refine ⟨.str s1, z1, .str s0, z0, 1, rfl, 9, rfl, by omega, by decide, by decide, fun r r0 r1 => ⟨.int (-1 - r), rfl, by show 3 ≤ lim; decide, ?_⟩⟩
    refine ⟨.str s1, z1, .str s1, z1, 2, rfl, by show 3 ≤ lim; decide, by show 3 ≤ lim; decide, ?_⟩
    refine ⟨_, [triD (s0, s0, 1), triD (s1, s0, -1 - r), triD (s1, s1, -2)], rfl, rfl, by omega, by show 0 < 3; decide, by show 3 < 1000000; decide, fun x hx => ?_⟩
    obtain ⟨t, rfl, ht⟩ : ∃ t : Tri, x = triD t ∧ t.1 ∈ s0 :: s1 :: ss ∧ t.2.1 ∈ s0 :: s1 :: ss := by
      rcases List.mem_cons.mp hx with rfl | hx
      · exact ⟨_, rfl, by simp, by simp⟩
      rcases List.mem_cons.mp hx with rfl | hx
      · exact ⟨_, rfl, by simp, by simp⟩
      · rw [List.mem_singleton.mp hx]
        exact ⟨_, rfl, by simp, by simp⟩
    have ll : (trisD l).length = l.length := by unfold trisD; rw [List.length_map]
    refine ⟨⟨trisD l, rfl⟩, rfl, .list (trisD l), .int (trisD l).length, rfl, ⟨_, _, rfl, rfl, rfl⟩, rfl, .int ((trisD l).length + 1), rfl, ?_⟩
    have h8 : ((l.length : Nat) : Int) ≤ 8 := by omega
    have h200 : (1000 : Int) < 2 ^ 200 := by decide
    refine ⟨(trisD l).length + 1, rfl, by omega, by omega, by rw [ll]; omega, fun i i0 i1 => ?_⟩
    refine ⟨trisD l, .none, (trisD l).take i.toNat ++ [triD t] ++ (trisD l).drop i.toNat, rfl, by rw [ll]; unfold lim; omega, ?_, ?_⟩
    · show (if 0 ≤ i ∧ i < 2 ^ 63 then some (PyData.none, (trisD l).take i.toNat ++ [triD t] ++ (trisD l).drop i.toNat) else none) = _
      rw [if_pos ⟨i0, by rw [ll] at i1; omega⟩]
    · have e1 : (trisD l).take i.toNat ++ [triD t] ++ (trisD l).drop i.toNat = trisD (l.take i.toNat ++ [t] ++ l.drop i.toNat) := by
        unfold trisD
        rw [List.map_append, List.map_append, List.map_take, List.map_drop]
        rfl
      rw [e1]
      refine odd_loop turns _ _ _ (n + 1 + 1 + 1) (by omega) (by rw [put_len]; omega) (fun u hu => ?_) fun l t4 t7 n' h1 h2 h3 => q l t4 t7 n' h1 h2 (by omega)
      rw [List.mem_append, List.mem_append] at hu
      rcases hu with (hu | hu) | hu
      · exact hi u (List.mem_of_mem_take hu)
      · rw [List.mem_singleton.mp hu]
        exact ht
      · exact hi u (List.mem_of_mem_drop hu)
theorem a3_ok {s0 s1 : Str} {ss : List Str} {l : List Tri} (hn : n ≤ 600000) (hl : l.length ≤ 6) (hi : InS (s0 :: s1 :: ss) l) (q : ∀ (l : List Tri) (t4 t7 : Option Sl) (n' : Nat), l.length ≤ 8 → InS (s0 :: s1 :: ss) l → n' ≤ n + 31 → e.nx (gr t1 (some (.v (.list (strD (s0 :: s1 :: ss))))) (some (.own (.list (trisD l)))) t4 t5 t6 t7 t8 t9 t10) n') :
    a3 (gr t1 (some (.v (.list (strD (s0 :: s1 :: ss))))) (some (.own (.list (trisD l)))) t4 t5 t6 t7 t8 t9 t10) n e := by
  refine ⟨3, rfl, by omega, by decide, by decide, fun r r0 r1 => ?_⟩
  refine ⟨r, rfl, ⟨by omega, by omega⟩, ?_⟩
  have hr := range_len r
  exact odd_loop _ l t4 t7 (n + 1) (by omega) (by omega) hi fun l t4 t7 n' h1 h2 h3 => q l t4 t7 n' h1 h2 (by omega)
theorem okS_tri (k : Nat) (t : Tri) : okS (k + 2) (triD t) := by
  refine ⟨by show 3 ≤ 1000; decide, fun d hd => ?_⟩
  rcases List.mem_cons.mp hd with rfl | hd
  · exact trivial
  rcases List.mem_cons.mp hd with rfl | hd
  · exact trivial
  · rw [List.mem_singleton.mp hd]
    exact trivial
theorem tris_len2 (l : List Tri) : (trisD l).length = l.length := by unfold trisD; rw [List.length_map]
theorem rows_lists (l : List Tri) : RowsAre ((trisD l).map listsD) l := by
  unfold RowsAre trisD
  rw [List.map_map, List.map_map]
  rfl
theorem lists_tris (l : List Tri) : listsD (.list (trisD l)) = .list ((trisD l).map listsD) := by
  show PyData.list (listsDs (trisD l)) = _
  rw [listsDs_map]
theorem a4_ok {s0 s1 : Str} {ss : List Str} {l : List Tri} (gs : GoodS s0) (hg : GoodL l) (hl : l.length ≤ 8) (q : e.nx (gr t1 (some (.v (.list (strD (s0 :: s1 :: ss))))) (some (.v (.list (trisD l)))) t4 (some (.v (dueT s0 l))) t6 t7 t8 t9 t10) n) : a4 (gr t1 (some (.v (.list (strD (s0 :: s1 :: ss))))) (some (.own (.list (trisD l)))) t4 t5 t6 t7 t8 t9 t10) n e := by
  have z0 : atD (.list (strD (s0 :: s1 :: ss))) (.int 0) = some (.str s0) := atI_zero _ _
  exact ⟨.str s0, z0, s0, l, rfl, gs, hg, by omega, q⟩
theorem a5_ok {s0 s1 : Str} {ss : List Str} {l : List Tri} (hg : GoodL l) (hl : l.length ≤ 8) (q : e.nx (gr t1 (some (.v (.list (strD (s0 :: s1 :: ss))))) (some (.v (.list (trisD l)))) t4 t5 (some (.v (.list [dueT s0 l, dueT s0 l]))) t7 t8 t9 t10) n) : a5 (gr t1 (some (.v (.list (strD (s0 :: s1 :: ss))))) (some (.v (.list (trisD l)))) t4 t5 t6 t7 t8 t9 t10) n e := by
  have z0 : atD (.list (strD (s0 :: s1 :: ss))) (.int 0) = some (.str s0) := atI_zero _ _
  refine ⟨.str s0, z0, .tuple (trisD l), ⟨_, _, rfl, rfl, rfl⟩, s0, _, trisD l, l, rfl, rfl, rowsAre_tris l, hg, by omega, ?_⟩
  refine ⟨.str s0, z0, .list (trisD l), rfl, ⟨by rw [tris_len2]; omega, fun d hd => ?_⟩, ?_⟩
  · obtain ⟨t, _, rfl⟩ := List.mem_map.mp hd
    exact okS_tri 0 t
  · rw [lists_tris]
    exact ⟨s0, _, (trisD l).map listsD, l, rfl, rfl, rows_lists l, hg, by omega, by show 2 ≤ lim; decide, q⟩
theorem due_ok (s : Str) (l : List Tri) : okS 3 (dueT s l) := by
  unfold dueT
  split
  · refine ⟨by show 2 ≤ 1000; decide, fun d hd => ?_⟩
    simp only [List.mem_cons, List.not_mem_nil, or_false] at hd
    rcases hd with rfl | rfl <;> exact trivial
  · split
    · refine ⟨by show 4 ≤ 1000; decide, fun d hd => ?_⟩
      simp only [List.mem_cons, List.not_mem_nil, or_false] at hd
      rcases hd with rfl | rfl | rfl | rfl <;> exact trivial
    · refine ⟨by show 2 ≤ 1000; decide, fun d hd => ?_⟩
      simp only [List.mem_cons, List.not_mem_nil, or_false] at hd
      rcases hd with rfl | rfl <;> exact trivial
theorem a6_ok {s : Str} {l : List Tri} (q : e.nx (gr t1 t2 t3 t4 (some (.v (dueT s l))) (some (.v (.list [dueT s l, dueT s l]))) t7 t8 t9 t10) n) : a6 (gr t1 t2 t3 t4 (some (.v (dueT s l))) (some (.v (.list [dueT s l, dueT s l]))) t7 t8 t9 t10) n e := by
  refine ⟨by show 2 ≤ lim; decide, .list [dueT s l, dueT s l], rfl, ⟨by show 2 ≤ 1000; decide, fun d hd => ?_⟩, true, rfl, q⟩
  simp only [List.mem_cons, List.not_mem_nil, or_false] at hd
  rcases hd with rfl | rfl <;> exact due_ok s l
/-! what check tells -/
def chkD (s : Str) (l : List Tri) (a : Str) : D := if inPl s l a = true then .none else .list [.str a, .bool true]
def chkF (s : Str) (l : List Tri) : D → Option D
  | .str a => some (chkD s l a)
  | _ => none
theorem chkF_all (s : Str) (l : List Tri) (ys : List Str) : (strD ys).filterMap (chkF s l) = ys.map (chkD s l) := by
  unfold strD
  rw [List.filterMap_map]
  induction ys with
  | nil => rfl
  | cons y ys ih =>
    rw [List.filterMap_cons, List.map_cons, ← ih]
    rfl
theorem chk_ok (s : Str) (l : List Tri) (a : Str) : okS 3 (chkD s l a) := by
  unfold chkD
  split
  · exact trivial
  · refine ⟨by show 2 ≤ 1000; decide, fun d hd => ?_⟩
    simp only [List.mem_cons, List.not_mem_nil, or_false] at hd
    rcases hd with rfl | rfl <;> exact trivial
theorem a7_ok {s0 s1 : Str} {ss : List Str} {l : List Tri} (gs : ∀ s ∈ s0 :: s1 :: ss, GoodS s) (hs : (s0 :: s1 :: ss).length ≤ 5) (hg : GoodL l) (hl : l.length ≤ 8) (q : ∀ t5 t6 t8 t9 t10 : Option Sl, e.nx (gr t1 (some (.v (.list (strD (s0 :: s1 :: ss))))) (some (.v (.list (trisD l)))) t4 t5 t6 t7 t8 t9 t10) n) :
    a7 (gr t1 (some (.v (.list (strD (s0 :: s1 :: ss))))) (some (.v (.list (trisD l)))) t4 (some (.v (dueT s0 l))) t6 t7 t8 t9 t10) n e := by
  have z0 : atD (.list (strD (s0 :: s1 :: ss))) (.int 0) = some (.str s0) := atI_zero _ _
  have gm : GoodS "made" := by unfold GoodS; decide +kernel
  cases c1 : l.find? stillT with
  | some t =>
    have ed : dueT s0 l = .list [.str "still", .str t.1] := by unfold dueT; rw [c1]
    rw [ed]
    refine ⟨.str "still", atI_zero _ _, _, eqD_str (by unfold GoodS; decide +kernel) gm, _, rfl, ?_⟩
    exact q _ _ _ _ _
  | none =>
    cases c2 : l.find? belowT with
    | some t =>
      have ed : dueT s0 l = .list [.str "below", .str t.1, .str t.2.1, .int t.2.2] := by unfold dueT; rw [c1, c2]
      rw [ed]
      refine ⟨.str "below", atI_zero _ _, _, eqD_str (by unfold GoodS; decide +kernel) gm, _, rfl, ?_⟩
      exact q _ _ _ _ _
    | none =>
      have ed : dueT s0 l = .list [.str "made", .str s0] := by unfold dueT; rw [c1, c2]
      rw [ed]
      refine ⟨.str "made", atI_zero _ _, _, eqD_str gm gm, _, rfl, ?_⟩
      have hF : Fine l := fun t ht => by
        have h1 := List.find?_eq_none.mp c1 t ht
        have h2 := List.find?_eq_none.mp c2 t ht
        unfold stillT at h1
        unfold belowT at h2
        rw [decide_eq_true_iff] at h1 h2
        exact ⟨h1, by omega⟩
      have lc := canon_len l
      have gc := good_canon hg
      have g0 := gs s0 (List.mem_cons_self ..)
      refine ⟨.str s0, z0, s0, _, trisD l, l, rfl, rfl, rowsAre_tris l, hg, by omega, ?_⟩
      rw [wrongT_none hF]
      refine ⟨.str s0, z0, _, l, rfl, rfl, hg, by omega, ?_⟩
      refine ⟨s0, canon l, rfl, g0, gc, by omega, fun ys y1 y2 y3 => ?_⟩
      have hy : ∀ a, decide (a ∈ ys) = inPl s0 (canon l) a := fun a => by
        rw [Bool.eq_iff_iff, decide_eq_true_iff, inPl_iff, y2]
      have gy : ∀ y ∈ ys, GoodS y := fun y h => good_ends g0 gc ((y2 y).mp h)
      have ga : ∀ a ∈ (s0 :: s1 :: ss) ++ (["inland"] : List Str), GoodS a := fun a ha => by
        rcases List.mem_append.mp ha with ha | ha
        · exact gs a ha
        · rw [List.mem_singleton.mp ha]
          unfold GoodS
          decide +kernel
      have ladd : addD (.list (strD (s0 :: s1 :: ss))) (.list [.str "inland"]) = some (.list (strD ((s0 :: s1 :: ss) ++ (["inland"] : List Str)))) := by
        show (if (strD (s0 :: s1 :: ss)).length + 1 ≤ lim then some (PyData.list (strD (s0 :: s1 :: ss) ++ [.str "inland"])) else none) = _
        rw [if_pos (by rw [strD_len]; unfold lim; omega)]
        unfold strD
        rw [List.map_append]
        rfl
      have la : ((s0 :: s1 :: ss) ++ (["inland"] : List Str)).length ≤ 6 := by rw [List.length_append, List.length_singleton]; omega
      generalize (s0 :: s1 :: ss) ++ (["inland"] : List Str) = as at ga ladd la
      generalize (s0 :: s1 :: ss) = zs at ladd q
      refine ⟨by show 1 ≤ lim; decide, _, ladd, _, rfl, ?_⟩
      show cLcL _ _ _ _ _ (gr t1 (some (.v (.list (strD zs)))) (some (.v (.list (trisD l)))) t4 (some (.v (.list [.str "made", .str s0]))) t6 t7 (some (.v (cntD s0 (canon l)))) (some (.v (.list (strD ys)))) none) n [] _
      refine lcL_run (chkF s0 (canon l)) _ [] (fun d hd => ?_) (by rw [strD_len, List.length_nil]; unfold lim; omega) ?_
      · obtain ⟨a, ha, rfl⟩ := List.mem_map.mp hd
        exact ⟨_, rfl, rfl, fun K1 hK => hK, fun y hy K2 hK => ⟨s0, canon l, a, rfl, g0, ga a ha, gc, by omega, by cases hy; exact hK⟩⟩
      rw [List.nil_append, chkF_all]
      refine ⟨by show 6 < 11; decide, ?_⟩
      refine ⟨by show 1 ≤ lim; decide, _, ladd, _, rfl, ?_⟩
      show cLcL _ _ _ _ _ (gr t1 (some (.v (.list (strD zs)))) (some (.v (.list (trisD l)))) t4 (some (.v (.list [.str "made", .str s0]))) (some (.own (.list (as.map (chkD s0 (canon l)))))) t7 (some (.v (cntD s0 (canon l)))) (some (.v (.list (strD ys)))) none) n [] _
      refine lcL_run (chkF s0 (canon l)) _ [] (fun d hd => ?_) (by rw [strD_len, List.length_nil]; unfold lim; omega) ?_
      · obtain ⟨a, ha, rfl⟩ := List.mem_map.mp hd
        refine ⟨_, rfl, rfl, fun K1 hK => hK, fun y hy2 K2 hK => ⟨.bool (decide (a ∈ ys)), by show (memD _ _).map _ = _; rw [memD_lst gy (ga a ha)]; rfl, _, rfl, ?_⟩⟩
        have hy3 : chkD s0 (canon l) a = y := Option.some.inj hy2
        rw [hy]
        unfold chkD at hy3
        cases c : inPl s0 (canon l) a with
        | true =>
          rw [c, if_pos rfl] at hy3
          rw [hy3]
          exact hK
        | false =>
          rw [c, if_neg (by simp)] at hy3
          refine ⟨by show 2 ≤ lim; decide, ?_⟩
          rw [hy3]
          exact hK
      rw [List.nil_append, chkF_all]
      refine ⟨by show 5 < 11; decide, ?_⟩
      refine ⟨.list (as.map (chkD s0 (canon l))), rfl, ⟨by rw [List.length_map]; omega, fun d hd => ?_⟩, true, rfl, q _ _ _ _ _⟩
      obtain ⟨a, _, rfl⟩ := List.mem_map.mp hd
      exact chk_ok _ _ _
theorem aBody_ok (hn : n ≤ 500000) (q : ∀ (t2 t3 t4 t5 t6 t7 t8 t9 t10 : Option Sl) (n' : Nat), n' ≤ n + 40000 → e.nx (gr t1 t2 t3 t4 t5 t6 t7 t8 t9 t10) n') : aBody (gr t1 t2 t3 t4 t5 t6 t7 t8 t9 t10) n e := by
  refine a1_ok hn fun s0 s1 ss n1 h1 h2 h3 hn1 => ?_
  refine a2_ok (by omega) h1 (by simp) h2 fun l n2 l1 l2 hn2 => ?_
  refine a3_ok (by omega) l1 l2 fun l t4 t7 n3 k1 k2 hn3 => ?_
  have gs : ∀ s ∈ s0 :: s1 :: ss, GoodS s := fun s hs => tag_good s (h3 s hs)
  have hg : GoodL l := fun t ht => ⟨gs _ (k2 t ht).1, gs _ (k2 t ht).2⟩
  refine a4_ok (gs s0 (List.mem_cons_self ..)) hg k1 ?_
  refine a5_ok hg k1 ?_
  refine a6_ok ?_
  exact a7_ok gs h2 hg k1 fun t5 t6 t8 t9 t10 => q _ _ _ _ _ _ _ _ _ n3 (by omega)
end
theorem turns5 {e : EndsD} : ∀ (turns : List D) (t1 t2 t3 t4 t5 t6 t7 t8 t9 t10 : Option Sl) (n : Nat), n + 40000 * turns.length ≤ 500000 → (∀ (ρ : En) (n' : Nat), e.nx ρ n') → cForL (stN 1) aBody turns (gr t1 t2 t3 t4 t5 t6 t7 t8 t9 t10) n e
  | [], _, _, _, _, _, _, _, _, _, _, n, _, q => q _ n
  | d :: turns, t1, t2, t3, t4, t5, t6, t7, t8, t9, t10, n, h, q => by
    rw [List.length_cons] at h
    refine ⟨_, rfl, ?_⟩
    refine aBody_ok (by omega) fun u2 u3 u4 u5 u6 u7 u8 u9 u10 n' hn' => ?_
    exact turns5 turns _ _ _ _ _ _ _ _ _ _ n' (by omega) q
def sdRight5 : SpD := fun ds n k _ => ds = [boxD] ∧ n = 0 ∧ ∀ n', k (.bool true) n'
theorem himp_right5 {e : EndsD} (ds : List D) (n : Nat) (k : D → Nat → Prop) (ke : Xv → Nat → Prop) (h : sdRight5 ds n k ke) (he : e.rt = k) : cs_right5 (startE n_right5 ds) n e := by
  obtain ⟨rfl, rfl, q⟩ := h
  subst he
  refine ⟨8, rfl, ⟨by decide, by decide⟩, ?_⟩
  exact turns5 _ none none none none none none none none none none 0 (by decide) fun ρ n' => q n'
end RM
set_option maxHeartbeats 4000000
namespace RM
open PySem PySem.Spec PyProof.Rows L2 CS RZ
/-! ### k05, by hand -/
def bt1 : CS := cSet 0 (cLst (cCons (cTup (cCons (cTup (cCons (cC (.str "a")) (cCons (cC (.str "b")) (cCons (cNeg (cC (.int 1))) (cNil))))) (cCons (cTup (cCons (cC (.str "c")) (cCons (cC (.str "c")) (cCons (cC (.int 0)) (cNil))))) (cNil)))) (cCons (cTup (cCons (cTup (cCons (cC (.str "a")) (cCons (cC (.str "b")) (cCons (cC (.int 3)) (cNil))))) (cCons (cTup (cCons (cC (.str "b")) (cCons (cC (.str "a")) (cCons (cNeg (cC (.int 2))) (cNil))))) (cCons (cTup (cCons (cC (.str "a")) (cCons (cC (.str "b")) (cCons (cNeg (cC (.int 9))) (cNil))))) (cNil))))) (cCons (cTup (cCons (cTup (cCons (cC (.str "b")) (cCons (cC (.str "b")) (cCons (cNeg (cC (.int 1))) (cNil))))) (cNil))) (cCons (cTup (cNil)) (cNil))))))
def bt2 : CS := cSet 0 (cOp addD (cVar 0) (cLst (cCons (cTup (cCons (cTup (cCons (cC (.str "a")) (cCons (cC (.str "b")) (cCons (cC (.int 1)) (cNil))))) (cCons (cTup (cCons (cC (.str "a")) (cCons (cC (.str "b")) (cCons (cNeg (cC (.int 1))) (cNil))))) (cNil)))) (cCons (cLst (cCons (cLst (cCons (cC (.str "a")) (cCons (cC (.str "a")) (cCons (cC (.int 2)) (cNil))))) (cNil))) (cCons (cTup (cCons (cTup (cCons (cC (.str "c")) (cCons (cC (.str "b")) (cCons (cC (.int 0)) (cNil))))) (cNil))) (cNil))))))
def bt3 : CS := cOwn 1 (cLc (cSeq (cVar 0)) (stN 4) (cYes) (cCall sdHeard (cCons (cC (.str "a")) (cCons (cVar 4) (cNil)))) [4])
def bt4 : CS := cSet 2 (cLst (cCons (cLst (cCons (cC (.str "still")) (cCons (cC (.str "c")) (cNil)))) (cCons (cLst (cCons (cC (.str "below")) (cCons (cC (.str "b")) (cCons (cC (.str "a")) (cCons (cNeg (cC (.int 2))) (cNil)))))) (cCons (cLst (cCons (cC (.str "still")) (cCons (cC (.str "b")) (cNil)))) (cCons (cLst (cCons (cC (.str "made")) (cCons (cC (.str "a")) (cNil)))) (cCons (cLst (cCons (cC (.str "below")) (cCons (cC (.str "a")) (cCons (cC (.str "b")) (cCons (cNeg (cC (.int 1))) (cNil)))))) (cNil)))))))
def bt5 : CS := cSet 2 (cOp addD (cVar 2) (cLst (cCons (cLst (cCons (cC (.str "still")) (cCons (cC (.str "a")) (cNil)))) (cCons (cLst (cCons (cC (.str "made")) (cCons (cC (.str "a")) (cNil)))) (cNil)))))
def bt6 : CS := cIfS (cNotT (cB (cCall sdSame (cCons (cVar 1) (cCons (cVar 2) (cNil)))))) (cRet (cC (.bool false))) (cNext)
def bt7 : CS := cSet 3 (cMake cCnt sdInit (cCons (cC (.str "a")) (cCons (cTup (cCons (cTup (cCons (cC (.str "b")) (cCons (cC (.str "c")) (cCons (cC (.int 1)) (cNil))))) (cCons (cTup (cCons (cC (.str "d")) (cCons (cC (.str "e")) (cCons (cC (.int 0)) (cNil))))) (cNil)))) (cNil))))
def bt8 : CS := cSet 1 (cOp addD (cVar 1) (cLc (cSeq (cLst (cCons (cC (.str "a")) (cCons (cC (.str "b")) (cCons (cC (.str "c")) (cCons (cC (.str "d")) (cCons (cC (.str "zz")) (cCons (cC (.str "inland")) (cNil))))))))) (stN 5) (cYes) (cCall sdChecked (cCons (cVar 3) (cCons (cVar 5) (cNil)))) [5]))
def bt9 : CS := cSet 2 (cOp addD (cVar 2) (cLst (cCons (cC .none) (cCons (cC .none) (cCons (cC .none) (cCons (cLst (cCons (cC (.str "d")) (cCons (cC (.bool true)) (cNil)))) (cCons (cLst (cCons (cC (.str "zz")) (cCons (cC (.bool true)) (cNil)))) (cCons (cLst (cCons (cC (.str "inland")) (cCons (cC (.bool true)) (cNil)))) (cNil)))))))))
def bt10 : CS := cRet (cCall sdSame (cCons (cOp addD (cVar 1) (cLst (cCons (cMeth sdM_check (cVar 3) (cCons (cC (.str "b")) cNil) cCnt "check") (cNil)))) (cCons (cOp addD (cVar 2) (cLst (cCons (cC .none) (cNil)))) (cNil))))
def cs_by_hand5 : CS := cSq bt1 (cSq bt2 (cSq bt3 (cSq bt4 (cSq bt5 (cSq bt6 (cSq bt7 (cSq bt8 (cSq bt9 (bt10)))))))))
abbrev n_by_hand5 : List Str := ["_law_some", "_law_got", "_law_due_here", "_law_made", "_law_own", "_law_tag"]
abbrev hr5 (t0 t1 t2 t3 t4 t5 : Option Sl) : En := [t0, t1, t2, t3, t4, t5]
def some5 : List D := [.tuple [.tuple [.str "a", .str "b", .int (-1)], .tuple [.str "c", .str "c", .int 0]], .tuple [.tuple [.str "a", .str "b", .int 3], .tuple [.str "b", .str "a", .int (-2)], .tuple [.str "a", .str "b", .int (-9)]], .tuple [.tuple [.str "b", .str "b", .int (-1)]], .tuple []]
def more5 : List D := [.tuple [.tuple [.str "a", .str "b", .int 1], .tuple [.str "a", .str "b", .int (-1)]], .list [.list [.str "a", .str "a", .int 2]], .tuple [.tuple [.str "c", .str "b", .int 0]]]
def got5 : List D := [.list [.str "still", .str "c"], .list [.str "below", .str "b", .str "a", .int (-2)], .list [.str "still", .str "b"], .list [.str "made", .str "a"], .list [.str "below", .str "a", .str "b", .int (-1)], .list [.str "still", .str "a"], .list [.str "made", .str "a"]]
def chk5 : List D := [.none, .none, .none, .list [.str "d", .bool true], .list [.str "zz", .bool true], .list [.str "inland", .bool true]]
section
variable {e : EndsD} {n : Nat} {t0 t1 t2 t3 t4 t5 : Option Sl}
theorem bt1_ok (q : e.nx (hr5 (some (.v (.list some5))) t1 t2 t3 t4 t5) n) : bt1 (hr5 t0 t1 t2 t3 t4 t5) n e := by
  repeat first | exact q | refine ⟨by show _ ≤ lim; decide, ?_⟩ | refine ⟨_, rfl, ?_⟩
theorem bt2_ok (q : e.nx (hr5 (some (.v (.list (some5 ++ more5)))) t1 t2 t3 t4 t5) n) : bt2 (hr5 (some (.v (.list some5))) t1 t2 t3 t4 t5) n e := by
  repeat first | exact q | refine ⟨by show _ ≤ lim; decide, ?_⟩ | refine ⟨_, rfl, ?_⟩
def triOf (d : D) : Tri := match seqD d with
  | some [.str a, .str b, .int c] => (a, b, c)
  | _ => (Str.empty, Str.empty, 0)
def trisOf (d : D) : List Tri := match seqD d with
  | some rows => rows.map triOf
  | none => []
def rowsOf (d : D) : List D := match seqD d with
  | some rows => rows
  | none => []
def goodB (d : D) : Bool := match seqD d with
  | some rows => rows.all fun r => match seqD r with
    | some [.str a, .str b, .int _] => (PyData.str a).canLay0 && (PyData.str b).canLay0
    | _ => false
  | none => false
theorem good_of {d : D} (h : goodB d = true) : seqD d = some (rowsOf d) ∧ RowsAre (rowsOf d) (trisOf d) ∧ GoodL (trisOf d) := by
  unfold goodB at h
  unfold rowsOf trisOf
  split at h
  · rename_i rows e
    rw [e]
    rw [List.all_eq_true] at h
    have one : ∀ r ∈ rows, seqD r = some [PyData.str (triOf r).1, .str (triOf r).2.1, .int (triOf r).2.2] ∧ GoodP (pr (triOf r)) := fun r hr => by
      have := h r hr
      unfold triOf
      split at this
      · rename_i a b c e2
        rw [e2]
        rw [Bool.and_eq_true] at this
        exact ⟨rfl, this⟩
      · cases this
    refine ⟨rfl, ?_, fun t ht => ?_⟩
    · unfold RowsAre
      rw [List.map_map]
      exact List.map_congr_left fun r hr => (one r hr).1
    · obtain ⟨r, hr, rfl⟩ := List.mem_map.mp ht
      exact (one r hr).2
  · cases h
theorem some5_good : ∀ d ∈ some5 ++ more5, goodB d = true ∧ (trisOf d).length ≤ 1000 := by
  have : ((some5 ++ more5).all fun d => goodB d && decide ((trisOf d).length ≤ 1000)) = true := by decide +kernel
  intro d hd
  have := List.all_eq_true.mp this d hd
  rw [Bool.and_eq_true, decide_eq_true_iff] at this
  exact this
theorem some5_due : (some5 ++ more5).filterMap (fun d => some (dueT "a" (trisOf d))) = got5 := by rfl
theorem bt3_ok (q : e.nx (hr5 (some (.v (.list (some5 ++ more5)))) (some (.own (.list got5))) t2 t3 none t5) n) : bt3 (hr5 (some (.v (.list (some5 ++ more5)))) t1 t2 t3 t4 t5) n e := by
  refine ⟨some5 ++ more5, rfl, ?_⟩
  show cLcL _ _ _ _ _ (hr5 (some (.v (.list (some5 ++ more5)))) t1 t2 t3 none t5) n [] _
  refine lcL_run (fun d => some (dueT "a" (trisOf d))) _ [] (fun d hd => ?_) (by decide) ?_
  · obtain ⟨h1, h2⟩ := some5_good d hd
    obtain ⟨g1, g2, g3⟩ := good_of h1
    exact ⟨_, rfl, rfl, fun K1 hK => hK, fun y hy K2 hK => ⟨"a", d, rowsOf d, trisOf d, rfl, g1, g2, g3, h2, by cases hy; exact hK⟩⟩
  · rw [List.nil_append, some5_due]
    exact ⟨by show 1 < 6; decide, q⟩
theorem bt4_ok (q : e.nx (hr5 t0 t1 (some (.v (.list (got5.take 5)))) t3 t4 t5) n) : bt4 (hr5 t0 t1 t2 t3 t4 t5) n e := by
  repeat first | exact q | refine ⟨by show _ ≤ lim; decide, ?_⟩ | refine ⟨_, rfl, ?_⟩
theorem bt5_ok (q : e.nx (hr5 t0 t1 (some (.v (.list got5))) t3 t4 t5) n) : bt5 (hr5 t0 t1 (some (.v (.list (got5.take 5)))) t3 t4 t5) n e := by
  repeat first | exact q | refine ⟨by show _ ≤ lim; decide, ?_⟩ | refine ⟨_, rfl, ?_⟩
theorem got_ok : okS 4 (.list got5) := by
  refine ⟨by decide, fun d hd => ?_⟩
  simp only [got5, List.mem_cons, List.not_mem_nil, or_false] at hd
  rcases hd with rfl | rfl | rfl | rfl | rfl | rfl | rfl <;> refine ⟨by decide, fun d hd => ?_⟩ <;> simp only [List.mem_cons, List.not_mem_nil, or_false] at hd <;> rcases hd with rfl | rfl | rfl | rfl | rfl <;> exact trivial
theorem bt6_ok (q : e.nx (hr5 t0 (some (.v (.list got5))) (some (.v (.list got5))) t3 t4 t5) n) : bt6 (hr5 t0 (some (.own (.list got5))) (some (.v (.list got5))) t3 t4 t5) n e :=
  ⟨.list got5, rfl, got_ok, true, rfl, q⟩
def lM : List Tri := [("b", "c", 1), ("d", "e", 0)]
theorem lM_good : GoodL lM := by
  intro t ht
  simp only [lM, List.mem_cons, List.not_mem_nil, or_false] at ht
  rcases ht with rfl | rfl <;> exact ⟨by unfold GoodS; decide +kernel, by unfold GoodS; decide +kernel⟩
theorem bt7_ok (q : e.nx (hr5 t0 t1 t2 (some (.v (cntD "a" (canon lM)))) t4 t5) n) : bt7 (hr5 t0 t1 t2 t3 t4 t5) n e := by
  refine ⟨by show 3 ≤ lim; decide, by show 3 ≤ lim; decide, by show 2 ≤ lim; decide, ?_⟩
  refine ⟨"a", _, trisD lM, lM, rfl, rfl, rowsAre_tris _, lM_good, by decide, ?_⟩
  rw [wrongT_none (show Fine lM from fun t ht => by
    simp only [lM, List.mem_cons, List.not_mem_nil, or_false] at ht
    rcases ht with rfl | rfl <;> decide)]
  exact q
def lN : List Tri := [("b", "c", 1)]
theorem cN : canon lN = lN := canon_id (by decide +kernel) (by decide +kernel) (by unfold lN; decide +kernel)
theorem cM : canon lM = lN := by
  rw [← cN]
  refine canon_ext fun p => .inl ?_
  unfold lM lN
  simp only [sumAt_cons, sumAt_nil]
  split <;> split <;> omega
theorem gA : GoodS "a" := by unfold GoodS; decide +kernel
theorem lN_good : GoodL lN := fun t ht => by
  rw [List.mem_singleton.mp ht]
  exact ⟨by unfold GoodS; decide +kernel, by unfold GoodS; decide +kernel⟩
def tags5 : List Str := ["a", "b", "c", "d", "zz", "inland"]
theorem tags5_good : ∀ a ∈ tags5, GoodS a := by
  have : ∀ a ∈ tags5, (PyData.str a).canLay0 = true := by decide +kernel
  exact this
theorem tags5_chk : (strD tags5).filterMap (chkF "a" lN) = chk5 := by rfl
theorem bt8_ok (q : e.nx (hr5 t0 (some (.v (.list (got5 ++ chk5)))) t2 (some (.v (cntD "a" lN))) t4 none) n) : bt8 (hr5 t0 (some (.v (.list got5))) t2 (some (.v (cntD "a" lN))) t4 t5) n e := by
  refine ⟨by show 6 ≤ lim; decide, strD tags5, rfl, ?_⟩
  show cLcL _ _ _ _ _ (hr5 t0 (some (.v (.list got5))) t2 (some (.v (cntD "a" lN))) t4 none) n [] _
  refine lcL_run (chkF "a" lN) _ [] (fun d hd => ?_) (by decide) ?_
  · obtain ⟨a, ha, rfl⟩ := List.mem_map.mp hd
    exact ⟨_, rfl, rfl, fun K1 hK => hK, fun y hy K2 hK => ⟨"a", lN, a, rfl, gA, tags5_good a ha, lN_good, by decide, by cases hy; exact hK⟩⟩
  · rw [List.nil_append, tags5_chk]
    exact ⟨_, rfl, q⟩
theorem bt9_ok (q : e.nx (hr5 t0 t1 (some (.v (.list (got5 ++ chk5)))) t3 t4 t5) n) : bt9 (hr5 t0 t1 (some (.v (.list got5))) t3 t4 t5) n e := by
  repeat first | exact q | refine ⟨by show _ ≤ lim; decide, ?_⟩ | refine ⟨_, rfl, ?_⟩
def okB : Nat → D → Bool
  | 0, _ => false
  | n + 1, .list ds => decide (ds.length ≤ 1000) && ds.all (okB n)
  | n + 1, .tuple ds => decide (ds.length ≤ 1000) && ds.all (okB n)
  | _ + 1, .dict _ => false
  | _ + 1, _ => true
theorem okB_ok : ∀ (n : Nat) (d : D), okB n d = true → okS n d
  | 0, _, h => by cases h
  | n + 1, .list ds, h => by
    simp only [okB, Bool.and_eq_true, decide_eq_true_iff, List.all_eq_true] at h
    exact ⟨h.1, fun d hd => okB_ok n d (h.2 d hd)⟩
  | n + 1, .tuple ds, h => by
    simp only [okB, Bool.and_eq_true, decide_eq_true_iff, List.all_eq_true] at h
    exact ⟨h.1, fun d hd => okB_ok n d (h.2 d hd)⟩
  | _ + 1, .dict _, h => by cases h
  | _ + 1, .none, _ => trivial
  | _ + 1, .bool _, _ => trivial
  | _ + 1, .int _, _ => trivial
  | _ + 1, .str _, _ => trivial
theorem bt10_ok (q : e.rt (.bool true) n) : bt10 (hr5 t0 (some (.v (.list (got5 ++ chk5)))) (some (.v (.list (got5 ++ chk5)))) (some (.v (cntD "a" lN))) t4 t5) n e := by
  refine ⟨⟨_, rfl, rfl⟩, "a", lN, "b", rfl, gA, by unfold GoodS; decide +kernel, lN_good, by decide, ?_⟩
  rw [if_pos (show inPl "a" lN "b" = true by decide +kernel)]
  refine ⟨by show 1 ≤ lim; decide, .list (got5 ++ chk5 ++ [.none]), rfl, ?_⟩
  refine ⟨by show 1 ≤ lim; decide, .list (got5 ++ chk5 ++ [.none]), rfl, ?_⟩
  exact ⟨_, rfl, okB_ok _ _ (by decide +kernel), q⟩
end
def sdByHand5 : SpD := fun ds n k _ => ds = [] ∧ k (.bool true) n
theorem himp_by_hand5 {e : EndsD} (ds : List D) (n : Nat) (k : D → Nat → Prop) (ke : Xv → Nat → Prop) (h : sdByHand5 ds n k ke) (he : e.rt = k) : cs_by_hand5 (startE n_by_hand5 ds) n e := by
  obtain ⟨rfl, q⟩ := h
  subst he
  show cs_by_hand5 (hr5 none none none none none none) n e
  refine bt1_ok ?_
  refine bt2_ok ?_
  refine bt3_ok ?_
  refine bt4_ok ?_
  refine bt5_ok ?_
  refine bt6_ok ?_
  refine bt7_ok ?_
  rw [cM]
  refine bt8_ok ?_
  refine bt9_ok ?_
  exact bt10_ok q
end RM
namespace RM
open PySem PySem.Spec PyProof.Rows L2 CS RZ
section
variable {P : Program} {w : World} {K : PySem.W.Frag} {mg : Str → Option Value} {base : Heap} {g : Glob}
/-- a method's def asked with one keyword -/
theorem kb_word {x qual : Str} {st : Stmt} {f : Addr} {fd : FuncData} {sf k0 : Str} (F : Fun K x qual st f fd)
    (h : ∀ (kV doc pm : Value) (an : Option Addr) (cdv ct self u0 : Value), bindArgs (PySem.W.fnOf x qual (defArgs st) (defBody st) (defScope st) .none kV doc pm an cdv ct) ⟨[self], [(k0, u0)]⟩ = pure [(sf, self), (k0, u0)]) : KBn K fd [sf, k0] 1 [k0] (fun us ws => us ++ ws) (fun vs zs => vs ++ zs) := by
  obtain ⟨oc, od, kV, doc, pm, an, cdv, ct, osl, rfl, lk, hcd⟩ := F.ex
  refine ⟨fun s us ws _ hu hw => ?_, fun r1 r2 => ?_⟩
  · match us, ws, hu, hw with
    | [self], [u0], _, _ => exact .of_eq (h kV doc pm an cdv ct self u0)
  · induction r1 with
    | nil => exact r2
    | cons a _ ih => exact .cons a ih
/-- at no depth nothing is asked -/
theorem lists_none {f : Addr} {fd : FuncData} : FnOk P w K mg base CX0 0 f fd ["_law_matter"] (spD g (sdLists 0)) := by
  have no : ∀ vs H Q E, ¬ spD g (sdLists 0) vs H Q E := fun vs H Q E h => by
    obtain ⟨C, ds, n, k, ke, _, _, _, _, ⟨x, _, ok, _⟩, _⟩ := h
    exact ok
  exact ⟨fun vs H Q E h => absurd h (no vs H Q E), fun A outer s H args us vs Q E _ _ _ _ h => absurd h (no vs H Q E)⟩
end
end RM
namespace RM
open PySem PySem.Spec PyProof.Rows L2 CS RZ
/-! ### a cut of a tuple as a key -/
section
variable {X : Cx} {g : Glob} {xk : WX} {pos : Pos}
def cKeySl (ta : CE) (tl th : CO) : CE := fun ρ n k ke => ta ρ n (fun x ρ1 n1 => tl ρ1 n1 (fun lo ρ2 n2 => th ρ2 n2 (fun hi ρ3 n3 => ∃ ds, x = .tuple ds ∧ (cutL ds lo hi).length < ds.length ∧ (cutL ds lo hi).all flatK = true ∧ k (.tuple (cutL ds lo hi)) ρ3 n3) ke) ke) ke
theorem pk_sl {a : Expr} {lo hi : Option Expr} {ta : CE} {tl th : CO} {p2 : Pos} (G : Good X g) (ha : PD X g xk a ta) (hl : PDO X g xk lo tl) (hh : PDO X g xk hi th) : PDK X g xk (.Subscript a (.Slice lo hi none p2) pos) (cKeySl ta tl th) := by
  refine ⟨PE.imp (pe_slice (SlR.or sl_list (SlR.or sl_tupA sl_str)) ha.pe hl.po hh.po) fun σ H Q h => ?_⟩
  obtain ⟨C, ρ, n, O, k, ke, hK, E, t, x, q⟩ := h
  refine ⟨C, ρ, n, O, _, ke, hK, E, t, x, fun d ρ1 n1 v H1 O1 k1 E1 S1 i1 => ⟨C, ρ1, n1, O1, _, ke, hK, E1, k1, x, fun lo ρ2 n2 H2 O2 k2 E2 S2 => ⟨C, ρ2, n2, O2, _, ke, hK, E2, k2, x, fun hi ρ3 n3 H3 O3 k3 E3 S3 => ?_⟩⟩⟩
  obtain ⟨ds, rfl, hlen, hf, k3⟩ := k3
  have i3 := (i1.same S2).same S3
  obtain ⟨a, xs, rfl, ha, r⟩ := i3.tup'
  have cut := cutV_is lo hi r
  refine .inr (.inl ⟨a, xs, rfl, (hK.1.trans G.K) ▸ sqt_same hid_le ha, fun c => ?_, fun _ p hp => ?_⟩)
  · have e : cutV xs lo hi = xs := by
      unfold cutV
      rw [c.1, c.2, Nat.sub_zero]
      exact List.take_length
    have l1 := cut.length
    rw [e, r.length] at l1
    omega
  · obtain ⟨ks, e1, e2⟩ := isL_keys cut hf
    obtain ⟨E4, S4, g4⟩ := E3.new (o := .tup (cutV xs lo hi)) hp
    rw [e1] at k3
    rw [e2] at E4 S4 g4 ⊢
    exact q _ _ _ _ _ _ k3 E4 (((S1.trans S2).trans S3).trans S4) (.t g4)
/-! ### dict(l), l a list of pairs, their keys tuples -/
def putAllT (m : List (List L2.Key × V)) (kvs : List (List L2.Key × V)) : List (List L2.Key × V) := kvs.foldl (fun m p => L2.putK m p.1 p.2) m
def PrR (H : Hp) (p : Addr) (kv : List L2.Key × V) : Prop := ∃ b, H p = some (.tup [.ref b, kv.2]) ∧ H b = some (.tup (kv.1.map kV))
def rDictTP : List V → Hp → VK → Prop := fun xs H Q => ∃ (a : Addr) (ps : List Addr) (kvs : List (List L2.Key × V)), xs = [.ref a] ∧ H a = some (.lst (ps.map V.ref)) ∧ Paired (PrR H) ps kvs ∧ ∀ p, H p = none → Q (.ref p) (upd H p (.dT (putAllT [] kvs)))
theorem kt_all {H : Hp} : ∀ {kvs : List (List L2.Key × V)} {prs : List (List L2.Key × Addr × Value)} {m : List (List L2.Key × V)} {ms : List (List L2.Key × Addr × Value)}, KT H kvs prs → KT H m ms → KT H (putAllT m kvs) (storedAllH ms prs)
  | _, _, _, _, .nil, h => h
  | _, _, m, ms, .cons (a := p) (b := q) z t, h => by
    obtain ⟨z1, z2, z3⟩ := z
    have h2 := h.put p.1 z2 z3
    have h3 : KT H (L2.putK m p.1 p.2) (storedH ms q.1 q.2.1 q.2.2) := by
      rw [← z1]
      exact h2
    have h4 := kt_all t h3
    exact h4
theorem two_ofT {pins : List (Addr × Obj)} {σ : L2.St} {H : Hp} {s : Shared} (I : Inv X pins σ H s) : ∀ {ps : List Addr} {kvs : List (List L2.Key × V)}, Paired (PrR H) ps kvs →
    ∃ (prs : List (List L2.Key × Addr × Value)) (vs : List (Value × Value)), KT H kvs prs ∧ prs.length = ps.length ∧ vs.length = ps.length ∧ (∀ x ∈ prs, (tupleKind (mixKind X.prog X.w)).is s.heap x.1 x.2.1) ∧ ∀ (j : Nat) (y z : Value), vs[j]? = some (y, z) → ∃ (b : Addr) (k : List L2.Key) (c : Addr), prs[j]? = some (k, c, z) ∧ ps[j]? = some b ∧ IsTup s.heap b #[y, z] ∧ y = .ref c
  | _, _, .nil => ⟨[], [], .nil, rfl, rfl, (fun x hx => by cases hx), fun j y z e => by simp at e⟩
  | _, _, .cons (a := p) (b := kv) h t => by
    obtain ⟨prs, vs, rel, l1, l2, hk, each⟩ := two_ofT I t
    obtain ⟨b, h1, h2⟩ := h
    obtain ⟨_, its, rv, tup⟩ := (show ObjOk X.prog X.w H s.heap p (.tup [.ref b, kv.2]) from I.hok p _ h1)
    obtain ⟨u, v, ei, ru, ry⟩ := vals2 rv
    subst ei
    cases (show u = Value.ref b from ru)
    refine ⟨(kv.1, b, v) :: prs, (.ref b, v) :: vs, .cons ⟨rfl, h2, ry⟩ rel, by simp [l1], by simp [l2], fun x hx => ?_, fun j y z e => ?_⟩
    · rcases List.mem_cons.mp hx with e | hx
      · subst e
        exact key_of I.hok h2
      · exact hk x hx
    · cases j with
      | zero =>
        cases e
        exact ⟨p, kv.1, b, rfl, rfl, tup, rfl⟩
      | succ j =>
        obtain ⟨b', k, c, e1, e2, e3, e4⟩ := each j y z (by simpa using e)
        exact ⟨b', k, c, by simpa using e1, by simpa using e2, e3, e4⟩
theorem call_dictTP (calm : X.calm = true) (hu : X.A.units + 2 < cLine) : CallR X (.type "dict") rDictTP := by
  intro pins s σ H xs us Q I r h
  obtain ⟨a, ps, kvs, rfl, ea, hp, q⟩ := h
  obtain ⟨u, rfl, rx⟩ := vals1 r
  cases rx
  obtain ⟨sz, its, n, ri, ho⟩ := (show ObjOk X.prog X.w H s.heap a (.lst (ps.map V.ref)) from I.hok a _ ea)
  have ei := refs_at ri
  subst ei
  rw [List.length_map] at sz
  obtain ⟨prs, vs, rel, len, lv, hkeys, each⟩ := two_ofT I hp
  have items : PairItems s.heap (ps.map Value.ref).toArray (fun j => (ps[j]?).getD 0) vs := by
    refine ⟨by simp [lv], fun j y z e => ?_⟩
    obtain ⟨b, k, c, _, e2, e3, _⟩ := each j y z e
    have e3' : s.heap.IsTuple b #[y, z] := e3
    exact ⟨by simp [e2], .inl (by simpa [e2] using e3')⟩
  refine PySem.call_dict_pairsH (knd := tupleKind (mixKind X.prog X.w)) (ps := prs) (PairArg.list a (ps.map Value.ref).toArray (fun j => (ps[j]?).getD 0) vs) (I.ok.hd calm) hu ⟨⟨_, n, ho, rfl, rfl, rfl⟩, items⟩ ⟨by rw [len, lv], fun i key v e => ?_⟩ (fun h' hk x hx => ?_) (by rw [lv]; exact sz) fun h' tk hd' keep => ?_
  · obtain ⟨b, k, c, e1, _, _, e4⟩ := each i key v e
    exact ⟨k, c, e1, e4⟩
  · refine tupleKind_stays.stays (fun b o us n e _ => hk b o (fun z => ?_) (fun z => nomatch z) e) (hkeys x hx)
    subst z
    exact Nat.lt_irrefl _ (Heap.lt_size e)
  · have notM : (s.heap.objs.size == sysModules) = false := beq_eq_false_iff_ne.mpr (Nat.ne_of_gt I.big)
    have fresh := I.hok.fresh (Nat.le_refl s.heap.objs.size)
    have rel2 : KT H (putAllT [] kvs) (storedAllH [] prs) := kt_all rel .nil
    have small : (putAllT [] kvs).length ≤ sizeLine := by
      rw [rel2.length]
      have := storedAllH_length prs []
      rw [List.length_nil, Nat.zero_add, len] at this
      omega
    obtain ⟨o, es, ep, d1, d2, d3, d4, d5, d6⟩ := hd'
    exact ⟨.ref s.heap.objs.size, _, I.laid (t' := tk) (fun b o e => keep b o (fun z => nomatch z) e) (Nat.le_refl _) (show ObjOk X.prog X.w _ _ _ (.dT (putAllT [] kvs)) from ⟨small, notM, storedAllH [] prs, rel2.keeps (fun b ys e => by
      rw [upd_ne (ne_of_none e fresh)]
      exact e), o, es, ep, d1, d2, d3, d4, d6⟩), rfl, q _ fresh⟩
/-! the comprehension's turns -/
def isTupD (d : D) : Prop := ∃ xs, d = .tuple xs
def putAllD (m acc : List (D × D)) : List (D × D) := acc.foldl (fun m p => putKD m p.1 p.2) m
def cDlL (cg : CG) (tt : CT) (tk tv : CE) (vs : List Nat) : List D → En → Nat → List (D × D) → (List (D × D) → En → Nat → Prop) → Prop
  | [], ρ, n, acc, k => k acc ρ n
  | d :: ds, ρ, n, acc, k => ∃ ρ1, cg d ρ = some ρ1 ∧ tt ρ1 n (fun b ρ2 n2 => if b = true then tk ρ2 n2 (fun x ρ3 n3 => tv ρ3 n3 (fun y ρ4 n4 => acc.length < lim ∧ isTupD x ∧ cDlL cg tt tk tv vs ds (wipeE ρ4 vs) n4 (acc ++ [(x, y)]) k) kF) kF
      else cDlL cg tt tk tv vs ds (wipeE ρ2 vs) n2 acc k) kF
def cDl (ci : CA) (cg : CG) (tt : CT) (tk tv : CE) (vs : List Nat) : CE := fun ρ n k ke => ci ρ n (fun ds ρ' n' => cDlL cg tt tk tv vs ds (wipeE ρ' vs) n' [] (fun acc ρ2 n2 => k (dT (putAllD [] acc)) ρ2 n2)) ke
def PrD (T : Tab) (H : Hp) (v : V) (kv : D × D) : Prop := ∃ (p b : Addr) (ks : List L2.Key) (y : V), v = .ref p ∧ H p = some (.tup [.ref b, y]) ∧ H b = some (.tup (ks.map kV)) ∧ kv.1 = .tuple (ks.map kD) ∧ Is T H y kv.2
theorem PrD.same {T : Tab} {H H' : Hp} {v : V} {kv : D × D} (h : PrD T H v kv) (s : Same H H') : PrD T H' v kv :=
  let ⟨p, b, ks, y, e1, e2, e3, e4, e5⟩ := h
  ⟨p, b, ks, y, e1, s _ _ e2, s _ _ e3, e4, e5.same s⟩
theorem prd_raw {T : Tab} {Hh H : Hp} (S : Same Hh H) : ∀ {vs : List V} {acc : List (D × D)}, Paired (PrD T Hh) vs acc → ∃ (ps : List Addr) (kvs : List (List L2.Key × V)), vs = ps.map V.ref ∧ Paired (PrR H) ps kvs ∧ ∀ (m : List (List L2.Key × V)) (ms : List (D × D)), IsT T Hh m ms → IsT T Hh (putAllT m kvs) (putAllD ms acc)
  | _, _, .nil => ⟨[], [], rfl, .nil, fun _ _ h => h⟩
  | _, _, .cons (a := v) (b := kv) h t => by
    obtain ⟨ps, kvs, e, hp, hi⟩ := prd_raw S t
    obtain ⟨p, b, ks, y, rfl, e2, e3, e4, e5⟩ := h
    refine ⟨p :: ps, (ks, y) :: kvs, by rw [e]; rfl, .cons ⟨b, S _ _ e2, S _ _ e3⟩ hp, fun m ms hm => ?_⟩
    show IsT T Hh (putAllT (L2.putK m ks y) kvs) (putAllD (putKD ms kv.1 kv.2) _)
    rw [e4]
    exact hi _ _ (isT_put ks e5 hm)
theorem dl_use {ci : CA} {cg : CG} {js vs : List Nat} {tt : CT} {tk tv : CE} (hj : ∀ j ∈ js, j ∈ vs) {σ : L2.St} {H : Hp} {Q : VK} (r : liftF g xk (cDl ci cg tt tk tv vs) σ H Q) :
    tLc (liftI g xk ci) (liftG g js cg) (liftT g xF tt) (tTup (tCons (liftK g xF tk) (tCons (lift g xF tv) tNil))) vs σ H (fun v H1 => rDictTP [v] H1 Q) := by
  obtain ⟨C, ρ, n, O, k, ke, hK, E, t, x, q⟩ := r
  refine ⟨C, ρ, n, O, _, ke, hK, E, t, x, fun ds ρ1 n1 J H1 O1 k1 E1 S1 WD => ?_⟩
  intro Da nD
  obtain ⟨f1, f2, f3, f4⟩ := E1.fresh nD
  obtain ⟨Gd, Y, WK, hG, hY⟩ := WD.ex
  refine lc_it WK (fun i H => ∃ (ρ : En) (n : Nat) (O : Ow) (acc : List (D × D)) (accV : List V), Ev C ρ n (wipe σ vs) (out H Da) O ∧ H Da = some (.lst accV) ∧ Paired (PrD C.T (hid C O (out H Da))) accV acc ∧
    cDlL cg tt tk tv vs (ds.drop i) ρ n acc (fun acc ρ2 n2 => k (dT (putAllD [] acc)) ρ2 n2) ∧ Same (hid C O1 H1) (hid C O (out H Da))) ?_ ?_ ?_ ?_
  · refine ⟨_, n1, _, [], [], (by rw [out_new nD]; exact E1.wipes vs), upd_same, .nil, k1, ?_⟩
    rw [out_new nD]
    exact hid_cuts vs
  · rintro i H2 _ ⟨ρ2, n2, O2, acc, accV, E2, eD, iA, c2, S2⟩
    exact hG _ ((S2.trans hid_le).trans out_le)
  · rintro i x0 H2 H3 hi' ⟨ρ2, n2, O2, acc, accV, E2, eD, iA, c2, S2⟩ y
    have hd : ds.drop i = ds[i] :: ds.drop (i + 1) := List.drop_eq_getElem_cons hi'
    rw [hd] at c2
    obtain ⟨ρ3, e3, c3⟩ := c2
    have S2' : Same (hid C O1 H1) H2 := (S2.trans hid_le).trans out_le
    obtain ⟨sY, iY⟩ := hY i x0 H2 H3 ds[i] S2' y (List.getElem?_eq_getElem hi')
    have E4 := E2.hide eD
    have E5 := E4.ext sY
    have h45 := hid_same (C := C.plus Da (.lst accV)) (O := O2) sY
    have S6 : Same (hid C O1 H1) (hid (C.plus Da (.lst accV)) O2 H3) := by
      refine Same.trans ?_ h45
      rw [hid_plus]
      exact S2
    have ix : Is C.T (hid (C.plus Da (.lst accV)) O2 H3) x0 ds[i] := iY _ S6 fun b u h1 h2 => let ⟨g1, g2, _, _⟩ := E4.fresh h2; hid_of h1 g1 g2
    refine ⟨C.plus Da (.lst accV), ρ2, ρ3, n2, O2, ds[i], hK, E5, ix, e3, fun σ4 O4 E6 S7 A4 => ⟨wipe_wp A4 hj, ?_⟩⟩
    have wp : wipe σ4 vs = wipe σ vs := wipe_wp A4 hj
    refine ⟨C.plus Da (.lst accV), ρ3, n2, O4, _, kF, hK, E6, c3, xl_F, fun b ρ5 n5 H5 O5 c5 E7 S8 => ?_⟩
    cases b with
    | false =>
      show ∃ _, _
      obtain ⟨E8, eD8⟩ := E7.unhide f1 f4 f3
      have E9 := E8.wipes vs
      rw [wp] at E9
      have S10 := ((S6.trans S7).trans S8)
      rw [hid_plus] at S10
      have iA2 : Paired (PrD C.T (hid C O5 (out H5 Da))) accV acc := Paired.mapP iA fun _ _ z => z.same (by
        have := (h45.trans S7).trans S8
        rw [hid_plus, hid_plus] at this
        exact this)
      exact ⟨_, _, _, acc, accV, E9, eD8, Paired.mapP iA2 fun _ _ z => z.same (hid_cuts vs), c5, S10.trans (hid_cuts vs)⟩
    | true =>
      refine ⟨C.plus Da (.lst accV), ρ5, n5, O5, _, kF, hK, E7, c5, xl_F, fun kd ρ6 n6 kv H6 O6 c6 E8 S9 ik => ⟨C.plus Da (.lst accV), ρ6, n6, O6, _, kF, hK, E8, c6, xl_F, fun yd ρ7 n7 yv H7 O7 c7 E9 S11 iy => ⟨show 2 ≤ sizeLine by decide, fun p hp => ?_⟩⟩⟩
      obtain ⟨E10, S12, gp⟩ := E9.new (o := .tup [kv, yv]) hp
      obtain ⟨E11, eD11⟩ := E10.unhide f1 f4 f3
      obtain ⟨c8, ⟨xs, ex⟩, c9⟩ := c7
      subst ex
      refine ⟨accV, eD11, by rw [iA.length]; exact lim_lt c8, ?_⟩
      have E12 := E11.wipes vs
      rw [wp] at E12
      have S10 := (((((S6.trans S7).trans S8).trans S9).trans S11).trans S12)
      rw [hid_plus] at S10 gp
      have ik2 := (ik.same S11).same S12
      have iy2 := iy.same S12
      rw [hid_plus] at ik2 iy2
      have iA2 : Paired (PrD C.T (hid C O7 (out (upd H7 p (.tup [kv, yv])) Da))) accV acc := Paired.mapP iA fun _ _ z => z.same (by
        have := ((((h45.trans S7).trans S8).trans S9).trans S11).trans S12
        rw [hid_plus, hid_plus] at this
        exact this)
      have new : PrD C.T (hid C O7 (out (upd H7 p (.tup [kv, yv])) Da)) (.ref p) (.tuple xs, yd) := by
        generalize hk : PyData.tuple xs = key at ik2
        cases ik2 with
        | k k => cases k <;> cases hk
        | @t b ks hb => exact ⟨p, b, ks, yv, rfl, gp, hb, rfl, iy2⟩
      refine ⟨_, _, cutOs O7 vs, acc ++ [(.tuple xs, yd)], accV ++ [.ref p], ?_, upd_same, ?_, c9, ?_⟩
      · rw [out_upd]
        exact E12
      · rw [out_upd]
        exact Paired.mapP (Paired.snoc iA2 new) fun _ _ z => z.same (hid_cuts vs)
      · rw [out_upd]
        exact S10.trans (hid_cuts vs)
  · rintro H2 ⟨ρ2, n2, O2, acc, accV, E2, eD, iA, c2, S2⟩
    rw [List.drop_length] at c2
    obtain ⟨ps, kvs, ev, hp, hi⟩ := prd_raw (H := H2) (hid_le.trans out_le) iA
    refine ⟨Da, ps, kvs, rfl, by rw [eD, ev], hp, fun p hp' => ?_⟩
    have hp2 : out H2 Da p = none := by
      unfold out
      split
      · rfl
      · exact hp'
    exact q _ _ _ _ (out H2 Da) _ _ c2 E2.unwipe (S1.trans S2) hp2 (fun b o e => by
      rw [upd_ne (ne_of_none e hp2)]
      exact out_le _ _ e) (.dt upd_same (hi _ _ .nil)) rfl
theorem pf_dl {tg iter ek ev : Expr} {ifs : List Expr} {scope : Scope} {own : List (Str × Nat)} {ci : CA} {cg : CG} {js : List Nat} {tt : CT} {tk tv : CE} {p1 p2 : Pos} {x1} (hu : X.A.units + 2 < cLine) (hgd : Gl X "dict") (hmd : X.mg "dict" = none) (hc : X.calm = true) (hN : X.N.Nodup) (hi : PDI X g xk tg iter ci) (ok : BlkOk X.N X.env.scope scope own)
    (hg : ∀ (s : Shared) (H : Hp) (C : Addr) (cl : List (Str × Addr)) (fp : List Addr), PDG (X.blk s H scope (compEnvC scope cl C X.env) fp) g js tg cg) (ht : ∀ (s : Shared) (H : Hp) (C : Addr) (cl : List (Str × Addr)) (fp : List Addr), PDTs (X.blk s H scope (compEnvC scope cl C X.env) fp) g xF ifs tt)
    (hk : ∀ (s : Shared) (H : Hp) (C : Addr) (cl : List (Str × Addr)) (fp : List Addr), PDK (X.blk s H scope (compEnvC scope cl C X.env) fp) g xF ek tk) (hv : ∀ (s : Shared) (H : Hp) (C : Addr) (cl : List (Str × Addr)) (fp : List Addr), PD (X.blk s H scope (compEnvC scope cl C X.env) fp) g xF ev tv)
    (h1 : ∀ (s : Shared) (H : Hp) (C : Addr) (cl : List (Str × Addr)) (fp : List Addr), starEach [ek, ev] (X.blk s H scope (compEnvC scope cl C X.env) fp).env = (false, eval ek (X.blk s H scope (compEnvC scope cl C X.env) fp).env) :: starEach [ev] (X.blk s H scope (compEnvC scope cl C X.env) fp).env := by intros; rfl)
    (h2 : ∀ (s : Shared) (H : Hp) (C : Addr) (cl : List (Str × Addr)) (fp : List Addr), starEach [ev] (X.blk s H scope (compEnvC scope cl C X.env) fp).env = (false, eval ev (X.blk s H scope (compEnvC scope cl C X.env) fp).env) :: starEach [] (X.blk s H scope (compEnvC scope cl C X.env) fp).env := by intros; rfl)
    (hj : ∀ j ∈ js, j ∈ own.map (·.2) := by decide) (hs : ∀ x, foldedSetIterable iter X.env x = pure x := by intro _; rfl)
    (he : starEach [Expr.ListComp (.Tuple [ek, ev] x1 p1) [⟨tg, iter, ifs, 0⟩] scope p2] X.env = (false, eval (Expr.ListComp (.Tuple [ek, ev] x1 p1) [⟨tg, iter, ifs, 0⟩] scope p2) X.env) :: starEach [] X.env := by rfl) (hpl : (backTo pos (starEach [] X.env)).any (·.1) = false := by rfl) {p3 : Pos} :
    PDF X g xk (.Call (.Name "dict" p3) [.ListComp (.Tuple [ek, ev] x1 p1) [⟨tg, iter, ifs, 0⟩] scope p2] [] pos) (cDl ci cg tt tk tv (own.map (·.2))) :=
  ⟨PE.imp (pe_callTy (T := "dict") (call_dictTP hc hu) hgd hmd (by decide +kernel) (pa_cons (pe_lc hc hN hi.pi ok (fun s H C cl fp => (hg s H C cl fp).pg) (fun s H C cl fp => (ht s H C cl fp).pts) (fun s H C cl fp => pe_tup (pa_cons (hk s H C cl fp).pe (pa_cons (hv s H C cl fp).pe pa_nil (h2 s H C cl fp)) (h1 s H C cl fp))) hs) pa_nil he) (by decide) (by decide) he hpl) fun σ H Q r => dl_use hj r⟩
end
end RM
namespace PySem.W
open PySem PySem.Spec PyProof.Rows
open Builtin
section
variable {prog : Program} {w : World} {A A₀ : Around} {E : Value → Shared → Prop} {s : Shared} {K : Frag} {x C L f : Addr} {h₀ : Heap} {m : Str → Option Value} {ox : Obj} {od : Option Obj} {name : Str} {b tb : Value}
/-- a built-in slot of an own instance -/
theorem ifBoundB_K {M : Model} {id : String} {args : List Value} {Q : Option Value → Shared → Prop} (X : K.In s.heap) (I : InstAt s.heap x ox C od) (hs : findIn K (.ref C) name = some (some (.builtin id))) (hb : ∀ self, bindSpecial (.builtin id) self = pure (.builtin id, [self]))
    (h : wpAny M A (call (.builtin id) (.ref x :: args)) (fun v => Q (some v)) E s) : wpAny M A (callSpecialIfBound? (.ref x) name args) Q E s := by
  simp only [callSpecialIfBound?, bindSpecialIfBound?]
  refine wpAny_holding (wpAny_bind (wpAny_bind (wpAny_bind (I.type.here ((looks_findIn X hs).here ?_)))))
  simp only [hb]
  refine wpAny_bind (wpAny_askSetting (wpAny_ite ?_))
  have fin : wpAny M A (call (.builtin id) ([.ref x] ++ args) >>= fun v => pure (some v)) Q E s := wpAny_bind (wpAny_mono h (fun v s' h' => wpAny_pure h') fun _ _ h' => h')
  split
  · exact wpAny_bind (wpAny_pure (wpAny_pure fin))
  · exact wpAny_tryCatch (wpAny_bind (wpAny_pure (wpAny_pure fin)))
theorem ne_entry (X : K.In s.heap) (I : InstAt s.heap x ox C od) (he : findIn K (.ref C) "__eq__" = some (some (.ref f))) (hf : isFn K (.ref f) = true) (hu : A.units < cLine) {Q : Fin → Shared → Prop}
    (h : wpAny (model prog w) A (call (.ref f) [.ref x, b]) (fun v s' => ∃ bb, v = .bool bb ∧ Q (.done (.ret (.bool (!bb)))) s') E s) : wpAny (model prog w) A (Builtin.«object.__ne__» ⟨[.ref x, b], []⟩) Q E s := by
  unfold Builtin.«object.__ne__»
  repeat (first
    | with_reducible refine wpAny_cRoomFor hu ?_
    | (refine wpAny_bind (m := callSpecialIfBound? (.ref x) (Str.ofString "__eq__") [b])
        (ifBound_K X I he hf (wpAny_mono h (fun r s' hr => by
          obtain ⟨bb, rfl, hq⟩ := hr
          repeat (first | exact hq | exact wpAny_pure hq | exact wpAny_truthy_bool hq | (refine wpAny_bind (m := truthy (.bool _)) (wpAny_truthy_bool ?_)) | wp_step)) fun _ _ e => e)))
    | wp_step)
theorem ne_K {Q : Value → Shared → Prop} (hu : A.units + 1 < cLine) (F : Fr h₀ L s.heap m) (X₀ : K.In h₀) (I : InstAt s.heap x ox C od) (hb : Looks (model prog w) s.heap (typeOf b) tb) (hn : notFirst K C tb = true)
    (hs : findIn K (.ref C) "__ne__" = some (some (.builtin "object.__ne__"))) (ho : subIn K (.ref C) (.type "object") = some true) (he : findIn K (.ref C) "__eq__" = some (some (.ref f))) (hf : isFn K (.ref f) = true)
    (h : wpAny (model prog w) A.in1 (call (.ref f) [.ref x, b]) (fun v s' => ∃ bb, v = .bool bb ∧ Q (.bool (!bb)) s') E s) : wpAny (model prog w) A (richCompare .NotEq (.ref x) b) Q E s := by
  have X := X₀.keeps F.keep
  have sub : Looks (model prog w) s.heap (isInstance (.ref x) (.type "object")) true := I.type.andThen (looks_subIn X ho)
  have one : wpAny (model prog w) A (tryCompare (.ref x) "__ne__" b) (fun r s' => ∃ v, r = some v ∧ Q v s') E s := by
    unfold tryCompare
    refine wpAny_bind (ifBoundB_K X I hs PySem.F.cmp_object.ne.bind (wpAny_call (codeAny_call_builtin PySem.F.cmp_object.ne.plain PySem.F.cmpEntry_ne
      (@check_slot (model prog w) _ _ s "object.__ne__" "object" "__ne__" (.ref x) [b] [] _ PySem.F.cmpKind_ne PySem.F.cmpSplit_ne sub (PySem.F.cmpArgs_ne _ _) (ne_entry (A := A.in1) X I he hf hu (wpAny_mono h (fun v s' hv => ?_) fun _ _ e => e))))))
    obtain ⟨bb, rfl, hq⟩ := hv
    first | exact ⟨bb, rfl, wpAny_pure ⟨_, rfl, hq⟩⟩ | exact ⟨bb, rfl, wpAny_pure (wpAny_pure ⟨_, rfl, hq⟩)⟩ | exact ⟨bb, rfl, _, rfl, hq⟩
  unfold richCompare
  simp only [oneThing_ref]
  refine wpAny_holding (wpAny_bind (wpAny_cRoomFor (Nat.lt_of_succ_lt hu) ?_))
  rw [cmpInfo_NotEq]
  dsimp only
  refine wpAny_bind (I.type.here (wpAny_bind (hb.here ?_)))
  split
  · rename_i q
    have e : subIn K tb (.ref C) = some false := by
      rcases Bool.or_eq_true_iff.mp hn with e | e
      · rw [beq_iff_eq.mp e] at q; simp at q
      · exact beq_iff_eq.mp e
    refine wpAny_bind ((looks_subIn X e).here ?_)
    simp only [Bool.false_eq_true, if_false]
    refine wpAny_bind (wpAny_mono one (fun r s' z => ?_) fun _ _ e => e)
    obtain ⟨v, rfl, hq⟩ := z
    exact wpAny_pure hq
  · refine wpAny_bind (wpAny_pure ?_)
    simp only [Bool.false_eq_true, if_false]
    refine wpAny_bind (wpAny_mono one (fun r s' z => ?_) fun _ _ e => e)
    obtain ⟨v, rfl, hq⟩ := z
    exact wpAny_pure hq
end
end PySem.W
namespace RM
open PySem PySem.Spec PyProof.Rows L2 CS RZ
/-! ### != by one's own ==; == with something else -/
def neB (K : PySem.W.Frag) (C : Addr) : Bool := (PySem.W.findIn K (.ref C) "__ne__" == some (some (.builtin "object.__ne__"))) && (PySem.W.subIn K (.ref C) (.type "object") == some true)
structure HasNe (P : Program) (w : World) (K : PySem.W.Frag) (mg : Str → Option Value) (base : Heap) (g : Glob) (j : Nat) (c : Nat) (ps : List Str) (sd : SpD) : Prop where
  eq : HasEq P w K mg base g j c ps sd
  ne : neB K (g.cls c) = true
def cNeO (sd : SpD) (ta tb : CE) (c : Nat) : CE := fun ρ n k ke => ta ρ n (fun x ρ1 n1 => tb ρ1 n1 (fun y ρ2 n2 => (∃ fs, x = obj c fs) ∧ (∃ fs, y = obj c fs) ∧ sd [x, y] n2 (fun z n3 => ∃ b, z = .bool b ∧ k (.bool (!b)) ρ2 n3) (fun w n3 => ke w ρ2 n3)) ke) ke
def cEqK (sd : SpD) (ta tb : CE) (c : Nat) : CE := fun ρ n k ke => ta ρ n (fun x ρ1 n1 => tb ρ1 n1 (fun y ρ2 n2 => (∃ fs, x = obj c fs) ∧ (∃ t, kindD y = some t) ∧ sd [x, y] n2 (fun z n3 => k z ρ2 n3) (fun w n3 => ke w ρ2 n3)) ke) ke
theorem kit_type {K : PySem.W.Frag} {M : Model} {h : Heap} {u : Value} {t : String} {pins : List (Addr × Obj)} {X : Cx} {σ : L2.St} {H : Hp} {s : Shared} {x : V} {T : Tab} {d : D} (hK : T.K = X.K) (I : Inv X pins σ H s) (r : RelV x u) (i : Is T H x d) (e : kindD d = some t) : PySem.W.Looks M s.heap (typeOf u) (.type t) := by
  cases i with
  | non => cases e; cases (show u = Value.none from r); exact PySem.W.Looks.of_pure (by kernel_rfl)
  | bl b => cases e; cases (show u = Value.bool b from r); exact PySem.W.Looks.of_pure (by kernel_rfl)
  | int z => cases e; obtain ⟨t, q⟩ := (show ∃ t, u = Value.int z t from r); cases q; exact PySem.W.Looks.of_pure (by kernel_rfl)
  | str z => cases e; obtain ⟨t, q⟩ := (show ∃ t, u = Value.str z t from r); cases q; exact PySem.W.Looks.of_pure (by kernel_rfl)
  | @lst a xs ds g1 r1 =>
    cases e
    cases (show u = Value.ref a from r)
    obtain ⟨_, _, n, _, h1⟩ := (show ObjOk X.prog X.w H s.heap a (.lst xs) from I.hok a _ g1)
    exact (PySem.W.Looks.ld h1).andThen .now
  | @tup a xs ds g1 r1 =>
    cases e
    cases (show u = Value.ref a from r)
    obtain ⟨its, rv, ⟨o, h1, h2, _⟩, _⟩ := I.tuple (hK ▸ g1)
    exact h2 ▸ (PySem.W.Looks.ld h1).andThen .now
  | box _ => cases e
  | dk _ _ => cases e
  | dt _ _ => cases e
  | obj _ _ _ => cases e
  | exc _ _ _ => cases e
  | exn _ => cases e
section
variable {X : Cx} {g : Glob} {xk : WX} {pos : Pos}
theorem pc_neO {sd : SpD} {k : Nat} {ps : List Str} {a b : Expr} {ta tb : CE} {c : Nat} {f : Addr} {fd : FuncData} (F : FnOk X.prog X.w X.K X.mg X.base CX0 k f fd ps (spD g sd)) (hr : Room (k + 1) X.A) (hb : Binds X.K fd ps [])
    (hs : PySem.W.findIn X.K (.ref (g.cls c)) "__eq__" = some (some (.ref f))) (hf : PySem.W.isFn X.K (.ref f) = true) (hn : neB X.K (g.cls c) = true) (h1 : PD X g xk a ta) (h2 : PD X g xk b tb) : PC X .NotEq a b (lift g xk (cNeO sd ta tb c)) := by
  refine ⟨fun pins s σ H Q I h => ?_⟩
  obtain ⟨C, ρ, n, O, kk, ke, hK, E, t, x, q⟩ := h
  refine (binT (R := fun v w H2 => ∃ (d1 d2 : D) (ρ2 : En) (n2 : Nat) (O2 : Ow), ((∃ fs, d1 = obj c fs) ∧ (∃ fs, d2 = obj c fs) ∧ sd [d1, d2] n2 (fun z n3 => ∃ b, z = .bool b ∧ kk (.bool (!b)) ρ2 n3) (fun w n3 => ke w ρ2 n3)) ∧ Ev C ρ2 n2 σ H2 O2 ∧ Same (hid C O H) (hid C O2 H2) ∧ Is C.T (hid C O2 H2) v d1 ∧ Is C.T (hid C O2 H2) w d2) h1.pe h2.pe I
    ⟨C, ρ, n, O, _, ke, hK, E, t, x, fun d1 ρ1 n1 v H1 O1 k1 E1 S1 i1 => ⟨C, ρ1, n1, O1, _, ke, hK, E1, k1, x, fun d2 ρ2 n2 w H2 O2 k2 E2 S2 i2 => ⟨d1, d2, ρ2, n2, O2, k2, E2, S1.trans S2, i1.same S2, i2⟩⟩⟩ ?_)
  rintro v u s2 x1 y1 H2 I2 rx ry ⟨d1, d2, ρ2, n2, O2, ⟨⟨fs1, e1⟩, ⟨fs2, e2⟩, sdd⟩, E2, S2, i1, i2⟩
  subst e1
  subst e2
  obtain ⟨p1, dx1, us1, ex1, g1, _, _⟩ := isObj i1
  obtain ⟨p2, dx2, us2, ey1, g2, _, _⟩ := isObj i2
  subst ex1
  subst ey1
  obtain rfl : v = Value.ref p1 := rx
  obtain rfl : u = Value.ref p2 := ry
  rw [hK.2] at g1 g2
  obtain ⟨ox, od, J1⟩ := inst_of I2 (hid_le _ _ g1)
  obtain ⟨ox2, od2, J2⟩ := inst_of I2 (hid_le _ _ g2)
  obtain ⟨m, hfr⟩ := I2.fr
  unfold neB at hn
  rw [Bool.and_eq_true] at hn
  show wpAny _ _ (richCompare .NotEq (.ref p1) (.ref p2)) _ _ _
  refine PySem.W.ne_K (by have := hr.un; omega) hfr I2.ok.mod.kin J1 (J2.type) (by unfold PySem.W.notFirst; simp) (beq_iff_eq.mp hn.1) (beq_iff_eq.mp hn.2) hs hf ?_
  refine thn (run_in1 (us := [.ref p1, .ref p2]) (vs := [.ref p1, .ref p2]) (Q := fun w H3 => ∃ b, w = .bl b ∧ Q (.bl (!b)) H3) (E := WE xk) F hr hb pa0 I2 (.cons rfl (.cons rfl .nil)) (spD_use hK E2 x (.cons i1 (.cons i2 .nil)) sdd fun d n' v H' a b c i => ?_)) fun r s' hr' => ?_
  · obtain ⟨bb, rfl, a⟩ := a
    exact ⟨bb, isBl i, q _ _ _ _ _ _ a b (S2.trans c) (.bl _)⟩
  · obtain ⟨v3, H3, I3, rv3, bb, rfl, q3⟩ := hr'
    obtain rfl : r = Value.bool bb := rv3
    exact ⟨bb, rfl, .bl (!bb), H3, I3, rfl, q3⟩
theorem pd_ne1 {j k c : Nat} {ps : List Str} {a b : Expr} {t1 t2 : CE} {sd : SpD} (h : HasNe X.prog X.w X.K X.mg X.base g j c ps sd) (hr : Room k X.A) (l : j + 1 ≤ k) (h1 : PD X g xk a t1) (h2 : PD X g xk b t2) (hm : behindInMarks .NotEq b = false) : PD X g xk (.Compare a [.NotEq] [b] pos) (cNeO sd t1 t2 c) := by
  obtain ⟨⟨⟨f, fd, a1, a2, a3, a4⟩⟩, hn⟩ := h
  exact ⟨pe_cmp (pc_neO a1 (hr.mono l) a2 a3 a4 hn h1 h2) hm⟩
theorem pc_eqK {sd : SpD} {k : Nat} {ps : List Str} {a b : Expr} {ta tb : CE} {c : Nat} {f : Addr} {fd : FuncData} (F : FnOk X.prog X.w X.K X.mg X.base CX0 k f fd ps (spD g sd)) (hg : g.K = X.K) (hr : Room k X.A) (hb : Binds X.K fd ps [])
    (hs : PySem.W.findIn X.K (.ref (g.cls c)) "__eq__" = some (some (.ref f))) (hf : PySem.W.isFn X.K (.ref f) = true) (hn : ∀ t ∈ kinds, PySem.W.notFirst X.K (g.cls c) (.type t) = true) (h1 : PD X g xk a ta) (h2 : PD X g xk b tb) : PC X .Eq a b (lift g xk (cEqK sd ta tb c)) := by
  refine ⟨fun pins s σ H Q I h => ?_⟩
  obtain ⟨C, ρ, n, O, kk, ke, hK, E, t, x, q⟩ := h
  refine (binT (R := fun v w H2 => ∃ (d1 d2 : D) (ρ2 : En) (n2 : Nat) (O2 : Ow), ((∃ fs, d1 = obj c fs) ∧ (∃ t, kindD d2 = some t) ∧ sd [d1, d2] n2 (fun z n3 => kk z ρ2 n3) (fun w n3 => ke w ρ2 n3)) ∧ Ev C ρ2 n2 σ H2 O2 ∧ Same (hid C O H) (hid C O2 H2) ∧ Is C.T (hid C O2 H2) v d1 ∧ Is C.T (hid C O2 H2) w d2) h1.pe h2.pe I
    ⟨C, ρ, n, O, _, ke, hK, E, t, x, fun d1 ρ1 n1 v H1 O1 k1 E1 S1 i1 => ⟨C, ρ1, n1, O1, _, ke, hK, E1, k1, x, fun d2 ρ2 n2 w H2 O2 k2 E2 S2 i2 => ⟨d1, d2, ρ2, n2, O2, k2, E2, S1.trans S2, i1.same S2, i2⟩⟩⟩ ?_)
  rintro v u s2 x1 y1 H2 I2 rx ry ⟨d1, d2, ρ2, n2, O2, ⟨⟨fs1, e1⟩, ⟨t, ht⟩, sdd⟩, E2, S2, i1, i2⟩
  subst e1
  obtain ⟨p1, dx1, us1, ex1, g1, _, _⟩ := isObj i1
  subst ex1
  obtain rfl : v = Value.ref p1 := rx
  rw [hK.2] at g1
  obtain ⟨ox, od, J1⟩ := inst_of I2 (hid_le _ _ g1)
  obtain ⟨m, hfr⟩ := I2.fr
  have L := kit_type (M := model X.prog X.w) (K := X.K) (h := s2.heap) (hK.1.trans hg) I2 ry (i2.same hid_le) ht
  show wpAny _ _ (richCompare .Eq (.ref p1) u) _ _ _
  refine PySem.W.cmp_K (by have := hr.un; omega) hfr I2.ok.mod.kin J1 L (hn t (kind_mem ht)) hs hf ?_
  refine thn (run_fnSD (us := [.ref p1, u]) (ds := []) (dvs := []) (vs := [.ref p1, y1]) (Q := Q) (E := WE xk) F hr hb .nil pa0 I2 (.cons rfl (.cons ry .nil)) (spD_use hK E2 x (.cons i1 (.cons i2 .nil)) sdd fun d n' v H' a b c i => q _ _ _ _ _ _ a b (S2.trans c) i)) fun r s' hr' => ?_
  obtain ⟨v3, H3, I3, rv3, q3⟩ := hr'
  exact cmpBack_of rv3 ⟨v3, H3, I3, rv3, q3⟩
theorem pd_eqK {j k c : Nat} {ps : List Str} {a b : Expr} {t1 t2 : CE} {sd : SpD} (h : HasEq X.prog X.w X.K X.mg X.base g j c ps sd) (G : Good X g) (hn : ∀ t ∈ kinds, PySem.W.notFirst X.K (g.cls c) (.type t) = true) (hr : Room k X.A) (l : j ≤ k) (h1 : PD X g xk a t1) (h2 : PD X g xk b t2) (hm : behindInMarks .Eq b = false) : PD X g xk (.Compare a [.Eq] [b] pos) (cEqK sd t1 t2 c) := by
  obtain ⟨f, fd, a1, a2, a3, a4⟩ := h.ex
  exact ⟨pe_cmp (pc_eqK a1 G.K (hr.mono l) a2 a3 a4 hn h1 h2) hm⟩
end
end RM
namespace RM
open PySem PySem.Spec PyProof.Rows L2 CS RZ
theorem hu2 {k : Nat} {A : Around} (r : Room k A) : A.units + 2 < cLine := by have := r.un; omega
/-! ### a list a number of times -/
def repD : D → D → Option D
  | .list ds, .int k => if 0 ≤ k ∧ k ≤ 1000 ∧ ds.length * k.toNat ≤ lim then some (.list (List.replicate k.toNat ds).flatten) else none
  | _, _ => none
theorem isL_rep {T : Tab} {H : Hp} {vs : List V} {ds : List D} (h : IsL T H vs ds) : ∀ k : Nat, IsL T H (List.replicate k vs).flatten (List.replicate k ds).flatten
  | 0 => .nil
  | k + 1 => by
    rw [List.replicate_succ, List.replicate_succ, List.flatten_cons, List.flatten_cons]
    exact h.append (isL_rep h k)
theorem od_rep {X : Cx} : OpD X (binaryOp .Mult) repD := by
  refine ⟨_, op_rep, fun T Hh H x y dx dy z Q hK s ix iy hg q => ?_⟩
  unfold repD at hg
  split at hg
  · obtain ⟨⟨c1, c2, c3⟩, rfl⟩ := ifs hg
    obtain ⟨a, xs, rfl, ha, ra⟩ := ix.list'
    rw [iy.int']
    exact ⟨a, _, xs, rfl, rfl, s _ _ ha, by omega, by omega, by rw [ra.length]; exact lim_le c3, newL q (isL_rep ra _)⟩
  · cases hg
/-! a class known apart from the built-in kinds -/
def knB (K : PySem.W.Frag) (C : Addr) : Bool := kinds.all fun t => (PySem.W.kitOne K (.type t) (.ref C) == some false) && PySem.W.notFirst K C (.type t)
theorem knB_ok {K : PySem.W.Frag} {C : Addr} (h : inB K C = true) (h2 : knB K C = true) : KnC K C := by
  unfold knB at h2
  rw [List.all_eq_true] at h2
  exact ⟨inB_ok h, fun t ht => beq_iff_eq.mp (Bool.and_eq_true_iff.mp (h2 t ht)).1, fun t ht => (Bool.and_eq_true_iff.mp (h2 t ht)).2⟩
end RM
namespace RM
open PySem PySem.Spec PyProof.Rows L2 CS RZ
/-! ### k06: Counts added and taken away -/
structure Cn (L : List Tri) : Prop where
  g : GoodL L
  fine : Fine L
  pos : ∀ t ∈ L, 0 < t.2.2
  len : L.length ≤ 30
  nd : (L.map pr).Nodup
  pw : (L.map pr).Pairwise fun a b => leP a b = true
theorem cn_canon {l : List Tri} (hF : Fine l) (hg : GoodL l) (hl : l.length ≤ 30) : Cn (canon l) := ⟨good_canon hg, fine_canon hF, fun t ht => (canon_mem ht).2.1, by have := canon_len l; omega, canon_nodup l, List.pairwise_map.mpr (canon_pw l)⟩
theorem Cn.id {L : List Tri} (c : Cn L) : canon L = L := canon_id c.nd c.pw c.pos
theorem numAt_mem {l : List Tri} (hn : (l.map pr).Nodup) {t : Tri} (ht : t ∈ l) : numAt l (pr t) = t.2.2 := by
  induction l with
  | nil => cases ht
  | cons u l ih =>
    rw [numAt_cons]
    rw [List.map_cons, List.nodup_cons] at hn
    rcases List.mem_cons.mp ht with rfl | ht
    · rw [if_pos rfl]
    · have hne : ¬ pr u = pr t := fun w => hn.1 (by rw [w]; exact List.mem_map_of_mem ht)
      rw [if_neg hne]
      exact ih hn.2 ht
theorem numAt_none {l : List Tri} {p : Str × Str} (h : p ∉ l.map pr) : numAt l p = 0 := by
  induction l with
  | nil => rfl
  | cons u l ih =>
    rw [numAt_cons]
    rw [List.map_cons, List.mem_cons] at h
    have h2 := not_or.mp h
    rw [if_neg fun z => h2.1 z.symm]
    exact ih h2.2
theorem numAt_nonneg {l : List Tri} (h : ∀ t ∈ l, 0 < t.2.2) (p : Str × Str) : 0 ≤ numAt l p := by
  induction l with
  | nil => exact Int.le_refl _
  | cons u l ih =>
    rw [numAt_cons]
    split
    · have := h u (List.mem_cons_self ..)
      omega
    · exact ih fun t ht => h t (List.mem_cons_of_mem _ ht)
def shortT (L M : List Tri) : Option Tri := M.find? fun t => decide (numAt L (pr t) < t.2.2)
theorem fine_left {L M : List Tri} (cL : Cn L) (cM : Cn M) (h : shortT L M = none) : Fine (leftT L M) := fun t ht => by
  unfold leftT at ht
  obtain ⟨u, hu, rfl⟩ := List.mem_map.mp ht
  refine ⟨(cL.fine u hu).1, ?_⟩
  show 0 ≤ u.2.2 - numAt M (pr u)
  have h0 := cL.pos u hu
  by_cases c : pr u ∈ M.map pr
  · obtain ⟨t, ht2, e⟩ := List.mem_map.mp c
    have h1 := List.find?_eq_none.mp h t ht2
    rw [decide_eq_true_iff, e, numAt_mem cL.nd hu] at h1
    rw [← e, numAt_mem cM.nd ht2]
    omega
  · rw [numAt_none c]
    omega
def heardD (s : Str) (L M : List Tri) : D := match shortT L M with
  | some t => .list [.str t.1, .str t.2.1, .int (t.2.2 - numAt L (pr t)), .bool true, .bool false]
  | none => .list [.str s, .tuple (trisD (canon (leftT L M)))]
def sdHeard6 : SpD := fun ds n k _ => ∃ s L s2 M, ds = [cntD s L, cntD s2 M] ∧ Cn L ∧ Cn M ∧ k (heardD s L M) n
def sdTaken : SpD := fun ds n k _ => ∃ s L M, ds = [.str s, .tuple (trisD L), .tuple (trisD M)] ∧ Cn L ∧ Cn M ∧ k (heardD s L M) n
def sdM_begun : SpD := fun ds n k ke => ∃ s l a, ds = [cntD s l, .str a] ∧ Cn l ∧ k (cntD a l) n
def refD (L M : List Tri) : D := match shortT L M with
  | some _ => .list [.bool false, .bool true, .tuple (trisD L), .tuple (trisD L), .tuple (trisD M)]
  | none => .list [.bool true, .bool (decide (canon (leftT L M) = L)), .tuple (trisD (canon (leftT L M))), .tuple (trisD L), .tuple (trisD M)]
def sdRefused : SpD := fun ds n k _ => ∃ s L s2 M, ds = [cntD s L, cntD s2 M] ∧ GoodS s ∧ Cn L ∧ Cn M ∧ k (refD L M) n
def cs_Counts_begun : CS := cRet (cMake cCnt sdInit (cCons (cVar 1) (cCons (cFld (.nm 0) cCnt "_steps") (cNil))))
theorem himp_Counts_begun {e : EndsD} (ds : List D) (n : Nat) (k : D → Nat → Prop) (ke : Xv → Nat → Prop) (h : sdM_begun ds n k ke) (he : e.rt = k) (hx : ∀ x ρ n, ke x n → e.xc x ρ n) : cs_Counts_begun (startE ["self", "place"] ds) n e := by
  obtain ⟨s, l, a, rfl, c, q⟩ := h
  subst he
  refine ⟨rfl, _, _, rfl, fld_steps s l, a, _, trisD l, l, rfl, rfl, rowsAre_tris l, c.g, by have := c.len; omega, ?_⟩
  rw [wrongT_none c.fine, c.id]
  exact q
def heard6t1 : CS := cAsg (stT (stCons (stN 3) (stCons (stN 4) (stNil)))) (cTup (cCons (cC .none) (cCons (cC .none) (cNil))))
def heard6t2 : CS := cTryT [cShort] [cStill, cBelow, cShort] 2 (cSet 3 (cBinO sdBinSub (cVar 0) (cVar 1) cCnt)) (cSet 4 (cVar 2))
def heard6t3 : CS := cIfS (cB (cOp isN (cVar 4) (cC .none))) (cRet (cLst (cCons (cProp sdP_start (cVar 3) cCnt) (cCons (cProp sdP_steps (cVar 3) cCnt) (cNil))))) (cNext)
def heard6t4 : CS := cRet (cLst (cCons (cXFld (.nm 4) [cStill, cBelow, cShort] "one") (cCons (cXFld (.nm 4) [cStill, cBelow, cShort] "other") (cCons (cXFld (.nm 4) [cStill, cBelow, cShort] "lacking") (cCons (cIsX (.nm 4) [cStill, cBelow, cShort] (fun c => decide (c ≠ 0))) (cCons (cIsX (.nm 4) [cStill, cBelow, cShort] (fun c => decide (c = cBelow))) (cNil)))))))
def cs_heard6 : CS := cSq heard6t1 (cSq heard6t2 (cSq heard6t3 (heard6t4)))
abbrev n_heard6 : List Str := ["_law_made", "_law_its", "error_so", "_law_told", "_law_caught"]
theorem himp_heard6 {e : EndsD} (ds : List D) (n : Nat) (k : D → Nat → Prop) (ke : Xv → Nat → Prop) (h : sdHeard6 ds n k ke) (he : e.rt = k) : cs_heard6 (startE n_heard6 ds) n e := by
  obtain ⟨s, L, s2, M, rfl, cL, cM, q⟩ := h
  subst he
  have q2 := q
  unfold heardD at q2
  refine ⟨by show 2 ≤ lim; decide, _, rfl, ?_⟩
  refine ⟨⟨_, rfl⟩, ⟨_, rfl⟩, s, L, s2, M, rfl, cL.g, by have := cL.len; omega, ?_⟩
  show match shortT L M with | some t => _ | none => _
  cases c : shortT L M with
  | some t =>
    rw [c] at q2
    refine ⟨show cShort ∈ [cStill, cBelow, cShort] by decide, ?_⟩
    rw [if_pos (show (shortX L t).1 ∈ [cShort] by show cShort ∈ [cShort]; decide)]
    refine ⟨.bool false, rfl, false, rfl, ?_⟩
    refine ⟨rfl, cShort, _, _, rfl, by decide, rfl, ?_⟩
    refine ⟨rfl, cShort, _, _, rfl, by decide, rfl, ?_⟩
    refine ⟨rfl, cShort, _, _, rfl, by decide, rfl, ?_⟩
    refine ⟨rfl, cShort, _, rfl, by decide, ?_⟩
    refine ⟨rfl, cShort, _, rfl, by decide, ?_⟩
    exact ⟨by show 5 ≤ lim; decide, q2⟩
  | none =>
    rw [c] at q2
    show match wrongT (leftT L M) with | some y => _ | none => _
    rw [wrongT_none (fine_left cL cM c)]
    refine ⟨.bool true, rfl, true, rfl, ?_⟩
    exact ⟨⟨_, rfl⟩, s, canon (leftT L M), rfl, ⟨_, rfl⟩, s, canon (leftT L M), rfl, by show 2 ≤ lim; decide, q2⟩
theorem left_good {L M : List Tri} (h : GoodL L) : GoodL (leftT L M) := fun t ht => by
  unfold leftT at ht
  obtain ⟨u, hu, rfl⟩ := List.mem_map.mp ht
  exact h u hu
theorem left_len (L M : List Tri) : (leftT L M).length = L.length := by unfold leftT; rw [List.length_map]
theorem Cn.left {L M : List Tri} (cL : Cn L) (cM : Cn M) (c : shortT L M = none) : Cn (canon (leftT L M)) := cn_canon (fine_left cL cM c) (left_good cL.g) (by rw [left_len]; exact cL.len)
def refusedt1 : CS := cPar 3 4 (cCons (cVar 0) (cCons (cC .none) (cNil)))
def refusedt2 : CS := cTryT [cShort] [cStill, cBelow, cShort] 2 (cAugO 3 sdBinSub (cVar 1) cCnt) (cSet 4 (cVar 2))
def refusedt3 : CS := cRet (cLst (cCons (cOp isN (cVar 4) (cC .none)) (cCons (cEqO sdEq (cVar 3) (cVar 0) cCnt) (cCons (cProp sdP_steps (cVar 3) cCnt) (cCons (cProp sdP_steps (cVar 0) cCnt) (cCons (cProp sdP_steps (cVar 1) cCnt) (cNil)))))))
def cs_refused : CS := cSq refusedt1 (cSq refusedt2 (refusedt3))
abbrev n_refused : List Str := ["_law_made", "_law_its", "error_so", "_law_more", "_law_caught"]
theorem himp_refused {e : EndsD} (ds : List D) (n : Nat) (k : D → Nat → Prop) (ke : Xv → Nat → Prop) (h : sdRefused ds n k ke) (he : e.rt = k) : cs_refused (startE n_refused ds) n e := by
  obtain ⟨s, L, s2, M, rfl, gs, cL, cM, q⟩ := h
  subst he
  have q2 := q
  unfold refD at q2
  refine ⟨_, _, rfl, ?_⟩
  refine ⟨_, rfl, ⟨_, rfl⟩, s, L, s2, M, rfl, cL.g, by have := cL.len; omega, ?_⟩
  show match shortT L M with | some t => _ | none => _
  cases c : shortT L M with
  | some t =>
    rw [c] at q2
    refine ⟨show cShort ∈ [cStill, cBelow, cShort] by decide, ?_⟩
    rw [if_pos (show (shortX L t).1 ∈ [cShort] by show cShort ∈ [cShort]; decide)]
    refine ⟨.bool false, rfl, ⟨_, rfl⟩, ⟨_, rfl⟩, s, L, cntD s L, rfl, gs, cL.g, .inl ⟨s, L, rfl, gs, cL.g, ?_⟩⟩
    rw [show decide (s = s ∧ L = L) = true by simp]
    exact ⟨⟨_, rfl⟩, s, L, rfl, ⟨_, rfl⟩, s, L, rfl, ⟨_, rfl⟩, s2, M, rfl, by show 5 ≤ lim; decide, q2⟩
  | none =>
    rw [c] at q2
    show match wrongT (leftT L M) with | some y => _ | none => _
    rw [wrongT_none (fine_left cL cM c)]
    refine ⟨.bool true, rfl, ⟨_, rfl⟩, ⟨_, rfl⟩, s, canon (leftT L M), cntD s L, rfl, gs, (cL.left cM c).g, .inl ⟨s, L, rfl, gs, cL.g, ?_⟩⟩
    rw [show decide (s = s ∧ canon (leftT L M) = L) = decide (canon (leftT L M) = L) by simp]
    exact ⟨⟨_, rfl⟩, s, _, rfl, ⟨_, rfl⟩, s, L, rfl, ⟨_, rfl⟩, s2, M, rfl, by show 5 ≤ lim; decide, q2⟩
end RM
namespace RM
open PySem PySem.Spec PyProof.Rows L2 CS RZ
/-! ### k06: taken away, by the law's own table -/
theorem dlL_run {cg : CG} {tt : CT} {tk tv : CE} {vs : List Nat} {ρ0 : En} {n : Nat} (f : D → D × D) {k : List (D × D) → En → Nat → Prop} : ∀ (ds : List D) (acc : List (D × D)),
    (∀ d ∈ ds, isTupD (f d).1 ∧ ∃ ρ1, cg d ρ0 = some ρ1 ∧ wipeE ρ1 vs = ρ0 ∧ (∀ K1 : Bool → En → Nat → Prop, K1 true ρ1 n → tt ρ1 n K1 kF) ∧ (∀ K2 : D → En → Nat → Prop, K2 (f d).1 ρ1 n → tk ρ1 n K2 kF) ∧ ∀ K3 : D → En → Nat → Prop, K3 (f d).2 ρ1 n → tv ρ1 n K3 kF) →
    acc.length + ds.length ≤ lim → k (acc ++ ds.map f) ρ0 n → cDlL cg tt tk tv vs ds ρ0 n acc k
  | [], acc, _, _, q => by
    rw [List.map_nil, List.append_nil] at q
    exact q
  | d :: ds, acc, h, hl, q => by
    rw [List.length_cons] at hl
    obtain ⟨h0, ρ1, h1, h2, h3, h4, h5⟩ := h d (List.mem_cons_self ..)
    refine ⟨ρ1, h1, h3 _ ?_⟩
    rw [if_pos rfl]
    refine h4 _ (h5 _ ⟨by omega, h0, ?_⟩)
    rw [h2]
    refine dlL_run f ds _ (fun d hd => h d (List.mem_cons_of_mem _ hd)) (by rw [List.length_append, List.length_singleton]; omega) ?_
    rw [List.append_assoc]
    exact q
theorem putAll_many : ∀ (L done : List Tri), ((done ++ L).map pr).Nodup → putAllD (manyD done) (manyD L) = manyD (done ++ L)
  | [], done, _ => by
    rw [List.append_nil]
    rfl
  | t :: L, done, h => by
    have e : done ++ t :: L = (done ++ [t]) ++ L := by rw [List.append_assoc]; rfl
    have hn : pr t ∉ done.map pr := fun z => by
      rw [List.map_append, List.nodup_append] at h
      exact h.2.2 _ z _ (by simp) rfl
    rw [e] at h ⊢
    rw [← putAll_many L (done ++ [t]) h]
    show putAllD (putKD (manyD done) (tx (pr t)) (.int t.2.2)) (manyD L) = _
    congr 1
    unfold putKD
    rw [any_many, decide_eq_false hn, if_neg (by simp), many_snoc]
def tabP (ps : List (Str × Str)) (f : Str × Str → Int) : List (D × D) := ps.map fun p => (tx p, PyData.int (f p))
theorem many_tab {L : List Tri} (hn : (L.map pr).Nodup) : manyD L = tabP (L.map pr) (numAt L) := by
  unfold manyD tabP
  rw [List.map_map]
  refine List.map_congr_left fun t ht => ?_
  show _ = (tx (pr t), PyData.int (numAt L (pr t)))
  rw [numAt_mem hn ht]
theorem look_tabP (ps : List (Str × Str)) (f : Str × Str → Int) (p : Str × Str) : lookD (dT (tabP ps f)) (.tuple [.str p.1, .str p.2]) = some (if p ∈ ps then some (.int (f p)) else none) := by
  show (if ([PyData.str p.1, PyData.str p.2].all flatK) = true then some (keyD (tabP ps f) (tx p)) else none) = _
  rw [if_pos (show ([PyData.str p.1, PyData.str p.2].all flatK) = true from rfl)]
  congr 1
  unfold keyD tabP
  rw [find_tx (fun p => .int (f p)) p ps]
  split <;> rfl
theorem look_tabP0 {ps : List (Str × Str)} {f : Str × Str → Int} {p : Str × Str} (h : p ∉ ps → f p = 0) : (if p ∈ ps then some (PyData.int (f p)) else none).getD (.int 0) = .int (f p) := by
  split
  · rfl
  · rename_i c
    rw [h c]
    rfl
theorem put_tabP {ps : List (Str × Str)} {f : Str × Str → Int} {p : Str × Str} {v : Int} (hp : p ∈ ps) (hl : ps.length < lim) : putD (dT (tabP ps f)) (.tuple [.str p.1, .str p.2]) (.int v) = some (dT (tabP ps fun q => if q = p then v else f q)) := by
  have h2 : (tabP ps f).length < lim := by
    unfold tabP
    rw [List.length_map]
    exact hl
  show (if ([PyData.str p.1, PyData.str p.2].all flatK) = true ∧ (tabP ps f).length < lim then some (PyData.dict ((.none, .bool true) :: putKD (tabP ps f) (tx p) (.int v))) else none) = _
  rw [if_pos ⟨rfl, h2⟩]
  unfold dT
  congr 3
  unfold putKD tabP
  rw [any_tx, decide_eq_true hp, if_pos rfl, List.map_map]
  refine List.map_congr_left fun q hq => ?_
  show (if PyData.eqv (tx q) (tx p) = true then (tx q, PyData.int v) else (tx q, PyData.int (f q))) = _
  rw [tx_eqv]
  by_cases c : q = p
  · rw [decide_eq_true c, if_pos rfl]
    dsimp only
    rw [if_pos c]
  · rw [decide_eq_false c, if_neg (by simp)]
    dsimp only
    rw [if_neg c]
def takent1 : CS := cOwn 3 (cDl (cSeq (cVar 1)) (stN 5) (cYes) (cKeySl (cVar 5) (cNo) (cPart (cC (.int 2)))) (cOp atD (cVar 5) (cC (.int 2))) [5])
def takent2 : CS := cOwn 4 (cLst (cNil))
def taken1 : CS := cSet 6 (cOp subD (cOp atD (cVar 5) (cC (.int 2))) (cDGet2 (.nm 3) (cKeySl (cVar 5) (cNo) (cPart (cC (.int 2)))) (cC (.int 0))))
def taken2 : CS := cIfS (cB (cOp gtD (cVar 6) (cC (.int 0)))) (cRet (cLst (cCons (cOp atD (cVar 5) (cC (.int 0))) (cCons (cOp atD (cVar 5) (cC (.int 1))) (cCons (cVar 6) (cCons (cC (.bool true)) (cCons (cC (.bool false)) (cNil)))))))) (cNext)
def taken3 : CS := cDPut 3 (cKeySl (cVar 5) (cNo) (cPart (cC (.int 2)))) (cOp subD (cC (.int 0)) (cVar 6))
def takenBody : CS := cSq taken1 (cSq taken2 (taken3))
def takent3 : CS := cFor (cSeq (cVar 2)) (stN 5) takenBody
def takenB4 : CS := cIfS (cB (cOp gtD (cDGet (.nm 3) (cKeySl (cVar 5) (cNo) (cPart (cC (.int 2))))) (cC (.int 0)))) (cDrop (cApp 4 (cOp addD (cSl (cVar 5) (cNo) (cPart (cC (.int 2)))) (cTup (cCons (cDGet (.nm 3) (cKeySl (cVar 5) (cNo) (cPart (cC (.int 2))))) (cNil)))))) (cNext)
def takent4 : CS := cFor (cSeq (cVar 1)) (stN 5) takenB4
def takent5 : CS := cRet (cLst (cCons (cVar 0) (cCons (cCB gTuple (cCons (cVar 4) (cNil))) (cNil))))
def cs_taken : CS := cSq takent1 (cSq takent2 (cSq takent3 (cSq takent4 (takent5))))
abbrev n_taken : List Str := ["_law_first_so", "_law_rows_so", "_law_far_so", "_law_table", "_law_found", "_law_own", "_law_more"]
theorem find_same {f g : Tri → Bool} : ∀ {l : List Tri}, (∀ t ∈ l, f t = g t) → l.find? f = l.find? g
  | [], _ => rfl
  | t :: l, h => by
    rw [List.find?_cons, List.find?_cons, h t (List.mem_cons_self ..), find_same fun u hu => h u (List.mem_cons_of_mem _ hu)]
def tellT (f : Str × Str → Int) (t : Tri) : D := .list [.str t.1, .str t.2.1, .int (t.2.2 - f (pr t)), .bool true, .bool false]
theorem take_loop {e : EndsD} {s x y : D} {ps : List (Str × Str)} {n : Nat} (hl : ps.length < lim) : ∀ (ts : List Tri) (f : Str × Str → Int) (t5 t6 : Option Sl), (∀ t ∈ ts, 0 < t.2.2) → (ts.map pr).Nodup → (∀ p, p ∉ ps → f p = 0) →
    (match ts.find? (fun t => decide (f (pr t) < t.2.2)) with
      | some t => e.rt (tellT f t) n
      | none => ∀ t5 t6 : Option Sl, e.nx [some (.v s), some (.v x), some (.v y), some (.own (dT (tabP ps fun p => f p - numAt ts p))), some (.own (.list [])), t5, t6] n) →
    cForL (stN 5) takenBody (trisD ts) [some (.v s), some (.v x), some (.v y), some (.own (dT (tabP ps f))), some (.own (.list [])), t5, t6] n e
  | [], f, t5, t6, _, _, _, q => by
    have q2 := q t5 t6
    have e1 : (fun p => f p - numAt [] p) = f := by
      funext p
      show f p - 0 = f p
      omega
    rw [e1] at q2
    exact q2
  | t :: ts, f, t5, t6, h0, hn, hz, q => by
    refine ⟨_, rfl, ?_⟩
    have t0 := h0 t (List.mem_cons_self ..)
    rw [List.map_cons, List.nodup_cons] at hn
    refine ⟨.int t.2.2, rfl, rfl, ⟨_, rfl, rfl⟩, 2, rfl, _, rfl, by show 2 < 3; decide, rfl, _, _, rfl, look_tabP ps f (pr t), ?_⟩
    refine ⟨.int (t.2.2 - f (pr t)), by rw [look_tabP0 (hz (pr t))]; rfl, ?_⟩
    refine ⟨.bool (decide (0 < t.2.2 - f (pr t))), rfl, _, rfl, ?_⟩
    rw [List.find?_cons] at q
    by_cases c : f (pr t) < t.2.2
    · rw [decide_eq_true c] at q
      rw [decide_eq_true (show 0 < t.2.2 - f (pr t) by omega)]
      exact ⟨.str t.1, rfl, .str t.2.1, rfl, by show 5 ≤ lim; decide, q⟩
    · rw [decide_eq_false c] at q
      rw [decide_eq_false (show ¬ 0 < t.2.2 - f (pr t) by omega)]
      have hp : pr t ∈ ps := Decidable.byContradiction fun z => by
        have := hz (pr t) z
        omega
      refine ⟨.int (0 - (t.2.2 - f (pr t))), rfl, ⟨_, rfl⟩, 2, rfl, _, rfl, by show 2 < 3; decide, rfl, _, _, rfl, put_tabP hp hl, ?_⟩
      refine take_loop hl ts _ _ _ (fun u hu => h0 u (List.mem_cons_of_mem _ hu)) hn.2 (fun p hp2 => ?_) ?_
      · have hne : ¬ p = pr t := fun z => hp2 (z ▸ hp)
        show (if p = pr t then _ else f p) = 0
        rw [if_neg hne]
        exact hz p hp2
      · have ne : ∀ u ∈ ts, ¬ pr u = pr t := fun u hu z => hn.1 (z ▸ List.mem_map_of_mem hu)
        have fs : ts.find? (fun u => decide ((fun q => if q = pr t then 0 - (t.2.2 - f (pr t)) else f q) (pr u) < u.2.2)) = ts.find? (fun u => decide (f (pr u) < u.2.2)) := find_same fun u hu => by
          show decide ((if pr u = pr t then _ else f (pr u)) < u.2.2) = _
          rw [if_neg (ne u hu)]
        rw [fs]
        cases c2 : ts.find? (fun u => decide (f (pr u) < u.2.2)) with
        | some u =>
          rw [c2] at q
          have hu := List.mem_of_find?_eq_some c2
          show e.rt (tellT (fun q => if q = pr t then 0 - (t.2.2 - f (pr t)) else f q) u) n
          have e2 : tellT (fun q => if q = pr t then 0 - (t.2.2 - f (pr t)) else f q) u = tellT f u := by
            unfold tellT
            dsimp only
            rw [if_neg (ne u hu)]
          rw [e2]
          exact q
        | none =>
          rw [c2] at q
          intro t5 t6
          have e3 : (fun p => (fun q => if q = pr t then 0 - (t.2.2 - f (pr t)) else f q) p - numAt ts p) = fun p => f p - numAt (t :: ts) p := by
            funext p
            rw [numAt_cons]
            show (if p = pr t then _ else f p) - _ = _
            by_cases c3 : p = pr t
            · subst c3
              rw [if_pos rfl, if_pos rfl, numAt_none hn.1]
              omega
            · rw [if_neg c3, if_neg fun z => c3 z.symm]
          rw [e3]
          exact q t5 t6
theorem found_loop {e : EndsD} {s x y : D} {ps : List (Str × Str)} {f : Str × Str → Int} {n : Nat} : ∀ (ts found : List Tri) (t5 t6 : Option Sl), (∀ t ∈ ts, pr t ∈ ps) → found.length + ts.length ≤ 900 →
    (∀ t5 t6 : Option Sl, e.nx [some (.v s), some (.v x), some (.v y), some (.own (dT (tabP ps f))), some (.own (.list (trisD (found ++ (ts.filter fun t => 0 < f (pr t)).map fun t => (t.1, t.2.1, f (pr t)))))), t5, t6] n) →
    cForL (stN 5) takenB4 (trisD ts) [some (.v s), some (.v x), some (.v y), some (.own (dT (tabP ps f))), some (.own (.list (trisD found))), t5, t6] n e
  | [], found, t5, t6, _, _, q => by
    have q2 := q t5 t6
    rw [List.filter_nil, List.map_nil, List.append_nil] at q2
    exact q2
  | t :: ts, found, t5, t6, hp, hl, q => by
    rw [List.length_cons] at hl
    refine ⟨_, rfl, ?_⟩
    have lk := look_tabP ps f (pr t)
    rw [if_pos (hp t (List.mem_cons_self ..))] at lk
    refine ⟨rfl, 2, rfl, _, rfl, by show 2 < 3; decide, rfl, _, _, rfl, lk, ?_⟩
    refine ⟨.bool (decide (0 < f (pr t))), rfl, _, rfl, ?_⟩
    by_cases c : 0 < f (pr t)
    · rw [decide_eq_true c]
      refine ⟨⟨_, rfl⟩, 2, rfl, _, rfl, rfl, 2, rfl, _, rfl, by show 2 < 3; decide, rfl, _, _, rfl, lk, by show 1 ≤ lim; decide, ?_⟩
      refine ⟨triD (t.1, t.2.1, f (pr t)), rfl, trisD found, rfl, by rw [tris_len2]; unfold lim; omega, ?_⟩
      have e1 : trisD found ++ [triD (t.1, t.2.1, f (pr t))] = trisD (found ++ [(t.1, t.2.1, f (pr t))]) := by
        unfold trisD
        rw [List.map_append]
        rfl
      rw [e1]
      refine found_loop ts _ _ _ (fun u hu => hp u (List.mem_cons_of_mem _ hu)) (by rw [List.length_append, List.length_singleton]; omega) fun t5 t6 => ?_
      have q2 := q t5 t6
      rw [List.filter_cons, if_pos (decide_eq_true c), List.map_cons] at q2
      rw [List.append_assoc]
      exact q2
    · rw [decide_eq_false c]
      refine found_loop ts _ _ _ (fun u hu => hp u (List.mem_cons_of_mem _ hu)) (by omega) fun t5 t6 => ?_
      have q2 := q t5 t6
      rw [List.filter_cons, if_neg (by simpa using c)] at q2
      exact q2
theorem canon_filter {l : List Tri} (hn : (l.map pr).Nodup) (hp : (l.map pr).Pairwise fun a b => leP a b = true) : canon l = l.filter fun t => 0 < t.2.2 := by
  have e1 : firsts (l.map pr) = l.map pr := firsts_id (l.map pr) [] (by simpa using hn) rfl
  unfold canon
  rw [e1, List.mergeSort_of_pairwise hp, List.filter_map, List.map_map]
  have hs : ∀ t ∈ l, sumAt l (pr t) = t.2.2 := fun t ht => by rw [← numAt_sum hn, numAt_mem hn ht]
  have e2 : l.filter ((fun p => decide (0 < sumAt l p)) ∘ pr) = l.filter fun t => 0 < t.2.2 := List.filter_congr fun t ht => by
    show decide (0 < sumAt l (pr t)) = _
    rw [hs t ht]
  rw [e2]
  refine (List.map_congr_left fun t ht => ?_).trans (List.map_id _)
  show (t.1, t.2.1, sumAt l (pr t)) = t
  rw [hs t (List.mem_filter.mp ht).1]
theorem left_found {L M : List Tri} (cL : Cn L) : ((L.filter fun t => decide (0 < (fun p => numAt L p - numAt M p) (pr t))).map fun t => (t.1, t.2.1, (fun p => numAt L p - numAt M p) (pr t))) = canon (leftT L M) := by
  have e1 : (leftT L M).map pr = L.map pr := by
    unfold leftT
    rw [List.map_map]
    rfl
  rw [canon_filter (by rw [e1]; exact cL.nd) (by rw [e1]; exact cL.pw)]
  unfold leftT
  rw [List.filter_map]
  have e2 : L.filter ((fun t : Tri => decide (0 < t.2.2)) ∘ fun t => (t.1, t.2.1, t.2.2 - numAt M (pr t))) = L.filter fun t => decide (0 < (fun p => numAt L p - numAt M p) (pr t)) := List.filter_congr fun t ht => by
    show decide (0 < t.2.2 - numAt M (pr t)) = decide (0 < numAt L (pr t) - numAt M (pr t))
    rw [numAt_mem cL.nd ht]
  rw [e2]
  refine List.map_congr_left fun t ht => ?_
  show (t.1, t.2.1, numAt L (pr t) - numAt M (pr t)) = _
  rw [numAt_mem cL.nd (List.mem_filter.mp ht).1]
theorem himp_taken {e : EndsD} (ds : List D) (n : Nat) (k : D → Nat → Prop) (ke : Xv → Nat → Prop) (h : sdTaken ds n k ke) (he : e.rt = k) : cs_taken (startE n_taken ds) n e := by
  obtain ⟨s, L, M, rfl, cL, cM, q⟩ := h
  subst he
  have l30 := cL.len
  refine ⟨trisD L, rfl, ?_⟩
  show cDlL _ _ _ _ _ _ [some (.v (.str s)), some (.v (.tuple (trisD L))), some (.v (.tuple (trisD M))), none, none, none, none] n [] _
  refine dlL_run (fun d => match d with | .tuple [.str a, .str b, .int i] => (tx (a, b), PyData.int i) | _ => (.tuple [], .none)) _ [] (fun d hd => ?_) (by rw [tris_len2, List.length_nil]; unfold lim; omega) ?_
  · obtain ⟨t, _, rfl⟩ := List.mem_map.mp hd
    exact ⟨⟨_, rfl⟩, _, rfl, rfl, fun K1 hK => hK, fun K2 hK => ⟨2, rfl, _, rfl, by show 2 < 3; decide, rfl, hK⟩, fun K3 hK => ⟨.int t.2.2, rfl, hK⟩⟩
  have e1 : (trisD L).map (fun d => match d with | .tuple [.str a, .str b, .int i] => (tx (a, b), PyData.int i) | _ => (.tuple [], .none)) = manyD L := by
    unfold trisD manyD
    rw [List.map_map]
    rfl
  rw [List.nil_append, e1]
  have e2 : putAllD [] (manyD L) = tabP (L.map pr) (numAt L) := by
    rw [← many_tab cL.nd]
    exact putAll_many L [] cL.nd
  rw [e2]
  refine ⟨by show 3 < 7; decide, ?_⟩
  refine ⟨by show 0 ≤ lim; decide, by show 4 < 7; decide, ?_⟩
  refine ⟨trisD M, rfl, ?_⟩
  refine take_loop (by rw [List.length_map]; unfold lim; omega) M (numAt L) none none cM.pos cM.nd (fun p hp => numAt_none hp) ?_
  have q2 := q
  unfold heardD shortT at q2
  cases c : M.find? (fun t => decide (numAt L (pr t) < t.2.2)) with
  | some t =>
    rw [c] at q2
    exact q2
  | none =>
    rw [c] at q2
    intro t5 t6
    refine ⟨trisD L, rfl, ?_⟩
    refine found_loop L [] t5 t6 (fun t ht => List.mem_map_of_mem ht) (by simp; omega) fun t5 t6 => ?_
    rw [List.nil_append, left_found cL]
    exact ⟨_, ⟨_, _, rfl, rfl, rfl⟩, by show 2 ≤ lim; decide, q2⟩
end RM
set_option maxHeartbeats 4000000
namespace RM
open PySem PySem.Spec PyProof.Rows L2 CS RZ
/-! ### k06: a case -/
def sdSame6 : SpD := fun ds n k _ => ∃ x, ds = [x, x] ∧ okS 5 x ∧ k (.bool true) n
theorem okS_trisT (k : Nat) {l : List Tri} (h : l.length ≤ 1000) : okS (k + 3) (.tuple (trisD l)) := ⟨by rw [tris_len2]; exact h, fun d hd => by
  obtain ⟨t, _, rfl⟩ := List.mem_map.mp hd
  exact okS_tri k t⟩
theorem okS_heard (k : Nat) (s : Str) {L : List Tri} (M : List Tri) (h : L.length ≤ 30) : okS (k + 4) (heardD s L M) := by
  unfold heardD
  split
  · refine ⟨by show 5 ≤ 1000; decide, fun d hd => ?_⟩
    simp only [List.mem_cons, List.not_mem_nil, or_false] at hd
    rcases hd with rfl | rfl | rfl | rfl | rfl <;> exact trivial
  · refine ⟨by show 2 ≤ 1000; decide, fun d hd => ?_⟩
    simp only [List.mem_cons, List.not_mem_nil, or_false] at hd
    rcases hd with rfl | rfl
    · exact trivial
    · exact okS_trisT k (by have := canon_len (leftT L M); rw [left_len] at this; omega)
def case6t1 : CS := cPar 9 10 (cCons (cMake cCnt sdInit (cCons (cVar 0) (cCons (cVar 1) (cNil)))) (cCons (cMake cCnt sdInit (cCons (cVar 2) (cCons (cVar 3) (cNil)))) (cNil)))
def case6t2 : CS := cPar 11 12 (cCons (cCall sdSummed (cCons (cVar 1) (cNil))) (cCons (cCall sdSummed (cCons (cVar 3) (cNil))) (cNil)))
def case6t3 : CS := cSet 4 (cBinO sdBinAdd (cVar 9) (cVar 10) cCnt)
def case6t4 : CS := cIfS (cNotT (cB (cCall sdSame6 (cCons (cLst (cCons (cProp sdP_start (cVar 4) cCnt) (cCons (cProp sdP_steps (cVar 4) cCnt) (cNil)))) (cCons (cLst (cCons (cVar 0) (cCons (cCall sdSummed (cCons (cOp addD (cVar 1) (cVar 3)) (cNil))) (cNil)))) (cNil)))))) (cRet (cC (.bool false))) (cNext)
def case6t5 : CS := cIfS (cNotT (cB (cCall sdSame6 (cCons (cCall sdHeard6 (cCons (cVar 9) (cCons (cVar 10) (cNil)))) (cCons (cCall sdTaken (cCons (cVar 0) (cCons (cVar 11) (cCons (cVar 12) (cNil))))) (cNil)))))) (cRet (cC (.bool false))) (cNext)
def case6t6 : CS := cSet 5 (cAndV (cOp eqD (cVar 0) (cVar 2)) (cOp eqD (cVar 11) (cVar 12)))
def case6t7 : CS := cSet 6 (cLst (cCons (cEqO sdEq (cVar 9) (cVar 10) cCnt) (cCons (cEqO sdEq (cMeth sdM_begun (cVar 9) (cCons (cVar 2) (cNil)) cCnt "begun") (cVar 10) cCnt) (cCons (cEqO sdEq (cMeth sdM_begun (cVar 10) (cCons (cVar 0) cNil) cCnt "begun") (cVar 9) cCnt) (cCons (cNeO sdEq (cVar 9) (cVar 10) cCnt) (cNil))))))
def case6t8 : CS := cIfS (cNotT (cB (cCall sdSame6 (cCons (cVar 6) (cCons (cLst (cCons (cVar 5) (cCons (cOp eqD (cVar 11) (cVar 12)) (cCons (cOp eqD (cVar 11) (cVar 12)) (cCons (cNotV (cVar 5)) (cNil)))))) (cNil)))))) (cRet (cC (.bool false))) (cNext)
def case6t9 : CS := cSet 7 (cVar 9)
def case6t10 : CS := cAugO 7 sdBinAdd (cVar 10) cCnt
def case6t11 : CS := cSet 8 (cVar 7)
def case6t12 : CS := cAugO 8 sdBinSub (cVar 10) cCnt
def case6t13 : CS := cSet 6 (cLst (cCons (cEqO sdEq (cVar 7) (cVar 4) cCnt) (cCons (cEqO sdEq (cVar 8) (cVar 9) cCnt) (cCons (cProp sdP_steps (cVar 9) cCnt) (cCons (cProp sdP_steps (cVar 10) cCnt) (cCons (cProp sdP_start (cMeth sdM_begun (cVar 9) (cCons (cVar 2) (cNil)) cCnt "begun") cCnt) (cNil)))))))
def case6t14 : CS := cRet (cCall sdSame6 (cCons (cVar 6) (cCons (cLst (cCons (cC (.bool true)) (cCons (cC (.bool true)) (cCons (cVar 11) (cCons (cVar 12) (cCons (cVar 2) (cNil))))))) (cNil))))
def cs_case6 : CS := cSq case6t1 (cSq case6t2 (cSq case6t3 (cSq case6t4 (cSq case6t5 (cSq case6t6 (cSq case6t7 (cSq case6t8 (cSq case6t9 (cSq case6t10 (cSq case6t11 (cSq case6t12 (cSq case6t13 (case6t14)))))))))))))
abbrev n_case6 : List Str := ["_law_first_so", "_law_rows_so", "_law_last_so", "_law_far_so", "_law_both_so", "_law_due", "_law_got", "_law_more", "_law_less_so", "_law_made", "_law_its", "_law_mine", "_law_other_so"]
structure C6 (f g : Str) (l m : List Tri) : Prop where
  gf : GoodS f
  gg : GoodS g
  fl : Fine l
  fm : Fine m
  gl : GoodL l
  gm : GoodL m
  ll : l.length ≤ 12
  lm : m.length ≤ 12
def sdCase6 : SpD := fun ds n k _ => ∃ f l g m, ds = [.str f, .tuple (trisD l), .str g, .tuple (trisD m)] ∧ C6 f g l m ∧ k (.bool true) n
abbrev fc (f g : Str) (l m : List Tri) (t4 t5 t6 t7 t8 t9 t10 t11 t12 : Option Sl) : En := [some (.v (.str f)), some (.v (.tuple (trisD l))), some (.v (.str g)), some (.v (.tuple (trisD m))), t4, t5, t6, t7, t8, t9, t10, t11, t12]
section
variable {e : EndsD} {n : Nat} {f g : Str} {l m : List Tri} {t4 t5 t6 t7 t8 t9 t10 t11 t12 : Option Sl}
theorem C6.cl (c : C6 f g l m) : Cn (canon l) := cn_canon c.fl c.gl (by have := c.ll; omega)
theorem C6.cm (c : C6 f g l m) : Cn (canon m) := cn_canon c.fm c.gm (by have := c.lm; omega)
theorem k6t1 (c : C6 f g l m) (q : e.nx (fc f g l m t4 t5 t6 t7 t8 (some (.v (cntD f (canon l)))) (some (.v (cntD g (canon m)))) t11 t12) n) : case6t1 (fc f g l m t4 t5 t6 t7 t8 t9 t10 t11 t12) n e := by
  have a := c.ll
  have b := c.lm
  refine ⟨f, _, trisD l, l, rfl, rfl, rowsAre_tris l, c.gl, by omega, ?_⟩
  rw [wrongT_none c.fl]
  refine ⟨g, _, trisD m, m, rfl, rfl, rowsAre_tris m, c.gm, by omega, ?_⟩
  rw [wrongT_none c.fm]
  exact ⟨_, _, rfl, q⟩
theorem k6t2 (c : C6 f g l m) (q : e.nx (fc f g l m t4 t5 t6 t7 t8 t9 t10 (some (.v (.tuple (trisD (canon l))))) (some (.v (.tuple (trisD (canon m)))))) n) : case6t2 (fc f g l m t4 t5 t6 t7 t8 t9 t10 t11 t12) n e := by
  have a := c.ll
  have b := c.lm
  exact ⟨_, l, rfl, rfl, c.gl, by omega, _, m, rfl, rfl, c.gm, by omega, _, _, rfl, q⟩
theorem k6t3 (c : C6 f g l m) (q : e.nx (fc f g l m (some (.v (cntD f (canon (l ++ m))))) t5 t6 t7 t8 (some (.v (cntD f (canon l)))) (some (.v (cntD g (canon m)))) t11 t12) n) : case6t3 (fc f g l m t4 t5 t6 t7 t8 (some (.v (cntD f (canon l)))) (some (.v (cntD g (canon m)))) t11 t12) n e := by
  have a := c.cl.len
  have b := c.cm.len
  refine ⟨⟨_, rfl⟩, ⟨_, rfl⟩, f, canon l, g, canon m, rfl, c.cl.g, c.cm.g, by omega, ?_⟩
  rw [wrongT_none (fine_append c.cl.fine c.cm.fine), canon_add c.fl c.fm]
  exact q
theorem add_tris {l m : List Tri} (h : l.length + m.length ≤ lim) : addD (.tuple (trisD l)) (.tuple (trisD m)) = some (.tuple (trisD (l ++ m))) := by
  show (if (trisD l).length + (trisD m).length ≤ lim then some (PyData.tuple (trisD l ++ trisD m)) else none) = _
  rw [tris_len2, tris_len2, if_pos h]
  unfold trisD
  rw [List.map_append]
theorem k6t4 (c : C6 f g l m) (q : e.nx (fc f g l m (some (.v (cntD f (canon (l ++ m))))) t5 t6 t7 t8 t9 t10 t11 t12) n) : case6t4 (fc f g l m (some (.v (cntD f (canon (l ++ m))))) t5 t6 t7 t8 t9 t10 t11 t12) n e := by
  have a := c.ll
  have b := c.lm
  have lc := canon_len (l ++ m)
  rw [List.length_append] at lc
  refine ⟨⟨_, rfl⟩, f, canon (l ++ m), rfl, ⟨_, rfl⟩, f, canon (l ++ m), rfl, by show 2 ≤ lim; decide, ?_⟩
  refine ⟨.tuple (trisD (l ++ m)), add_tris (by unfold lim; omega), _, l ++ m, rfl, rfl, good_append c.gl c.gm, by rw [List.length_append]; omega, by show 2 ≤ lim; decide, ?_⟩
  refine ⟨.list [.str f, .tuple (trisD (canon (l ++ m)))], rfl, ⟨by show 2 ≤ 1000; decide, fun d hd => ?_⟩, true, rfl, q⟩
  simp only [List.mem_cons, List.not_mem_nil, or_false] at hd
  rcases hd with rfl | rfl
  · exact trivial
  · exact okS_trisT 1 (by omega)
theorem k6t5 (c : C6 f g l m) (q : e.nx (fc f g l m t4 t5 t6 t7 t8 (some (.v (cntD f (canon l)))) (some (.v (cntD g (canon m)))) (some (.v (.tuple (trisD (canon l))))) (some (.v (.tuple (trisD (canon m)))))) n) :
    case6t5 (fc f g l m t4 t5 t6 t7 t8 (some (.v (cntD f (canon l)))) (some (.v (cntD g (canon m)))) (some (.v (.tuple (trisD (canon l))))) (some (.v (.tuple (trisD (canon m)))))) n e :=
  ⟨f, canon l, g, canon m, rfl, c.cl, c.cm, f, canon l, canon m, rfl, c.cl, c.cm, heardD f (canon l) (canon m), rfl, okS_heard 1 f _ c.cl.len, true, rfl, q⟩
theorem k6t6 (c : C6 f g l m) (q : e.nx (fc f g l m t4 (some (.v (.bool (decide (f = g ∧ canon l = canon m))))) t6 t7 t8 t9 t10 (some (.v (.tuple (trisD (canon l))))) (some (.v (.tuple (trisD (canon m)))))) n) :
    case6t6 (fc f g l m t4 t5 t6 t7 t8 t9 t10 (some (.v (.tuple (trisD (canon l))))) (some (.v (.tuple (trisD (canon m)))))) n e := by
  refine ⟨_, eqD_str c.gf c.gg, _, rfl, ?_⟩
  by_cases h : f = g
  · rw [decide_eq_true h, if_pos rfl]
    have e1 : decide (f = g ∧ canon l = canon m) = decide (canon l = canon m) := by simp [h]
    rw [e1] at q
    exact ⟨_, eqD_tris c.cl.g c.cm.g, q⟩
  · have e1 : decide (f = g ∧ canon l = canon m) = false := decide_eq_false fun z => h z.1
    rw [e1] at q
    rw [decide_eq_false h]
    exact q
abbrev got6 (f g : Str) (L M : List Tri) : D := .list [.bool (decide (f = g ∧ L = M)), .bool (decide (L = M)), .bool (decide (L = M)), .bool (!decide (f = g ∧ L = M))]
theorem k6t7 (c : C6 f g l m) (q : e.nx (fc f g l m t4 t5 (some (.v (got6 f g (canon l) (canon m)))) t7 t8 (some (.v (cntD f (canon l)))) (some (.v (cntD g (canon m)))) t11 t12) n) :
    case6t7 (fc f g l m t4 t5 t6 t7 t8 (some (.v (cntD f (canon l)))) (some (.v (cntD g (canon m)))) t11 t12) n e := by
  refine ⟨⟨_, rfl⟩, ⟨_, rfl⟩, f, canon l, _, rfl, c.gf, c.cl.g, .inl ⟨g, canon m, rfl, c.gg, c.cm.g, ?_⟩⟩
  refine ⟨⟨_, rfl, rfl⟩, f, canon l, g, rfl, c.cl, ?_⟩
  refine ⟨⟨_, rfl⟩, ⟨_, rfl⟩, g, canon l, _, rfl, c.gg, c.cl.g, .inl ⟨g, canon m, rfl, c.gg, c.cm.g, ?_⟩⟩
  refine ⟨⟨_, rfl, rfl⟩, g, canon m, f, rfl, c.cm, ?_⟩
  refine ⟨⟨_, rfl⟩, ⟨_, rfl⟩, f, canon m, _, rfl, c.gf, c.cm.g, .inl ⟨f, canon l, rfl, c.gf, c.cl.g, ?_⟩⟩
  refine ⟨⟨_, rfl⟩, ⟨_, rfl⟩, f, canon l, _, rfl, c.gf, c.cl.g, .inl ⟨g, canon m, rfl, c.gg, c.cm.g, _, rfl, by show 4 ≤ lim; decide, ?_⟩⟩
  have e1 : decide (g = g ∧ canon l = canon m) = decide (canon l = canon m) := by simp
  have e2 : decide (f = f ∧ canon m = canon l) = decide (canon l = canon m) := by
    rw [Bool.eq_iff_iff, decide_eq_true_iff, decide_eq_true_iff]
    exact ⟨fun z => z.2.symm, fun z => ⟨rfl, z.symm⟩⟩
  rw [e1, e2]
  exact q
theorem k6t8 (c : C6 f g l m) (q : e.nx (fc f g l m t4 (some (.v (.bool (decide (f = g ∧ canon l = canon m))))) (some (.v (got6 f g (canon l) (canon m)))) t7 t8 t9 t10 (some (.v (.tuple (trisD (canon l))))) (some (.v (.tuple (trisD (canon m)))))) n) :
    case6t8 (fc f g l m t4 (some (.v (.bool (decide (f = g ∧ canon l = canon m))))) (some (.v (got6 f g (canon l) (canon m)))) t7 t8 t9 t10 (some (.v (.tuple (trisD (canon l))))) (some (.v (.tuple (trisD (canon m)))))) n e := by
  refine ⟨_, eqD_tris c.cl.g c.cm.g, _, eqD_tris c.cl.g c.cm.g, _, rfl, by show 4 ≤ lim; decide, ?_⟩
  refine ⟨got6 f g (canon l) (canon m), rfl, ⟨by show 4 ≤ 1000; decide, fun d hd => ?_⟩, true, rfl, q⟩
  simp only [List.mem_cons, List.not_mem_nil, or_false] at hd
  rcases hd with rfl | rfl | rfl | rfl <;> exact trivial
theorem k6t9 {d : D} (q : e.nx (fc f g l m t4 t5 t6 (some (.v d)) t8 (some (.v d)) t10 t11 t12) n) : case6t9 (fc f g l m t4 t5 t6 t7 t8 (some (.v d)) t10 t11 t12) n e := q
theorem k6t11 {d : D} (q : e.nx (fc f g l m t4 t5 t6 (some (.v d)) (some (.v d)) t9 t10 t11 t12) n) : case6t11 (fc f g l m t4 t5 t6 (some (.v d)) t8 t9 t10 t11 t12) n e := q
theorem k6t10 (c : C6 f g l m) (q : e.nx (fc f g l m t4 t5 t6 (some (.v (cntD f (canon (l ++ m))))) t8 t9 (some (.v (cntD g (canon m)))) t11 t12) n) :
    case6t10 (fc f g l m t4 t5 t6 (some (.v (cntD f (canon l)))) t8 t9 (some (.v (cntD g (canon m)))) t11 t12) n e := by
  have a := c.cl.len
  have b := c.cm.len
  refine ⟨_, rfl, ⟨_, rfl⟩, f, canon l, g, canon m, rfl, c.cl.g, c.cm.g, by omega, ?_⟩
  rw [wrongT_none (fine_append c.cl.fine c.cm.fine), canon_add c.fl c.fm]
  exact q
theorem k6t12 (c : C6 f g l m) (q : e.nx (fc f g l m t4 t5 t6 t7 (some (.v (cntD f (canon l)))) t9 (some (.v (cntD g (canon m)))) t11 t12) n) :
    case6t12 (fc f g l m t4 t5 t6 t7 (some (.v (cntD f (canon (l ++ m))))) t9 (some (.v (cntD g (canon m)))) t11 t12) n e := by
  have a := c.ll
  have b := c.lm
  have lc := canon_len (l ++ m)
  rw [List.length_append] at lc
  have nl := fun p => sumAt_nonneg (fun t ht => (c.fl t ht).2) p
  obtain ⟨h1, h2, h3⟩ := canon_sub (l := l ++ m) (m := m) (fine_append c.fl c.fm) c.fm (fun p => by rw [sumAt_append]; have := nl p; omega) l (fun p => by rw [sumAt_append]; omega)
  refine ⟨_, rfl, ⟨_, rfl⟩, f, canon (l ++ m), g, canon m, rfl, good_canon (good_append c.gl c.gm), by omega, ?_⟩
  rw [h1]
  dsimp only
  rw [wrongT_none h2, h3]
  exact q
abbrev got7 (g : Str) (L M : List Tri) : D := .list [.bool true, .bool true, .tuple (trisD L), .tuple (trisD M), .str g]
theorem k6t13 (c : C6 f g l m) (q : e.nx (fc f g l m (some (.v (cntD f (canon (l ++ m))))) t5 (some (.v (got7 g (canon l) (canon m)))) (some (.v (cntD f (canon (l ++ m))))) (some (.v (cntD f (canon l)))) (some (.v (cntD f (canon l)))) (some (.v (cntD g (canon m)))) t11 t12) n) :
    case6t13 (fc f g l m (some (.v (cntD f (canon (l ++ m))))) t5 t6 (some (.v (cntD f (canon (l ++ m))))) (some (.v (cntD f (canon l)))) (some (.v (cntD f (canon l)))) (some (.v (cntD g (canon m)))) t11 t12) n e := by
  have gb := good_canon (good_append c.gl c.gm)
  refine ⟨⟨_, rfl⟩, ⟨_, rfl⟩, f, canon (l ++ m), _, rfl, c.gf, gb, .inl ⟨f, canon (l ++ m), rfl, c.gf, gb, ?_⟩⟩
  refine ⟨⟨_, rfl⟩, ⟨_, rfl⟩, f, canon l, _, rfl, c.gf, c.cl.g, .inl ⟨f, canon l, rfl, c.gf, c.cl.g, ?_⟩⟩
  rw [decide_eq_true (show f = f ∧ canon (l ++ m) = canon (l ++ m) from ⟨rfl, rfl⟩), decide_eq_true (show f = f ∧ canon l = canon l from ⟨rfl, rfl⟩)]
  refine ⟨⟨_, rfl⟩, f, canon l, rfl, ⟨_, rfl⟩, g, canon m, rfl, ?_⟩
  exact ⟨⟨_, rfl, rfl⟩, f, canon l, g, rfl, c.cl, ⟨_, rfl⟩, g, canon l, rfl, by show 5 ≤ lim; decide, q⟩
theorem k6t14 (c : C6 f g l m) (q : e.rt (.bool true) n) :
    case6t14 (fc f g l m t4 t5 (some (.v (got7 g (canon l) (canon m)))) t7 t8 t9 t10 (some (.v (.tuple (trisD (canon l))))) (some (.v (.tuple (trisD (canon m)))))) n e := by
  have a := c.cl.len
  have b := c.cm.len
  refine ⟨by show 5 ≤ lim; decide, got7 g (canon l) (canon m), rfl, ⟨by show 5 ≤ 1000; decide, fun d hd => ?_⟩, q⟩
  simp only [List.mem_cons, List.not_mem_nil, or_false] at hd
  rcases hd with rfl | rfl | rfl | rfl | rfl
  · exact trivial
  · exact trivial
  · exact okS_trisT 1 (by omega)
  · exact okS_trisT 1 (by omega)
  · exact trivial
end
theorem sq6 {a b : CS} {ρ : En} {n : Nat} {e : EndsD} (h : a ρ n { e with nx := fun ρ' n' => b ρ' n' e }) : cSq a b ρ n e := h
theorem himp_case6 {e : EndsD} (ds : List D) (n : Nat) (k : D → Nat → Prop) (ke : Xv → Nat → Prop) (h : sdCase6 ds n k ke) (he : e.rt = k) : cs_case6 (startE n_case6 ds) n e := by
  obtain ⟨f, l, g, m, rfl, c, q⟩ := h
  subst he
  refine sq6 (k6t1 c (sq6 (k6t2 c (sq6 (k6t3 c (sq6 (k6t4 c (sq6 (k6t5 c (sq6 (k6t6 c (sq6 (k6t7 c (sq6 (k6t8 c ?_)))))))))))))))
  exact sq6 (k6t9 (sq6 (k6t10 c (sq6 (k6t11 (sq6 (k6t12 c (sq6 (k6t13 c (k6t14 c q))))))))))
end RM
set_option maxHeartbeats 4000000
namespace RM
open PySem PySem.Spec PyProof.Rows L2 CS RZ
/-! ### k06 by hand -/
def h6t1 : CS := cPar 3 4 (cCons (cMake cCnt sdInit (cCons (cC (.str "a")) (cCons (cTup (cCons (cTup (cCons (cC (.str "a")) (cCons (cC (.str "b")) (cCons (cC (.int 3)) (cNil))))) (cCons (cTup (cCons (cC (.str "b")) (cCons (cC (.str "a")) (cCons (cC (.int 1)) (cNil))))) (cNil)))) (cNil)))) (cCons (cMake cCnt sdInit (cCons (cC (.str "b")) (cCons (cTup (cCons (cTup (cCons (cC (.str "a")) (cCons (cC (.str "b")) (cCons (cC (.int 1)) (cNil))))) (cCons (cTup (cCons (cC (.str "b")) (cCons (cC (.str "a")) (cCons (cC (.int 3)) (cNil))))) (cCons (cTup (cCons (cC (.str "c")) (cCons (cC (.str "a")) (cCons (cC (.int 2)) (cNil))))) (cNil))))) (cNil)))) (cNil)))
def h6t2 : CS := cSet 0 (cLst (cCons (cCall sdHeard6 (cCons (cVar 3) (cCons (cVar 4) (cNil)))) (cCons (cCall sdHeard6 (cCons (cVar 3) (cCons (cMake cCnt sdInit (cCons (cC (.str "c")) (cCons (cTup (cCons (cTup (cCons (cC (.str "a")) (cCons (cC (.str "b")) (cCons (cC (.int 3)) (cNil))))) (cNil))) (cNil)))) (cNil)))) (cCons (cProp sdP_start (cBinO sdBinAdd (cVar 3) (cMake1 cCnt sdInit (.tuple []) (cCons (cC (.str "z")) (cNil))) cCnt) cCnt) (cNil)))))
def h6t3 : CS := cSet 1 (cLst (cCons (cLst (cCons (cC (.str "b")) (cCons (cC (.str "a")) (cCons (cC (.int 2)) (cCons (cC (.bool true)) (cCons (cC (.bool false)) (cNil))))))) (cCons (cLst (cCons (cC (.str "a")) (cCons (cTup (cCons (cTup (cCons (cC (.str "b")) (cCons (cC (.str "a")) (cCons (cC (.int 1)) (cNil))))) (cNil))) (cNil)))) (cCons (cC (.str "a")) (cNil)))))
def h6t4 : CS := cSet 0 (cOp addD (cVar 0) (cLst (cCons (cEqK sdEq (cVar 3) (cC .none) cCnt) (cCons (cEqK sdEq (cVar 3) (cC (.str "from a")) cCnt) (cCons (cEqK sdEq (cVar 3) (cProp sdP_steps (cVar 3) cCnt) cCnt) (cCons (cEqO sdEq (cVar 3) (cMake cCnt sdInit (cCons (cC (.str "a")) (cCons (cTup (cCons (cTup (cCons (cC (.str "b")) (cCons (cC (.str "a")) (cCons (cC (.int 1)) (cNil))))) (cCons (cTup (cCons (cC (.str "a")) (cCons (cC (.str "b")) (cCons (cC (.int 3)) (cNil))))) (cNil)))) (cNil)))) cCnt) (cNil)))))))
def h6t5 : CS := cSet 2 (cOp addD (cOp repD (cLst (cCons (cTup (cCons (cTup (cCons (cC (.str "a")) (cCons (cC (.str "b")) (cCons (cC (.int 3)) (cNil))))) (cCons (cTup (cCons (cC (.str "b")) (cCons (cC (.str "a")) (cCons (cC (.int 1)) (cNil))))) (cNil)))) (cNil))) (cC (.int 2))) (cLst (cCons (cTup (cCons (cTup (cCons (cC (.str "a")) (cCons (cC (.str "b")) (cCons (cC (.int 1)) (cNil))))) (cCons (cTup (cCons (cC (.str "b")) (cCons (cC (.str "a")) (cCons (cC (.int 3)) (cNil))))) (cCons (cTup (cCons (cC (.str "c")) (cCons (cC (.str "a")) (cCons (cC (.int 2)) (cNil))))) (cNil))))) (cNil))))
def h6t6 : CS := cRet (cCall sdSame6 (cCons (cOp addD (cVar 0) (cCall sdRefused (cCons (cVar 3) (cCons (cVar 4) (cNil))))) (cCons (cOp addD (cOp addD (cVar 1) (cLst (cCons (cC (.bool false)) (cCons (cC (.bool false)) (cCons (cC (.bool false)) (cCons (cC (.bool true)) (cCons (cC (.bool false)) (cCons (cC (.bool true)) (cNil))))))))) (cVar 2)) (cNil))))
def cs_by_hand6 : CS := cSq h6t1 (cSq h6t2 (cSq h6t3 (cSq h6t4 (cSq h6t5 (h6t6)))))
abbrev n_by_hand6 : List Str := ["_law_got", "_law_due", "_law_stands_so", "_law_made", "_law_its"]

def lA6 : List Tri := [("a", "b", 3), ("b", "a", 1)]
def lB6 : List Tri := [("a", "b", 1), ("b", "a", 3), ("c", "a", 2)]
def lC6 : List Tri := [("a", "b", 3)]
def lD6 : List Tri := [("b", "a", 1)]
theorem cnA6 : Cn lA6 := ⟨by unfold GoodL GoodP GoodS lA6; decide +kernel, by unfold Fine lA6; decide +kernel, by unfold lA6; decide +kernel, by decide, by decide +kernel, by decide +kernel⟩
theorem cnB6 : Cn lB6 := ⟨by unfold GoodL GoodP GoodS lB6; decide +kernel, by unfold Fine lB6; decide +kernel, by unfold lB6; decide +kernel, by decide, by decide +kernel, by decide +kernel⟩
theorem cnC6 : Cn lC6 := ⟨by unfold GoodL GoodP GoodS lC6; decide +kernel, by unfold Fine lC6; decide +kernel, by unfold lC6; decide +kernel, by decide, by decide +kernel, by decide +kernel⟩
theorem cnD6 : Cn lD6 := ⟨by unfold GoodL GoodP GoodS lD6; decide +kernel, by unfold Fine lD6; decide +kernel, by unfold lD6; decide +kernel, by decide, by decide +kernel, by decide +kernel⟩
abbrev hr6 (t0 t1 t2 t3 t4 : Option Sl) : En := [t0, t1, t2, t3, t4]
abbrev hA : D := .list [.str "b", .str "a", .int 2, .bool true, .bool false]
abbrev hC : D := .list [.str "a", .tuple (trisD lD6)]
theorem heard_AB : heardD "a" lA6 lB6 = hA := by
  have h : shortT lA6 lB6 = some (("b", "a", 3) : Tri) := by decide +kernel
  unfold heardD
  rw [h]
  rfl
theorem heard_AC : heardD "a" lA6 lC6 = hC := by
  have h : shortT lA6 lC6 = none := by decide +kernel
  have h2 : canon (leftT lA6 lC6) = lD6 := by
    rw [canon_filter (by decide +kernel) (by decide +kernel)]
    decide +kernel
  unfold heardD
  rw [h, h2]
theorem ref_AB : refD lA6 lB6 = .list [.bool false, .bool true, .tuple (trisD lA6), .tuple (trisD lA6), .tuple (trisD lB6)] := by
  have h : shortT lA6 lB6 = some (("b", "a", 3) : Tri) := by decide +kernel
  unfold refD
  rw [h]
section
variable {e : EndsD} {n : Nat} {t0 t1 t2 t3 t4 : Option Sl}
theorem h6t1_ok (q : e.nx (hr6 t0 t1 t2 (some (.v (cntD "a" lA6))) (some (.v (cntD "b" lB6)))) n) : h6t1 (hr6 t0 t1 t2 t3 t4) n e := by
  refine ⟨by show 3 ≤ lim; decide, by show 3 ≤ lim; decide, by show 2 ≤ lim; decide, ?_⟩
  refine ⟨"a", _, trisD lA6, lA6, rfl, rfl, rowsAre_tris _, cnA6.g, by decide, ?_⟩
  rw [wrongT_none cnA6.fine, cnA6.id]
  refine ⟨by show 3 ≤ lim; decide, by show 3 ≤ lim; decide, by show 3 ≤ lim; decide, by show 3 ≤ lim; decide, ?_⟩
  refine ⟨"b", _, trisD lB6, lB6, rfl, rfl, rowsAre_tris _, cnB6.g, by decide, ?_⟩
  rw [wrongT_none cnB6.fine, cnB6.id]
  exact ⟨_, _, rfl, q⟩
theorem h6t2_ok (q : e.nx (hr6 (some (.v (.list [hA, hC, .str "a"]))) t1 t2 (some (.v (cntD "a" lA6))) (some (.v (cntD "b" lB6)))) n) : h6t2 (hr6 t0 t1 t2 (some (.v (cntD "a" lA6))) (some (.v (cntD "b" lB6)))) n e := by
  refine ⟨"a", lA6, "b", lB6, rfl, cnA6, cnB6, ?_⟩
  rw [heard_AB]
  refine ⟨by show 3 ≤ lim; decide, by show 1 ≤ lim; decide, ?_⟩
  refine ⟨"c", _, trisD lC6, lC6, rfl, rfl, rowsAre_tris _, cnC6.g, by decide, ?_⟩
  rw [wrongT_none cnC6.fine, cnC6.id]
  refine ⟨"a", lA6, "c", lC6, rfl, cnA6, cnC6, ?_⟩
  rw [heard_AC]
  refine ⟨"z", _, [], [], rfl, rfl, rfl, fun _ h => (by cases h), by decide, ?_⟩
  rw [wrongT_none (show Fine [] from fun _ h => by cases h)]
  refine ⟨⟨_, rfl⟩, ⟨_, rfl⟩, "a", lA6, "z", canon [], rfl, cnA6.g, by rw [canon_nil]; exact fun _ h => (by cases h), by rw [canon_nil]; decide, ?_⟩
  rw [canon_nil, wrongT_none (show Fine (lA6 ++ []) by rw [List.append_nil]; exact cnA6.fine)]
  exact ⟨⟨_, rfl⟩, "a", _, rfl, by show 3 ≤ lim; decide, q⟩
theorem h6t3_ok (q : e.nx (hr6 t0 (some (.v (.list [hA, hC, .str "a"]))) t2 t3 t4) n) : h6t3 (hr6 t0 t1 t2 t3 t4) n e := by
  repeat first | exact q | refine ⟨by show _ ≤ lim; decide, ?_⟩ | refine ⟨_, rfl, ?_⟩
theorem perm_A6 : canon [("b", "a", 1), ("a", "b", 3)] = lA6 := by
  rw [← cnA6.id]
  exact canon_perm (List.Perm.swap _ _ _)
theorem h6t4_ok (q : e.nx (hr6 (some (.v (.list ([hA, hC, .str "a"] ++ [.bool false, .bool false, .bool false, .bool true])))) t1 t2 (some (.v (cntD "a" lA6))) t4) n) : h6t4 (hr6 (some (.v (.list [hA, hC, .str "a"]))) t1 t2 (some (.v (cntD "a" lA6))) t4) n e := by
  have gA : GoodS "a" := by unfold GoodS; decide +kernel
  refine ⟨⟨_, rfl⟩, ⟨"NoneType", rfl⟩, "a", lA6, _, rfl, gA, cnA6.g, .inr ⟨⟨_, rfl⟩, ?_⟩⟩
  refine ⟨⟨_, rfl⟩, ⟨"str", rfl⟩, "a", lA6, _, rfl, gA, cnA6.g, .inr ⟨⟨_, rfl⟩, ?_⟩⟩
  refine ⟨⟨_, rfl⟩, "a", lA6, rfl, ?_⟩
  refine ⟨⟨_, rfl⟩, ⟨"tuple", rfl⟩, "a", lA6, _, rfl, gA, cnA6.g, .inr ⟨⟨_, rfl⟩, ?_⟩⟩
  refine ⟨by show 3 ≤ lim; decide, by show 3 ≤ lim; decide, by show 2 ≤ lim; decide, ?_⟩
  refine ⟨"a", _, trisD [("b", "a", 1), ("a", "b", 3)], [("b", "a", 1), ("a", "b", 3)], rfl, rfl, rowsAre_tris _, by unfold GoodP GoodS; decide +kernel, by decide, ?_⟩
  rw [wrongT_none (show Fine [("b", "a", 1), ("a", "b", 3)] by unfold Fine; decide +kernel), perm_A6]
  refine ⟨⟨_, rfl⟩, ⟨_, rfl⟩, "a", lA6, _, rfl, gA, cnA6.g, .inl ⟨"a", lA6, rfl, gA, cnA6.g, ?_⟩⟩
  rw [decide_eq_true (show ("a" : Str) = "a" ∧ lA6 = lA6 from ⟨rfl, rfl⟩)]
  exact ⟨by show 4 ≤ lim; decide, _, rfl, q⟩
abbrev st6 : D := .list [.tuple (trisD lA6), .tuple (trisD lA6), .tuple (trisD lB6)]
theorem h6t5_ok (q : e.nx (hr6 t0 t1 (some (.v st6)) t3 t4) n) : h6t5 (hr6 t0 t1 t2 t3 t4) n e := by
  refine ⟨by show 3 ≤ lim; decide, by show 3 ≤ lim; decide, by show 2 ≤ lim; decide, by show 1 ≤ lim; decide, ?_⟩
  refine ⟨.list [.tuple (trisD lA6), .tuple (trisD lA6)], rfl, ?_⟩
  refine ⟨by show 3 ≤ lim; decide, by show 3 ≤ lim; decide, by show 3 ≤ lim; decide, by show 3 ≤ lim; decide, by show 1 ≤ lim; decide, ?_⟩
  exact ⟨_, rfl, q⟩
theorem h6t6_ok (q : e.rt (.bool true) n) : h6t6 (hr6 (some (.v (.list ([hA, hC, .str "a"] ++ [.bool false, .bool false, .bool false, .bool true])))) (some (.v (.list [hA, hC, .str "a"]))) (some (.v st6)) (some (.v (cntD "a" lA6))) (some (.v (cntD "b" lB6)))) n e := by
  refine ⟨"a", lA6, "b", lB6, rfl, by unfold GoodS; decide +kernel, cnA6, cnB6, ?_⟩
  rw [ref_AB]
  refine ⟨_, rfl, by show 6 ≤ lim; decide, _, rfl, _, rfl, ?_⟩
  exact ⟨_, rfl, okB_ok _ _ (by decide +kernel), q⟩
end
def sdByHand6 : SpD := fun ds n k _ => ds = [] ∧ k (.bool true) n
theorem himp_by_hand6 {e : EndsD} (ds : List D) (n : Nat) (k : D → Nat → Prop) (ke : Xv → Nat → Prop) (h : sdByHand6 ds n k ke) (he : e.rt = k) : cs_by_hand6 (startE n_by_hand6 ds) n e := by
  obtain ⟨rfl, q⟩ := h
  subst he
  show cs_by_hand6 (hr6 none none none none none) n e
  exact sq6 (h6t1_ok (sq6 (h6t2_ok (sq6 (h6t3_ok (sq6 (h6t4_ok (sq6 (h6t5_ok (h6t6_ok q))))))))))
end RM
set_option maxHeartbeats 4000000
namespace RM
open PySem PySem.Spec PyProof.Rows L2 CS RZ
/-! ### k06, drawn -/
def g61 : CS := cPar 2 3 (cCons (cCall sdTags (cCons (cVar 0) (cCons (cOp addD (cC (.int 2)) (cCall sdTake (cCons (cVar 0) (cCons (cC (.int 4)) (cNil))))) (cNil)))) (cCons (cCall sdOf (cCons (cVar 0) (cCons (cLst (cCons (cC (.int 1)) (cCons (cC (.int 3)) (cCons (cOp powD (cC (.int 10)) (cC (.int 28))) (cNil))))) (cNil)))) (cNil)))
def g62 : CS := cPar 4 5 (cCons (cCall sdStrewn (cCons (cVar 0) (cCons (cVar 2) (cCons (cC (.int 7)) (cCons (cVar 3) (cNil)))))) (cCons (cCall sdStrewn (cCons (cVar 0) (cCons (cVar 2) (cCons (cC (.int 5)) (cCons (cVar 3) (cNil)))))) (cNil)))
def g63 : CS := cIfS (cB (cOp eqD (cCall sdTake (cCons (cVar 0) (cCons (cC (.int 2)) (cNil)))) (cC (.int 0)))) (cSet 4 (cOp addD (cVar 4) (cVar 5))) (cNext)
def g64 : CS := cIfS (cB (cOp eqD (cCall sdTake (cCons (cVar 0) (cCons (cC (.int 5)) (cNil)))) (cC (.int 0)))) (cSet 5 (cRev (cVar 4) (cNeg (cC (.int 1))))) (cNext)
def g65 : CS := cIfS (cNotT (cB (cCall sdCase6 (cCons (cCall sdOf (cCons (cVar 0) (cCons (cVar 2) (cNil)))) (cCons (cVar 4) (cCons (cCall sdOf (cCons (cVar 0) (cCons (cVar 2) (cNil)))) (cCons (cVar 5) (cNil)))))))) (cRet (cC (.bool false))) (cNext)
def g6Body : CS := cSq g61 (cSq g62 (cSq g63 (cSq g64 (g65))))
def g6t1 : CS := cFor (cRange1 (cCons (cC (.int 7)) (cNil))) (stN 1) g6Body
def g6t2 : CS := cRet (cC (.bool true))
def cs_right6 : CS := cSq g6t1 (g6t2)
abbrev n_right6 : List Str := ["_law_box_here", "_law_turn", "_law_tags_here", "_law_high_so", "_law_rows_so", "_law_far_so"]

abbrev gs6 (t1 t2 t3 t4 t5 : Option Sl) : En := [some (.v boxD), t1, t2, t3, t4, t5]
structure Pool (ss : List Str) : Prop where
  nd : ss.Nodup
  two : 2 ≤ ss.length
  six : ss.length ≤ 6
  tag : ∀ s ∈ ss, s ∈ tagPool
structure Rows6 (ss : List Str) (l : List Tri) : Prop where
  fine : Fine l
  ins : ∀ t ∈ l, t.1 ∈ ss ∧ t.2.1 ∈ ss
theorem Rows6.good {ss : List Str} {l : List Tri} (p : Pool ss) (r : Rows6 ss l) : GoodL l := fun t ht => ⟨tag_good _ (p.tag _ (r.ins t ht).1), tag_good _ (p.tag _ (r.ins t ht).2)⟩
theorem Rows6.app {ss : List Str} {l m : List Tri} (a : Rows6 ss l) (b : Rows6 ss m) : Rows6 ss (l ++ m) := ⟨fine_append a.fine b.fine, fun t ht => (List.mem_append.mp ht).elim (a.ins t) (b.ins t)⟩
theorem Rows6.rev {ss : List Str} {l : List Tri} (a : Rows6 ss l) : Rows6 ss l.reverse := ⟨fun t ht => a.fine t (List.mem_reverse.mp ht), fun t ht => a.ins t (List.mem_reverse.mp ht)⟩
section
variable {e : EndsD} {n : Nat} {t1 t2 t3 t4 t5 : Option Sl}
theorem g61_ok (hn : n ≤ 500000) (q : ∀ (ss : List Str) (high : Int) (n' : Nat), Pool ss → 0 ≤ high → high < 2 ^ 199 → n' ≤ n + 1003 → e.nx (gs6 t1 (some (.v (.list (strD ss)))) (some (.v (.int high))) t4 t5) n') : g61 (gs6 t1 t2 t3 t4 t5) n e := by
  refine ⟨4, rfl, by omega, by decide, by decide, fun r r0 r1 => ?_⟩
  refine ⟨.int (2 + r), rfl, 2 + r, rfl, by omega, by omega, by omega, fun ss n' h1 h2 h3 h4 => ?_⟩
  refine ⟨.int (10 ^ 28), rfl, by show 3 ≤ lim; decide, ?_⟩
  refine ⟨.list [.int 1, .int 3, .int (10 ^ 28)], [.int 1, .int 3, .int (10 ^ 28)], rfl, rfl, by omega, by show 0 < 3; decide, by show 3 < 1000000; decide, fun d2 hd2 => ?_⟩
  obtain ⟨high, rfl, g0, g1⟩ : ∃ high : Int, d2 = .int high ∧ 0 ≤ high ∧ high < 2 ^ 199 := by
    rcases List.mem_cons.mp hd2 with rfl | hd2
    · exact ⟨1, rfl, by decide, by decide⟩
    rcases List.mem_cons.mp hd2 with rfl | hd2
    · exact ⟨3, rfl, by decide, by decide⟩
    · rw [List.mem_singleton.mp hd2]
      exact ⟨10 ^ 28, rfl, by decide, by decide⟩
  exact ⟨_, _, rfl, q ss high _ ⟨h2, by omega, by omega, h3⟩ g0 g1 (by omega)⟩
theorem g62_ok {ss : List Str} {high : Int} (hn : n ≤ 550000) (p : Pool ss) (g0 : 0 ≤ high) (g1 : high < 2 ^ 199)
    (q : ∀ (l m : List Tri) (n' : Nat), Rows6 ss l → Rows6 ss m → l.length ≤ 7 → m.length ≤ 5 → n' ≤ n + 60000 → e.nx (gs6 t1 (some (.v (.list (strD ss)))) (some (.v (.int high))) (some (.v (.tuple (trisD l)))) (some (.v (.tuple (trisD m))))) n') :
    g62 (gs6 t1 (some (.v (.list (strD ss)))) (some (.v (.int high))) t4 t5) n e := by
  have p2 := p.two
  have p6 := p.six
  have mk : ∀ {l : List Tri}, (∀ t ∈ l, t.1 ∈ ss ∧ t.2.1 ∈ ss ∧ t.1 ≠ t.2.1 ∧ 0 ≤ t.2.2 ∧ t.2.2 ≤ high) → Rows6 ss l := fun h => ⟨fun t ht => ⟨(h t ht).2.2.1, (h t ht).2.2.2.1⟩, fun t ht => ⟨(h t ht).1, (h t ht).2.1⟩⟩
  refine ⟨ss, 7, high, rfl, p.nd, p.two, by omega, by omega, by decide, by decide, g0, g1, fun l n1 l1 l2 l3 => ?_⟩
  refine ⟨ss, 5, high, rfl, p.nd, p.two, by omega, by omega, by decide, by decide, g0, g1, fun m n2 m1 m2 m3 => ?_⟩
  exact ⟨_, _, rfl, q l m n2 (mk l2) (mk m2) l1 m1 (by omega)⟩
theorem g63_ok {ss : List Str} {l m : List Tri} (hn : n ≤ 800000) (hl : Rows6 ss l) (hm : Rows6 ss m) (ll : l.length ≤ 7) (lm : m.length ≤ 5)
    (q : ∀ (l : List Tri) (n' : Nat), Rows6 ss l → l.length ≤ 12 → n' ≤ n + 1 → e.nx (gs6 t1 t2 t3 (some (.v (.tuple (trisD l)))) (some (.v (.tuple (trisD m))))) n') :
    g63 (gs6 t1 t2 t3 (some (.v (.tuple (trisD l)))) (some (.v (.tuple (trisD m))))) n e := by
  refine ⟨2, rfl, by omega, by decide, by decide, fun r r0 r1 => ⟨.bool (r == 0), rfl, _, rfl, ?_⟩⟩
  cases c : r == 0 with
  | true => exact ⟨_, add_tris (by unfold lim; omega), q (l ++ m) _ (hl.app hm) (by rw [List.length_append]; omega) (by omega)⟩
  | false => exact q l _ hl (by omega) (by omega)
theorem g64_ok {ss : List Str} {l m : List Tri} (hn : n ≤ 800000) (hl : Rows6 ss l) (hm : Rows6 ss m) (ll : l.length ≤ 12) (lm : m.length ≤ 5)
    (q : ∀ (m : List Tri) (n' : Nat), Rows6 ss m → m.length ≤ 12 → n' ≤ n + 1 → e.nx (gs6 t1 t2 t3 (some (.v (.tuple (trisD l)))) (some (.v (.tuple (trisD m))))) n') :
    g64 (gs6 t1 t2 t3 (some (.v (.tuple (trisD l)))) (some (.v (.tuple (trisD m))))) n e := by
  refine ⟨5, rfl, by omega, by decide, by decide, fun r r0 r1 => ⟨.bool (r == 0), rfl, _, rfl, ?_⟩⟩
  cases c : r == 0 with
  | true =>
    refine ⟨1, rfl, rfl, .tuple (trisD l).reverse, rfl, ?_⟩
    have e1 : (trisD l).reverse = trisD l.reverse := by
      unfold trisD
      rw [List.map_reverse]
    rw [e1]
    exact q l.reverse _ hl.rev (by rw [List.length_reverse]; omega) (by omega)
  | false => exact q m _ hm (by omega) (by omega)
theorem g65_ok {ss : List Str} {l m : List Tri} (hn : n ≤ 800000) (p : Pool ss) (hl : Rows6 ss l) (hm : Rows6 ss m) (ll : l.length ≤ 12) (lm : m.length ≤ 12)
    (q : ∀ n' : Nat, n' ≤ n + 2 → e.nx (gs6 t1 (some (.v (.list (strD ss)))) t3 (some (.v (.tuple (trisD l)))) (some (.v (.tuple (trisD m))))) n') :
    g65 (gs6 t1 (some (.v (.list (strD ss)))) t3 (some (.v (.tuple (trisD l)))) (some (.v (.tuple (trisD m))))) n e := by
  have p2 := p.two
  have p6 := p.six
  refine ⟨.list (strD ss), strD ss, rfl, rfl, by omega, by rw [strD_len]; omega, by rw [strD_len]; omega, fun d hd => ?_⟩
  obtain ⟨f, hf, rfl⟩ := List.mem_map.mp hd
  refine ⟨.list (strD ss), strD ss, rfl, rfl, by omega, by rw [strD_len]; omega, by rw [strD_len]; omega, fun d hd => ?_⟩
  obtain ⟨g, hg, rfl⟩ := List.mem_map.mp hd
  exact ⟨f, l, g, m, rfl, ⟨tag_good f (p.tag f hf), tag_good g (p.tag g hg), hl.fine, hm.fine, hl.good p, hm.good p, ll, lm⟩, true, rfl, q _ (by omega)⟩
theorem g6Body_ok (hn : n ≤ 480000) (q : ∀ (t2 t3 t4 t5 : Option Sl) (n' : Nat), n' ≤ n + 61010 → e.nx (gs6 t1 t2 t3 t4 t5) n') : g6Body (gs6 t1 t2 t3 t4 t5) n e := by
  refine sq6 (g61_ok (by omega) fun ss high n1 p g0 g1 h1 => ?_)
  refine sq6 (g62_ok (by omega) p g0 g1 fun l m n2 hl hm ll lm h2 => ?_)
  refine sq6 (g63_ok (by omega) hl hm ll lm fun l n3 hl ll h3 => ?_)
  refine sq6 (g64_ok (by omega) hl hm ll lm fun m n4 hm lm h4 => ?_)
  exact g65_ok (by omega) p hl hm ll lm fun n5 h5 => q _ _ _ _ n5 (by omega)
end
theorem turns6 {e : EndsD} : ∀ (turns : List D) (t1 t2 t3 t4 t5 : Option Sl) (n : Nat), n + 61010 * turns.length ≤ 480000 → (∀ (ρ : En) (n' : Nat), e.nx ρ n') → cForL (stN 1) g6Body turns (gs6 t1 t2 t3 t4 t5) n e
  | [], _, _, _, _, _, n, _, q => q _ n
  | d :: turns, t1, t2, t3, t4, t5, n, h, q => by
    rw [List.length_cons] at h
    refine ⟨_, rfl, ?_⟩
    refine g6Body_ok (by omega) fun u2 u3 u4 u5 n' hn' => ?_
    exact turns6 turns _ _ _ _ _ n' (by omega) q
def sdRight6 : SpD := fun ds n k _ => ds = [boxD] ∧ n = 0 ∧ ∀ n', k (.bool true) n'
theorem himp_right6 {e : EndsD} (ds : List D) (n : Nat) (k : D → Nat → Prop) (ke : Xv → Nat → Prop) (h : sdRight6 ds n k ke) (he : e.rt = k) : cs_right6 (startE n_right6 ds) n e := by
  obtain ⟨rfl, rfl, q⟩ := h
  subst he
  refine ⟨7, rfl, ⟨by decide, by decide⟩, ?_⟩
  exact turns6 _ none none none none none 0 (by decide) fun ρ n' => q n'
theorem same_imp6 {g : Glob} {vs : List V} {H : Hp} {Q : VK} {E : XK} (h : spD g sdSame6 vs H Q E) : ∃ (x y : V) (d : D), vs = [x, y] ∧ Dp g.K H x d ∧ Dp g.K H y d ∧ okS 5 d ∧ ∀ H' : Hp, Same H H' → Q (.bl true) H' := by
  obtain ⟨C, ds, n, k, ke, hK, e0, E0, i, ⟨x, rfl, ok, s⟩, q, _⟩ := h
  obtain ⟨v, u, rfl, iv, iu⟩ := i.two
  refine ⟨v, u, x, rfl, hK.1 ▸ (iv.same hid_le).dp (okS_plain 5 x ok), hK.1 ▸ (iu.same hid_le).dp (okS_plain 5 x ok), ok, fun H' s' => q _ _ _ _ s ⟨fun a o h _ => s' _ _ (e0 ▸ h), fun b hb => (E0.box b hb).2.same s'⟩ (.bl true)⟩
theorem kw1_var {i : Nat} : ∀ (ds : List D) (ρ : En) (n : Nat) (k : List D → En → Nat → Prop) (ke : KE), cCons (cVar i) cNil ρ n k ke → cCons (cVar i) cNil ρ n (fun ds ρ' n' => ds.length = 1 ∧ k ds ρ' n') ke := by
  intro _ ρ n k ke h
  show match ρ[i]? with | some (some (Sl.v d)) => _ | some (some (Sl.own d)) => _ | _ => False
  replace h : (match ρ[i]? with | some (some (Sl.v d)) => k [d] ρ n | some (some (Sl.own d)) => k [d] (ρ.set i (some (Sl.v d))) n | _ => False) := h
  split at h
  · exact ⟨rfl, h⟩
  · exact ⟨rfl, h⟩
  · exact h.elim
end RM
namespace K06
open PySem PySem.Spec PyProof.Rows L2 CS
def top (i : Nat) : Stmt := PySem.Challenge.pw_countedsteps_k06_counts_added_and_taken.main.body.getD i (.Pass ⟨0, 0, 0, 0⟩)
abbrev sBox : Stmt := top 12
abbrev sTake : Stmt := top 13
abbrev sCells : Stmt := top 14
abbrev sOf : Stmt := top 15
abbrev sSame : Stmt := top 17
abbrev sRight : Stmt := top 26
abbrev sLaw : Stmt := top 27
abbrev clsBody (st : Stmt) : List Stmt := match st with | .ClassDef _ _ _ b _ _ _ _ _ _ _ => b | _ => []
abbrev sIni0 (i : Nat) : Stmt := (clsBody (top i)).getD 0 (.Pass ⟨0, 0, 0, 0⟩)

/-! ### heaps and lists -/
theorem same_upd {H : Hp} {p : Addr} {o : HO} (h : H p = none) : Same H (upd H p o) := fun b x e => by
  rw [upd_ne (ne_of_none e h)]
  exact e
theorem cut1 (xs : List V) : cutV xs (some 1) none = xs.drop 1 := by
  unfold cutV
  rw [show HT.sIx xs.length 0 (some 1) = min 1 xs.length from HT.sIx_nat xs.length 0 1, HT.sIx_none]
  cases xs with
  | nil => rfl
  | cons x r =>
    rw [show min 1 (x :: r).length = 1 by
      rw [List.length_cons]
      omega]
    show (List.take ((x :: r).length - 1) r) = r
    rw [List.length_cons, Nat.add_sub_cancel]
    exact List.take_length
theorem sIx_one {n : Nat} (h : 0 < n) : HT.sIx n 0 (some 1) = 1 := by
  rw [show HT.sIx n 0 (some 1) = min 1 n from HT.sIx_nat n 0 1]
  omega
theorem sqT_same {K : PySem.W.Frag} {H H' : Hp} {a : Addr} {xs : List V} (e : Same H H') (h : SqT K H a xs) : SqT K H' a xs := by
  rcases h with (h | ⟨o, h⟩) | h
  · exact .inl (.inl (e _ _ h))
  · exact .inl (.inr ⟨o, e _ _ h⟩)
  · exact .inr h
/-- a tuple or a list of texts -/
def Jr (K : PySem.W.Frag) (H : Hp) (a : Addr) (ss : List Str) : Prop := SqT K H a (ss.map V.str) ∨ SqL K H a (ss.map V.str)
theorem Jr.keep {K : PySem.W.Frag} {H H' : Hp} {a : Addr} {ss : List Str} (h : Jr K H a ss) (s : Same H H') : Jr K H' a ss := by
  rcases h with h | h
  · exact .inl (sqT_same s h)
  · exact .inr (s.seq h)
end K06
namespace K06
open PySem PySem.Spec PyProof.Rows L2 CS
/-- all but b is as it was -/
def Keep (b : Addr) (H H' : Hp) : Prop := ∀ c o, c ≠ b → H c = some o → H' c = some o
theorem Keep.refl (b : Addr) (H : Hp) : Keep b H H := fun _ _ _ e => e
theorem Keep.trans {b : Addr} {H H1 H2 : Hp} (x : Keep b H H1) (y : Keep b H1 H2) : Keep b H H2 := fun c o n e => y c o n (x c o n e)
theorem Keep.of_same {b : Addr} {H H1 : Hp} (x : Same H H1) : Keep b H H1 := fun c o _ e => x c o e
theorem Keep.upd {b : Addr} (H : Hp) (o : HO) : Keep b H (L2.upd H b o) := fun c u n e => by rw [upd_ne n]; exact e
theorem Keep.sqL {K : PySem.W.Frag} {b a : Addr} {H H' : Hp} {xs : List V} (x : Keep b H H') (n : a ≠ b) (h : SqL K H a xs) : SqL K H' a xs := by
  rcases h with (h | ⟨o, h⟩) | h
  · exact .inl (.inl (x _ _ n h))
  · exact .inl (.inr ⟨o, x _ _ n h⟩)
  · exact .inr h
theorem Keep.sqT {K : PySem.W.Frag} {b a : Addr} {H H' : Hp} {xs : List V} (x : Keep b H H') (n : a ≠ b) (h : SqT K H a xs) : SqT K H' a xs := by
  rcases h with (h | ⟨o, h⟩) | h
  · exact .inl (.inl (x _ _ n h))
  · exact .inl (.inr ⟨o, x _ _ n h⟩)
  · exact .inr h
theorem b01 (c : Bool) : 0 ≤ (if c = true then (1 : Int) else 0) ∧ (if c = true then (1 : Int) else 0) ≤ 1 := by cases c <;> decide
theorem abs0 (i : Int) : 0 ≤ (if i < 0 then -i else i) := by split <;> omega
theorem mul01 (i : Int) (c : Bool) : CMul i (if c = true then (1 : Int) else 0) := by
  have q := b01 c
  exact .inr ⟨by omega, by omega⟩
theorem dv64 (i : Int) : CDivN i 64 := ⟨by decide, by decide⟩
theorem dvM (i : Int) : CDivN i 1000003 := ⟨by decide, by decide⟩
section
variable {P : Program} {w : World} {K : PySem.W.Frag} {mg : Str → Option Value} {base : Heap}
/-! ### the box of draws -/
/-- a box at b: what is left of the number, the seed, how often it was asked -/
def BoxAt (H : Hp) (b : Addr) (n : Nat) : Prop := ∃ A B C : Int, H b = some (.lst [.int A, .int B, .int C]) ∧ 0 ≤ A ∧ 0 ≤ B ∧ B < 2 ^ 62 ∧ 0 ≤ C ∧ C ≤ n
def spBox (K : PySem.W.Frag) : Sp := fun vs H Q _ => ∃ (a : Addr) (ns : List Int) (k : Nat), vs = [.ref a, .int (k : Nat)] ∧ SqL K H a (ns.map V.int) ∧ k < ns.length ∧ ns.length ≤ 1000 ∧ ∀ (H' : Hp) (p : Addr), Same H H' → H p = none → BoxAt H' p 0 → Q (.ref p) H'
theorem scBox : FnScope ["_law_script", "_law_k", "_law_cell"] ["_law_script", "_law_k"] (defScope sBox) := ⟨rfl, rfl, rfl, by decide +kernel, rfl, by decide +kernel, by decide +kernel⟩
theorem ok_box {f : Addr} {fd : FuncData} {k : Nat} (F : Fun K "_law_box" "_law_box" sBox f fd) (ml : mg "len" = none) (ma : mg "abs" = none) (mi : mg "int" = none) : FnOk P w K mg base CX0 (k + 1) f fd ["_law_script", "_law_k"] (spBox K) := by
  refine F.ok scBox (fun vs H Q E h => ?_) (fun cdv A outer s H vs Q E hr h => ?_)
  · obtain ⟨a, ns, k, rfl, _⟩ := h
    rfl
  · obtain ⟨a, ns, k, rfl, hS, hk, h1, q⟩ := h
    refine ⟨_, pss_cons (ps_set (i := 2) scBox.nd rfl (.inl rfl) (pe_ifExp (pt_cmpR op_lt (pv 1) (pe_callB call_len_seq (by rfl) ml PySem.boot_len (pa_cons (pv 0) pa_nil)) (nomark _)) (pe_ix ix_list (pv 0) (pv 1) (fun _ _ => rfl)) pe_int))
      (pss_one (ps_ret (pe_lst (pa_cons (pe_op op_mul (pe_callB call_abs (by rfl) ma (by decide +kernel) (pa_cons (pv 2) pa_nil)) (pe_callTy call_int1 (by rfl) mi (by decide +kernel) (pa_cons (pe_cmpR op_ge (pe_callB call_abs (by rfl) ma (by decide +kernel) (pa_cons (pv 2) pa_nil)) (pe_op op_pow pe_int pe_int) (nomark _)) pa_nil)))
        (pa_cons (pe_op op_add (pe_op op_add (pe_op op_modN (pe_callTy call_int1 (by rfl) mi (by decide +kernel) (pa_cons (pv 2) pa_nil)) pe_int) (pe_op op_mul pe_int (pv 1))) pe_int) (pa_cons pe_int pa_nil)))))), ?_⟩
    have hx : (ns.map V.int)[k]? = some (.int ns[k]) := by rw [List.getElem?_map, List.getElem?_eq_getElem hk]; rfl
    have hd : decide ((k : Int) < ((ns.map V.int).length : Nat)) = true := decide_eq_true (by rw [List.length_map]; omega)
    refine ⟨.int (k : Nat), rfl, .ref a, rfl, a, _, rfl, .inl hS, _, _, rfl, rfl, _, rfl, ?_⟩
    rw [hd]
    refine ⟨.ref a, rfl, .int (k : Nat), rfl, a, _, _, _, rfl, rfl, hS, atI_nat hx, ?_⟩
    have e1 := Int.fmod_nonneg_of_pos ns[k] (b := 2305843009213693951) (by decide)
    have e2 := Int.fmod_lt_of_pos ns[k] (b := 2305843009213693951) (by decide)
    refine ⟨.int ns[k], rfl, _, rfl, .int ns[k], rfl, _, rfl, 10, 18, rfl, rfl, ⟨by decide, by decide, by decide⟩, _, _, rfl, rfl, .inr ⟨_, rfl, _, _, rfl, rfl, mul01 _ _, ?_⟩⟩
    refine ⟨.int ns[k], rfl, .inl ⟨_, rfl, _, _, rfl, rfl, (by show (2305843009213693951 : Int) ≠ 0; decide), _, rfl, _, _, rfl, rfl, .inl (by decide), _, _, rfl, rfl, _, _, rfl, rfl, ?_⟩⟩
    refine ⟨by show 3 ≤ sizeLine; decide, fun p np => q _ p (same_upd np) np ?_⟩
    refine ⟨_, _, 0, upd_same, Int.mul_nonneg (abs0 _) (b01 _).1, ?_, ?_, Int.le_refl 0, Int.le_refl 0⟩
    · have : (0 : Int) ≤ k := Int.natCast_nonneg k
      omega
    · have : (k : Int) < 1000 := by omega
      omega
/-! ### a draw -/
def spTake : Sp := fun vs H Q _ => ∃ (b : Addr) (n : Nat) (m : Int), vs = [.ref b, .int m] ∧ BoxAt H b n ∧ n ≤ 1000000 ∧ 0 < m ∧ m < 2 ^ 200 ∧ ∀ (H' : Hp) (r : Int), Keep b H H' → BoxAt H' b (n + 1) → 0 ≤ r → r < m → Q (.int r) H'
theorem scTake : FnScope ["_law_box_here", "_law_below", "_law_digit_so", "_law_once", "_law_odd", "_law_twice"] ["_law_box_here", "_law_below"] (defScope sTake) := ⟨rfl, rfl, rfl, by decide +kernel, rfl, by decide +kernel, by decide +kernel⟩
theorem ok_take {f : Addr} {fd : FuncData} {k : Nat} (F : Fun K "_law_take" "_law_take" sTake f fd) (mi : mg "int" = none) : FnOk P w K mg base CX0 (k + 1) f fd ["_law_box_here", "_law_below"] spTake := by
  refine F.ok scTake (fun vs H Q E h => ?_) (fun cdv A outer s H vs Q E hr h => ?_)
  · obtain ⟨b, n, m, rfl, _⟩ := h
    rfl
  · obtain ⟨b, n, m, rfl, ⟨A, B, C, hb, hA, hB, hB2, hC, hC2⟩, hn, hm, hm2, q⟩ := h
    refine ⟨_, pss_cons (ps_if (pt_cmpR op_gt (pe_ix ix_list (pv 0) pe_int (fun _ _ => rfl)) pe_int (nomark _))
        (pss_cons (ps_set (i := 2) scTake.nd rfl (.inl rfl) (pe_op op_modN (pe_callTy call_int1 (by rfl) mi (by decide +kernel) (pa_cons (pe_ix ix_list (pv 0) pe_int (fun _ _ => rfl)) pa_nil)) (pv 1)))
          (pss_cons (ps_asg (pe_op op_fdivW (pe_ix ix_list (pv 0) pe_int (fun _ _ => rfl)) (pv 1)) (pg_sub (pv 0) pe_int set_list)) (pss_one (ps_ret (pv 2))))) pss_nil)
      (pss_cons (ps_asg (pe_op op_add (pe_ix ix_list (pv 0) pe_int (fun _ _ => rfl)) pe_int) (pg_sub (pv 0) pe_int set_list))
      (pss_cons (ps_set (i := 3) scTake.nd rfl (.inl rfl) (pe_op op_modN (pe_callTy call_int1 (by rfl) mi (by decide +kernel) (pa_cons (pe_op op_mul (pe_op op_add (pe_ix ix_list (pv 0) pe_int (fun _ _ => rfl)) (pe_op op_mul pe_int (pe_ix ix_list (pv 0) pe_int (fun _ _ => rfl)))) (pe_op op_add pe_int (pe_ix ix_list (pv 0) pe_int (fun _ _ => rfl)))) pa_nil)) pe_int))
      (pss_cons (ps_set (i := 4) scTake.nd rfl (.inl rfl) (pe_op op_add (pe_op op_modN (pe_callTy call_int1 (by rfl) mi (by decide +kernel) (pa_cons (pv 3) pa_nil)) pe_int) pe_int))
      (pss_cons (ps_set (i := 5) scTake.nd rfl (.inl rfl) (pe_op op_modN (pe_callTy call_int1 (by rfl) mi (by decide +kernel) (pa_cons (pe_op op_mul (pe_op op_add (pe_op op_add (pv 3) (pe_ix ix_list (pv 0) pe_int (fun _ _ => rfl))) (pe_op op_fdivN (pe_ix ix_list (pv 0) pe_int (fun _ _ => rfl)) pe_int)) (pv 4)) pa_nil)) pe_int))
      (pss_one (ps_ret (pe_op op_modN (pe_callTy call_int1 (by rfl) mi (by decide +kernel) (pa_cons (pe_op op_fdivN (pe_op op_modN (pe_callTy call_int1 (by rfl) mi (by decide +kernel) (pa_cons (pe_op op_add (pe_op op_mul (pv 5) pe_int) (pv 3)) pa_nil)) pe_int) pe_int) pa_nil)) (pv 1)))))))), ?_⟩
    refine ⟨.ref b, rfl, b, _, 0, .int A, rfl, rfl, SqL.of hb, atI_nat (j := 0) rfl, _, _, rfl, rfl, _, rfl, ?_⟩
    refine ite2 (fun c => ?_) (fun c => ?_)
    · have hg : 0 < A := of_decide_eq_true c
      have r0 := Int.fmod_nonneg_of_pos A hm
      have r1 := Int.fmod_lt_of_pos A hm
      have d0 : 0 ≤ A / m := Int.ediv_nonneg hA (Int.le_of_lt hm)
      refine ⟨.ref b, rfl, b, _, 0, .int A, rfl, rfl, SqL.of hb, atI_nat (j := 0) rfl, .inl ⟨A, rfl, .int m, rfl, A, m, rfl, rfl, by omega, ?_⟩⟩
      refine ⟨.ref b, rfl, b, _, 0, .int A, rfl, rfl, SqL.of hb, atI_nat (j := 0) rfl, .int m, rfl, A, m, rfl, rfl, wide_div hm (b := 200) (by omega) (by decide) (by decide), ?_⟩
      refine ⟨.ref b, rfl, b, _, 0, 0, rfl, rfl, hb, rfl, ?_⟩
      refine ⟨_, rfl, ?_⟩
      exact q _ _ (Keep.upd H _) ⟨_, B, C, upd_same, d0, hB, hB2, hC, by omega⟩ r0 r1
    · refine ⟨.ref b, rfl, b, _, 2, .int C, rfl, rfl, SqL.of hb, atI_nat (j := 2) rfl, _, _, rfl, rfl, ?_⟩
      refine ⟨.ref b, rfl, b, _, 2, 2, rfl, rfl, hb, rfl, ?_⟩
      have hb2 : SqL K (upd H b (.lst [.int A, .int B, .int (C + 1)])) b [.int A, .int B, .int (C + 1)] := SqL.of upd_same
      have i1 : atI [V.int A, V.int B, V.int (C + 1)] 1 = some (V.int B) := atI_nat (j := 1) rfl
      have i2 : atI [V.int A, V.int B, V.int (C + 1)] 2 = some (V.int (C + 1)) := atI_nat (j := 2) rfl
      refine ⟨.ref b, rfl, b, _, 1, .int B, rfl, rfl, hb2, i1, .ref b, rfl, b, _, 2, .int (C + 1), rfl, rfl, hb2, i2, _, _, rfl, rfl, .inl (by decide), _, _, rfl, rfl, .ref b, rfl, b, _, 2, .int (C + 1), rfl, rfl, hb2, i2, _, _, rfl, rfl,
        _, _, rfl, rfl, .inr (by omega), .inl ⟨_, rfl, _, _, rfl, rfl, (by show (2147483647 : Int) ≠ 0; decide), ?_⟩⟩
      have o0 := Int.fmod_nonneg_of_pos ((B + 48271 * (C + 1)) * (39373 + (C + 1))) (b := 2147483647) (by decide)
      have o1 := Int.fmod_lt_of_pos ((B + 48271 * (C + 1)) * (39373 + (C + 1))) (b := 2147483647) (by decide)
      dsimp only
      revert o0 o1
      generalize Int.fmod ((B + 48271 * (C + 1)) * (39373 + (C + 1))) 2147483647 = o
      intro o0 o1
      refine ⟨.int o, rfl, .inl ⟨_, rfl, _, _, rfl, rfl, (by show (40009 : Int) ≠ 0; decide), _, _, rfl, rfl, ?_⟩⟩
      have v0 := Int.fmod_nonneg_of_pos o (b := 40009) (by decide)
      have v1 := Int.fmod_lt_of_pos o (b := 40009) (by decide)
      dsimp only
      revert v0 v1
      generalize Int.fmod o 40009 = v
      intro v0 v1
      refine ⟨.int o, rfl, .ref b, rfl, b, _, 2, .int (C + 1), rfl, rfl, hb2, i2, _, _, rfl, rfl, .ref b, rfl, b, _, 1, .int B, rfl, rfl, hb2, i1, _, _, rfl, rfl, dvM _, _, _, rfl, rfl, .int (v + 7), rfl, _, _, rfl, rfl, .inr (by omega),
        .inl ⟨_, rfl, _, _, rfl, rfl, (by show (2147483629 : Int) ≠ 0; decide), ?_⟩⟩
      refine ⟨.int _, rfl, _, _, rfl, rfl, .inr (by decide), .int o, rfl, _, _, rfl, rfl, .inl ⟨_, rfl, _, _, rfl, rfl, (by show (2147483587 : Int) ≠ 0; decide), _, _, rfl, rfl, dv64 _, .inl ⟨_, rfl, .int m, rfl, _, _, rfl, rfl, (by omega), ?_⟩⟩⟩
      exact q _ _ (Keep.upd H _) ⟨A, B, C + 1, upd_same, hA, hB, hB2, by omega, by omega⟩ (Int.fmod_nonneg_of_pos _ hm) (Int.fmod_lt_of_pos _ hm)
end
end K06
namespace K06
open PySem PySem.Spec PyProof.Rows L2 CS
theorem BoxAt.same {H H' : Hp} {b : Addr} {n : Nat} (h : BoxAt H b n) (s : Same H H') : BoxAt H' b n := by
  obtain ⟨A, B, C, e, r⟩ := h
  exact ⟨A, B, C, s _ _ e, r⟩
theorem BoxAt.up {H : Hp} {b : Addr} {n m : Nat} (h : BoxAt H b n) (l : n ≤ m) : BoxAt H b m := by
  obtain ⟨A, B, C, e, a1, a2, a3, a4, a5⟩ := h
  exact ⟨A, B, C, e, a1, a2, a3, a4, by omega⟩
theorem drop_map {α β : Type} (f : α → β) : ∀ (l : List α) (i : Nat), (l.map f).eraseIdx i = (l.eraseIdx i).map f
  | [], _ => rfl
  | _ :: _, 0 => rfl
  | x :: l, i + 1 => by
    show f x :: (l.map f).eraseIdx i = f x :: (l.eraseIdx i).map f
    rw [drop_map f l i]
theorem out_perm {α : Type} : ∀ {l : List α} {i : Nat} (h : i < l.length), List.Perm (l[i] :: l.eraseIdx i) l
  | [], _, h => absurd h (Nat.not_lt_zero _)
  | _ :: _, 0, _ => List.Perm.refl _
  | x :: l, i + 1, h => (List.Perm.swap x _ _).trans ((out_perm (l := l) (i := i) (Nat.lt_of_succ_lt_succ h)).cons x)
/-- the signs of a text -/
def signs (z : Str) : List Str := z.cps.toList.map fun c => ⟨#[c]⟩
section
variable {X : Cx}
theorem vals_signs : ∀ (l : List Nat) (us : List Value), us.length = l.length → (∀ (j : Nat) (u : Value), us[j]? = some u → ∃ (c : Nat) (t : Tok), l[j]? = some c ∧ u = Value.str ⟨#[c]⟩ t) → Vals (l.map fun c => V.str ⟨#[c]⟩) us
  | [], [], _, _ => .nil
  | [], _ :: _, h, _ => by cases h
  | _ :: _, [], h, _ => by cases h
  | c :: l, u :: us, h, q => by
    obtain ⟨c', t, e1, e2⟩ := q 0 u rfl
    cases e1
    refine .cons ⟨t, e2⟩ (vals_signs l us (Nat.succ.inj h) fun j v e => q (j + 1) v e)
theorem call_list_txt (hc : X.calm = true) : CallR X (.type "list") (fun xs H Q => ∃ z : Str, xs = [.str z] ∧ z.cps.size ≤ 1000 ∧ ∀ l, H l = none → Q (.ref l) (upd H l (.lst ((signs z).map V.str)))) := by
  intro pins s σ H xs us Q I r h
  obtain ⟨z, rfl, hz, q⟩ := h
  obtain ⟨u, rfl, rx⟩ := vals1 r
  obtain ⟨t, rfl⟩ := rx
  have hfit : z.cps.size ≤ sizeLine := Nat.le_of_lt (small1000 hz)
  refine call_list_str (I.ok.hd hc) z t (fun h' tk acc c' hk hS it => ?_) hfit
  have rv : Vals ((signs z).map V.str) acc.toList := by
    unfold signs
    rw [List.map_map]
    refine vals_signs z.cps.toList acc.toList (by rw [Array.length_toList, Array.length_toList]; exact it.1) fun j u e => ?_
    rw [Array.getElem?_toList] at e
    obtain ⟨c, u', e1, e2⟩ := it.2 j u e
    exact ⟨c, u', by rw [Array.getElem?_toList]; exact e1, e2⟩
  refine ⟨.ref s.heap.objs.size, _, I.laid (t' := tk) hk (Nat.le_refl _) (show ObjOk X.prog X.w _ h' _ (.lst _) from ⟨?_, acc.toList, c', rv, ?_⟩), rfl, q _ (I.hok.fresh (Nat.le_refl _))⟩
  · unfold signs
    rw [List.length_map, List.length_map, Array.length_toList]
    exact hfit
  · simpa using hS
end
section
variable {P : Program} {w : World} {K : PySem.W.Frag} {mg : Str → Option Value} {base : Heap}
/-! ### of -/
def spOf (K : PySem.W.Frag) : Sp := fun vs H Q _ => ∃ (b t : Addr) (n : Nat) (xs : List V), vs = [.ref b, .ref t] ∧ BoxAt H b n ∧ n ≤ 1000000 ∧ t ≠ b ∧ SqL K H t xs ∧ 0 < xs.length ∧ xs.length < 1000000 ∧
  ∀ (H' : Hp) (i : Nat) (x : V), Keep b H H' → BoxAt H' b (n + 1) → xs[i]? = some x → Q x H'
theorem scOf : FnScope ["_law_box_here", "_law_some"] ["_law_box_here", "_law_some"] (defScope sOf) := ⟨rfl, rfl, rfl, by decide +kernel, rfl, by decide +kernel, by decide +kernel⟩
theorem ok_of {f g : Addr} {fd gd : FuncData} {k : Nat} (F : Fun K "_law_of" "_law_of" sOf f fd) (G : FnOk P w K mg base CX0 k g gd ["_law_box_here", "_law_below"] spTake) (bG : Binds K gd ["_law_box_here", "_law_below"] []) (kG : PySem.W.keepIn K (.ref g) = true) (mG : mg "_law_take" = some (.ref g)) (ml : mg "len" = none) :
    FnOk P w K mg base CX0 (k + 1) f fd ["_law_box_here", "_law_some"] (spOf K) := by
  refine F.ok scOf (fun vs H Q E h => ?_) (fun cdv A outer s H vs Q E hr h => ?_)
  · obtain ⟨b, t, n, xs, rfl, _⟩ := h
    rfl
  · obtain ⟨b, t, n, xs, rfl, hb, hn, ntb, hS, h0, h1, q⟩ := h
    refine ⟨_, pss_one (ps_ret (pe_ix ix_list (pv 1) (pe_call G hr (by rfl) mG kG bG .nil pass0 (pa_cons (pv 0) (pa_cons (pe_callB call_len_seq (by rfl) ml PySem.boot_len (pa_cons (pv 1) pa_nil)) pa_nil))) (fun _ _ => rfl))), ?_⟩
    refine ⟨.ref t, rfl, .ref b, rfl, .ref t, rfl, t, _, rfl, .inl hS, ?_⟩
    refine ⟨b, n, _, rfl, hb, hn, (by omega), (by omega), fun H' r k1 b1 r0 r1 => ?_⟩
    have hlt : r.toNat < xs.length := by omega
    have hx : xs[r.toNat]? = some xs[r.toNat] := List.getElem?_eq_getElem hlt
    refine ⟨t, xs, r, xs[r.toNat], rfl, rfl, k1.sqL ntb hS, ?_, q H' r.toNat _ k1 b1 hx⟩
    have za := atI_nat hx
    rw [show ((r.toNat : Nat) : Int) = r by omega] at za
    exact za
/-! ### pick -/
end
end K06
namespace K06
open PySem PySem.Spec PyProof.Rows L2 CS RZ
/-! ### same -/
def okD : Nat → PyData → Prop
  | 0, _ => False
  | _ + 1, .int _ => True
  | _ + 1, .str _ => True
  | _ + 1, .bool _ => True
  | _ + 1, .none => True
  | n + 1, .list ds => ds.length ≤ 1000 ∧ ∀ d ∈ ds, okD n d
  | n + 1, .tuple ds => ds.length ≤ 1000 ∧ ∀ d ∈ ds, okD n d
  | _ + 1, _ => False
mutual
theorem dp_same {K : PySem.W.Frag} {H H' : Hp} (s : Same H H') : ∀ {v : V} {d : PyData}, Dp K H v d → Dp K H' v d
  | _, _, .non => .non
  | _, _, .bl b => .bl b
  | _, _, .int i => .int i
  | _, _, .str x => .str x
  | _, _, .lst q r => .lst (s.seq q) (dp_sameAll s r)
  | _, _, .tup q r => .tup (sqT_same s q) (dp_sameAll s r)
theorem dp_sameAll {K : PySem.W.Frag} {H H' : Hp} (s : Same H H') : ∀ {vs : List V} {ds : List PyData}, DpAll K H vs ds → DpAll K H' vs ds
  | _, _, .nil => .nil
  | _, _, .cons q r => .cons (dp_same s q) (dp_sameAll s r)
end
theorem dpAll_len {K : PySem.W.Frag} {H : Hp} : ∀ {ds : List PyData} {vs : List V}, DpAll K H vs ds → vs.length = ds.length
  | _, _, .nil => rfl
  | _, _, .cons _ r => congrArg (· + 1) (dpAll_len r)
theorem dpAll_at {K : PySem.W.Frag} {H : Hp} : ∀ {ds : List PyData} {vs : List V}, DpAll K H vs ds → ∀ {i : Nat} {v : V}, vs[i]? = some v → ∃ d, ds[i]? = some d ∧ Dp K H v d
  | _, _, .nil, i, _, h => by cases h
  | _, _, .cons q r, 0, _, h => by cases h; exact ⟨_, rfl, q⟩
  | _, _, .cons q r, i + 1, v, h => dpAll_at r (i := i) h
theorem tyL {K : PySem.W.Frag} {H : Hp} {a : Addr} {xs : List V} (h : SqL K H a xs) : TyX K H (.ref a) (.type "list") := by
  rcases h with (h | ⟨o, h⟩) | ⟨o, its, n, h, c, _⟩
  · exact .base (.lst h)
  · exact .base (.frz h)
  · exact .kList h c
theorem tyT {K : PySem.W.Frag} {H : Hp} {a : Addr} {xs : List V} (h : SqT K H a xs) : TyX K H (.ref a) (.type "tuple") := by
  rcases h with (h | ⟨o, h⟩) | ⟨o, its, n, h, c, _⟩
  · exact .base (.tup h)
  · exact .fTuple h
  · exact .kTuple h c
theorem walk_zipT {K : PySem.W.Frag} {a b : Addr} {xs ys : List V} {n : Nat} (hn : n = min xs.length ys.length) : Walk (ItzT K a b) n (fun H => SqT K H a xs ∧ SqT K H b ys) (YPair (fun i => xs[i]?) (fun i => ys[i]?)) := by
  subst hn
  refine ⟨fun i H hi q => ?_, fun H q => ⟨xs, ys, q.1, q.2, by omega⟩, fun i H v H' hi q y => ?_⟩
  · have l1 : i < xs.length := by omega
    have l2 : i < ys.length := by omega
    exact ⟨xs, ys, xs[i], ys[i], q.1, q.2, by simp [l1], by simp [l2]⟩
  · obtain ⟨T, x, z, e1, e2, e3, e4, e5⟩ := y
    exact ⟨T, x, z, e1, e2, e3, e4 xs q.1, e5 ys q.2⟩
section
variable {P : Program} {w : World} {K : PySem.W.Frag} {mg : Str → Option Value} {base : Heap}
def spSame (K : PySem.W.Frag) (n : Nat) : Sp := fun vs H Q _ => ∃ (x y : V) (d : PyData), vs = [x, y] ∧ Dp K H x d ∧ Dp K H y d ∧ okD n d ∧ ∀ H' : Hp, Same H H' → Q (.bl true) H'
/-- what the top says of the built-ins that same asks -/
structure SmT (mg : Str → Option Value) : Prop where
  is : mg "isinstance" = none
  li : mg "list" = none
  tu : mg "tuple" = none
  le : mg "len" = none
  al : mg "all" = none
  zi : mg "zip" = none
  bo : mg "bool" = none
  st : mg "str" = none
  int : mg "int" = none
abbrev nSame : List Str := ["_law_got", "_law_due", "_law_mine", "_law_its"]
theorem scSame : FnScope nSame ["_law_got", "_law_due"] (defScope sSame) := ⟨rfl, rfl, rfl, by decide +kernel, rfl, by decide +kernel, by decide +kernel⟩
theorem same_none {f : Addr} {fd : FuncData} : FnOk P w K mg base CX0 0 f fd ["_law_got", "_law_due"] (spSame K 0) := by
  have no : ∀ vs H Q E, ¬ spSame K 0 vs H Q E := fun vs H Q E h => by
    obtain ⟨_, _, d, _, _, _, h, _⟩ := h
    cases d <;> exact h
  exact ⟨fun vs H Q E h => absurd h (no vs H Q E), fun A outer s H args us vs Q E _ _ _ _ h => absurd h (no vs H Q E)⟩
theorem isi_one {t c : String} {b : Bool} (h : kitB t c = some b) : PySem.W.kitOne K (.type t) (.type c) = some b := kit_ty h
theorem any_ff {t a b : String} (h1 : kitB t a = some false) (h2 : kitB t b = some false) : PySem.W.kitAny K (.type t) [.type a, .type b] = some false :=
  kitAny_cons (kit_ty h1) (fun _ => kitAny_cons (kit_ty h2) (fun _ => kitAny_nil) fun z => nomatch z) fun z => nomatch z
theorem any_t {t a b : String} (h1 : kitB t a = some true) : PySem.W.kitAny K (.type t) [.type a, .type b] = some true := kitAny_cons (kit_ty h1) (fun z => nomatch z) fun _ => rfl
theorem any_ft {t a b : String} (h1 : kitB t a = some false) (h2 : kitB t b = some true) : PySem.W.kitAny K (.type t) [.type a, .type b] = some true :=
  kitAny_cons (kit_ty h1) (fun _ => kitAny_cons (kit_ty h2) (fun z => nomatch z) fun _ => rfl) fun _ => rfl
theorem all_yes : ∀ n : Nat, (List.replicate n true).all id = true
  | 0 => rfl
  | n + 1 => by
    rw [List.replicate_succ, List.all_cons, all_yes n]
    rfl
theorem ok_same {n : Nat} {f : Addr} {fd : FuncData} (F : Fun K "_law_same" "_law_same" sSame f fd) (G : FnOk P w K mg base CX0 n f fd ["_law_got", "_law_due"] (spSame K n)) (bG : Binds K fd ["_law_got", "_law_due"] []) (mG : mg "_law_same" = some (.ref f)) (T : SmT mg) :
    FnOk P w K mg base CX0 (n + 1) f fd ["_law_got", "_law_due"] (spSame K (n + 1)) := by
  refine F.ok scSame (fun vs H Q E h => ?_) (fun cdv A outer s H vs Q E hr h => ?_)
  · obtain ⟨x, y, d, rfl, _⟩ := h
    rfl
  · obtain ⟨x, y, d, rfl, hx, hy, hd, q⟩ := h
    refine ⟨_, pss_cons (ps_if (pt_val (pe_callB call_isiT (by rfl) T.is (by decide +kernel) (pa_cons (pv 1) (pa_cons (pe_tup (pa_cons (pe_bltn (v := .ty "list") (by rfl) T.li (by decide +kernel) rfl) (pa_cons (pe_bltn (v := .ty "tuple") (by rfl) T.tu (by decide +kernel) rfl) pa_nil))) pa_nil))))
        (pss_cons (ps_if (PW.pt (pw_or (pt_cmpR op_ne (pe_callB call_isi (by rfl) T.is (by decide +kernel) (pa_cons (pv 0) (pa_cons (pe_bltn (v := .ty "list") (by rfl) T.li (by decide +kernel) rfl) pa_nil))) (pe_callB call_isi (by rfl) T.is (by decide +kernel) (pa_cons (pv 1) (pa_cons (pe_bltn (v := .ty "list") (by rfl) T.li (by decide +kernel) rfl) pa_nil))) (nomark _))
            (pw_or1 (pt_cmpR op_ne (pe_callB call_isi (by rfl) T.is (by decide +kernel) (pa_cons (pv 0) (pa_cons (pe_bltn (v := .ty "tuple") (by rfl) T.tu (by decide +kernel) rfl) pa_nil))) (pe_callB call_isi (by rfl) T.is (by decide +kernel) (pa_cons (pv 1) (pa_cons (pe_bltn (v := .ty "tuple") (by rfl) T.tu (by decide +kernel) rfl) pa_nil))) (nomark _)))))
          (pss_one (ps_ret (pe_bl))) pss_nil)
        (pss_one (ps_ret (pe_and (pe_cmpR op_eq (pe_callB call_len_seq (by rfl) T.le PySem.boot_len (pa_cons (pv 0) pa_nil)) (pe_callB call_len_seq (by rfl) T.le PySem.boot_len (pa_cons (pv 1) pa_nil)) (nomark _))
          (pe_one (pe_callB (cr_all rfl) (by rfl) T.al (by decide +kernel) (pa_cons (pe_lc (own := [("_law_mine", 2), ("_law_its", 3)]) (g := gTup K 2 (gCons (gName 2) (gCons (gName 3) gNil))) (by rfl) scSame.nd (pi_zipA (by rfl) T.zi (pa_cons (pv 0) (pa_cons (pv 1) pa_nil)))
            (blkOk_by (own := [("_law_mine", 2), ("_law_its", 3)]) (N := nSame) (sc := defScope sSame) (by decide +kernel))
            (fun _ _ _ _ _ => pg_tup rfl (pgs_cons (pg_name (i := 2) scSame.nd rfl (Or.inl rfl) (.inr rfl)) (pgs_cons (pg_name (i := 3) scSame.nd rfl (Or.inl rfl) (.inr rfl)) pgs_nil))) (fun _ _ _ _ _ => pts_nil)
            (fun _ _ _ _ _ => pe_call G hr (by rfl) mG F.kp bG .nil pass0 (pa_cons (pv 2) (pa_cons (pv 3) pa_nil)))) pa_nil))))))) pss_nil)
      (pss_cons (ps_if (PW.pt (pw_or (pt_cmpR op_isN (pv 1) pe_non (nomark _)) (pw_or1 (pt_val (pe_callB call_isiT (by rfl) T.is (by decide +kernel) (pa_cons (pv 1) (pa_cons (pe_tup (pa_cons (pe_bltn (v := .ty "bool") (by rfl) T.bo (by decide +kernel) rfl) (pa_cons (pe_bltn (v := .ty "str") (by rfl) T.st (by decide +kernel) rfl) pa_nil))) pa_nil)))))))
        (pss_one (ps_ret (pe_and (pe_cmpR op_eq (pv 0) (pv 1) (nomark _)) (pe_and (pe_cmpR op_eq (pe_callB call_isi (by rfl) T.is (by decide +kernel) (pa_cons (pv 0) (pa_cons (pe_bltn (v := .ty "bool") (by rfl) T.bo (by decide +kernel) rfl) pa_nil))) (pe_callB call_isi (by rfl) T.is (by decide +kernel) (pa_cons (pv 1) (pa_cons (pe_bltn (v := .ty "bool") (by rfl) T.bo (by decide +kernel) rfl) pa_nil))) (nomark _))
          (pe_one (pe_cmpR op_eq (pe_cmpR op_isN (pv 0) pe_non (nomark _)) (pe_cmpR op_isN (pv 1) pe_non (nomark _)) (nomark _))))))) pss_nil)
      (pss_one (ps_ret (pe_and (pe_callB call_isi (by rfl) T.is (by decide +kernel) (pa_cons (pv 0) (pa_cons (pe_bltn (v := .ty "int") (by rfl) T.int (by decide +kernel) rfl) pa_nil)))
        (pe_and (pe_not (pe_callB call_isi (by rfl) T.is (by decide +kernel) (pa_cons (pv 0) (pa_cons (pe_bltn (v := .ty "bool") (by rfl) T.bo (by decide +kernel) rfl) pa_nil)))) (pe_one (pe_cmpR op_eq (pv 0) (pv 1) (nomark _)))))))), ?_⟩
    have two : 2 ≤ sizeLine := by decide
    cases d with
    | int i =>
      cases hx
      cases hy
      refine ⟨.int i, rfl, two, fun p np => ⟨_, p, _, _, _, false, rfl, upd_same, .cons (.ty _) (.cons (.ty _) .nil), .base (.int i), any_ff (by decide +kernel) (by decide +kernel), _, rfl, ?_⟩⟩
      refine ite2 (fun z => absurd z Bool.false_ne_true) (fun _ => ?_)
      refine ⟨.int i, rfl, rfl, _, rfl, ?_⟩
      refine ite2 (fun z => absurd (of_decide_eq_true z) (fun e => by cases e)) (fun _ => ?_)
      refine ⟨.int i, rfl, two, fun p2 np2 => ⟨_, p2, _, _, _, false, rfl, upd_same, .cons (.ty _) (.cons (.ty _) .nil), .base (.int i), any_ff (by decide +kernel) (by decide +kernel), _, rfl, ?_⟩⟩
      refine ite2 (fun z => absurd z Bool.false_ne_true) (fun _ => ?_)
      refine ⟨.int i, rfl, _, _, _, _, true, rfl, .ty _, .base (.int i), isi_one (by decide +kernel), _, rfl, ?_⟩
      refine ite2 (fun _ => ?_) (fun z => absurd rfl z)
      refine ⟨.int i, rfl, _, _, _, _, false, rfl, .ty _, .base (.int i), isi_one (by decide +kernel), _, rfl, _, rfl, ?_⟩
      refine ite2 (fun _ => ?_) (fun z => absurd rfl z)
      refine ⟨.int i, rfl, .int i, rfl, rfl, ?_⟩
      have e : decide (V.int i = V.int i) = true := decide_eq_true rfl
      rw [e]
      exact q _ ((same_upd np).trans (same_upd np2))
    | str z =>
      cases hx
      cases hy
      refine ⟨.str z, rfl, two, fun p np => ⟨_, p, _, _, _, false, rfl, upd_same, .cons (.ty _) (.cons (.ty _) .nil), .base (.str z), any_ff (by decide +kernel) (by decide +kernel), _, rfl, ?_⟩⟩
      refine ite2 (fun z => absurd z Bool.false_ne_true) (fun _ => ?_)
      refine ⟨.str z, rfl, rfl, _, rfl, ?_⟩
      refine ite2 (fun z => absurd (of_decide_eq_true z) (fun e => by cases e)) (fun _ => ?_)
      refine ⟨.str z, rfl, two, fun p2 np2 => ⟨_, p2, _, _, _, true, rfl, upd_same, .cons (.ty _) (.cons (.ty _) .nil), .base (.str z), any_ft (by decide +kernel) (by decide +kernel), _, rfl, ?_⟩⟩
      refine ite2 (fun _ => ?_) (fun z => absurd rfl z)
      refine ⟨.str z, rfl, .str z, rfl, rfl, _, rfl, ?_⟩
      refine ite2 (fun _ => ?_) (fun e => absurd (decide_eq_true rfl) e)
      refine ⟨.str z, rfl, _, _, _, _, false, rfl, .ty _, .base (.str z), isi_one (by decide +kernel), .str z, rfl, _, _, _, _, false, rfl, .ty _, .base (.str z), isi_one (by decide +kernel), rfl, _, rfl, ?_⟩
      refine ite2 (fun _ => ?_) (fun e => absurd rfl e)
      refine ⟨.str z, rfl, rfl, .str z, rfl, rfl, rfl, ?_⟩
      have e : decide (V.bl (decide (V.str z = V.non)) = V.bl (decide (V.str z = V.non))) = true := decide_eq_true rfl
      rw [e]
      exact q _ ((same_upd np).trans (same_upd np2))
    | bool z =>
      cases hx
      cases hy
      refine ⟨.bl z, rfl, two, fun p np => ⟨_, p, _, _, _, false, rfl, upd_same, .cons (.ty _) (.cons (.ty _) .nil), .base (.bl z), any_ff (by decide +kernel) (by decide +kernel), _, rfl, ?_⟩⟩
      refine ite2 (fun z => absurd z Bool.false_ne_true) (fun _ => ?_)
      refine ⟨.bl z, rfl, rfl, _, rfl, ?_⟩
      refine ite2 (fun z => absurd (of_decide_eq_true z) (fun e => by cases e)) (fun _ => ?_)
      refine ⟨.bl z, rfl, two, fun p2 np2 => ⟨_, p2, _, _, _, true, rfl, upd_same, .cons (.ty _) (.cons (.ty _) .nil), .base (.bl z), any_t (by decide +kernel), _, rfl, ?_⟩⟩
      refine ite2 (fun _ => ?_) (fun z => absurd rfl z)
      refine ⟨.bl z, rfl, .bl z, rfl, rfl, _, rfl, ?_⟩
      refine ite2 (fun _ => ?_) (fun e => absurd (decide_eq_true rfl) e)
      refine ⟨.bl z, rfl, _, _, _, _, true, rfl, .ty _, .base (.bl z), isi_one (by decide +kernel), .bl z, rfl, _, _, _, _, true, rfl, .ty _, .base (.bl z), isi_one (by decide +kernel), rfl, _, rfl, ?_⟩
      refine ite2 (fun _ => ?_) (fun e => absurd rfl e)
      refine ⟨.bl z, rfl, rfl, .bl z, rfl, rfl, rfl, ?_⟩
      have e : decide (V.bl (decide (V.bl z = V.non)) = V.bl (decide (V.bl z = V.non))) = true := decide_eq_true rfl
      rw [e]
      exact q _ ((same_upd np).trans (same_upd np2))
    | none =>
      cases hx
      cases hy
      refine ⟨.non, rfl, two, fun p np => ⟨_, p, _, _, _, false, rfl, upd_same, .cons (.ty _) (.cons (.ty _) .nil), .base .non, any_ff (by decide +kernel) (by decide +kernel), _, rfl, ?_⟩⟩
      refine ite2 (fun z => absurd z Bool.false_ne_true) (fun _ => ?_)
      refine ⟨.non, rfl, rfl, _, rfl, ?_⟩
      refine ite2 (fun _ => ?_) (fun z => absurd (decide_eq_true rfl) z)
      refine ⟨.non, rfl, .non, rfl, rfl, _, rfl, ?_⟩
      refine ite2 (fun _ => ?_) (fun e => absurd (decide_eq_true rfl) e)
      refine ⟨.non, rfl, _, _, _, _, false, rfl, .ty _, .base .non, isi_one (by decide +kernel), .non, rfl, _, _, _, _, false, rfl, .ty _, .base .non, isi_one (by decide +kernel), rfl, _, rfl, ?_⟩
      refine ite2 (fun _ => ?_) (fun e => absurd rfl e)
      refine ⟨.non, rfl, rfl, .non, rfl, rfl, rfl, ?_⟩
      have e : decide (V.bl (decide (V.non = V.non)) = V.bl (decide (V.non = V.non))) = true := decide_eq_true rfl
      rw [e]
      exact q _ (same_upd np)
    | list ds =>
      obtain ⟨hlen, hds⟩ := hd
      cases hx with
      | lst hxs hxa =>
      cases hy with
      | lst hys hya =>
      rename_i a xs b ys
      have lx := dpAll_len hxa
      have ly := dpAll_len hya
      refine ⟨.ref b, rfl, two, fun p np => ⟨_, p, _, _, _, true, rfl, upd_same, .cons (.ty _) (.cons (.ty _) .nil), tyL ((same_upd np).seq hys), any_t (by decide +kernel), _, rfl, ?_⟩⟩
      refine ite2 (fun _ => ?_) (fun z => absurd rfl z)
      have s1 : Same H (upd H p (.tup [.ty "list", .ty "tuple"])) := same_upd np
      have hxs1 := (s1).seq hxs
      have hys1 := (s1).seq hys
      refine ⟨.ref a, rfl, _, _, _, _, true, rfl, .ty _, tyL hxs1, isi_one (by decide +kernel), .ref b, rfl, _, _, _, _, true, rfl, .ty _, tyL hys1, isi_one (by decide +kernel), rfl, _, rfl, ?_⟩
      refine ite2 (fun c => by rw [decide_eq_true rfl] at c; cases c) (fun _ => ?_)
      refine ⟨.ref a, rfl, _, _, _, _, false, rfl, .ty _, tyL hxs1, isi_one (by decide +kernel), .ref b, rfl, _, _, _, _, false, rfl, .ty _, tyL hys1, isi_one (by decide +kernel), rfl, _, rfl, ?_⟩
      refine ite2 (fun c => by rw [decide_eq_true rfl] at c; cases c) (fun _ => ?_)
      refine ⟨.ref a, rfl, a, _, rfl, .inl hxs1, .ref b, rfl, b, _, rfl, .inl hys1, rfl, _, rfl, ?_⟩
      refine ite2 (fun _ => ?_) (fun z => absurd (decide_eq_true (congrArg V.int (by rw [lx, ly]))) z)
      refine ⟨.ref a, rfl, .ref b, rfl, a, b, xs, ys, rfl, .inl ⟨hxs1, hys1, fun D nD => lc_it (walk_zip (K := K) (a := a) (b := b) (xs := xs) (ys := ys) rfl)
        (fun i H' => Same (upd H p (.tup [.ty "list", .ty "tuple"])) H' ∧ H' D = some (.lst ((List.replicate i true).map V.bl))) ⟨same_upd nD, upd_same⟩ (fun i H' _ z => ⟨(z.1).seq hxs1, (z.1).seq hys1⟩) ?_ ?_⟩⟩
      · rintro i v H2 H3 hi ⟨s2, eD⟩ ⟨T1, x1, y1, rfl, nT, rfl, hx1, hy1⟩
        obtain ⟨d1, e1, r1⟩ := dpAll_at hxa hx1
        obtain ⟨d2, e2, r2⟩ := dpAll_at hya hy1
        have ed : d1 = d2 := by
          rw [e1] at e2
          exact Option.some.inj e2
        subst ed
        have s3 : Same (upd H p (.tup [.ty "list", .ty "tuple"])) (upd H2 T1 (.tup [x1, y1])) := s2.trans (same_upd nT)
        have hi' : i < 1000 := by omega
        refine ⟨T1, [x1, y1], rfl, SqT.of upd_same, rfl, x1, [y1], rfl, y1, [], rfl, rfl, ?_⟩
        refine ⟨rfl, ?_⟩
        unfold tYes
        refine ite2 (fun _ => ?_) (fun z => absurd rfl z)
        refine ⟨x1, rfl, y1, rfl, x1, y1, d1, rfl, dp_same (s1.trans s3) r1, dp_same (s1.trans s3) r2, hds d1 (List.mem_of_getElem? e1), fun H4 s4 => ?_⟩
        have eD4 : H4 D = some (.lst ((List.replicate i true).map V.bl)) := s4 _ _ (by rw [upd_ne (ne_of_none eD nT)]; exact eD)
        refine ⟨_, eD4, ?_, fun c o e => ?_, ?_⟩
        · rw [List.length_map, List.length_replicate]
          exact small1000 (Nat.le_of_lt hi')
        · rw [upd_ne (ne_of_none e nD)]
          exact s4 _ _ (s3 _ _ e)
        · rw [upd_same, List.replicate_succ', List.map_append]
          rfl
      · rintro H2 ⟨s2, eD⟩
        refine ⟨D, _, rfl, SqL.of eD, ?_⟩
        rw [all_yes]
        exact q _ (s1.trans s2)
    | tuple ds =>
      obtain ⟨hlen, hds⟩ := hd
      cases hx with
      | tup hxs hxa =>
      cases hy with
      | tup hys hya =>
      rename_i a xs b ys
      have lx := dpAll_len hxa
      have ly := dpAll_len hya
      refine ⟨.ref b, rfl, two, fun p np => ⟨_, p, _, _, _, true, rfl, upd_same, .cons (.ty _) (.cons (.ty _) .nil), tyT (sqT_same (same_upd np) hys), any_ft (by decide +kernel) (by decide +kernel), _, rfl, ?_⟩⟩
      refine ite2 (fun _ => ?_) (fun z => absurd rfl z)
      have s1 : Same H (upd H p (.tup [.ty "list", .ty "tuple"])) := same_upd np
      have hxs1 := sqT_same (s1) hxs
      have hys1 := sqT_same (s1) hys
      refine ⟨.ref a, rfl, _, _, _, _, false, rfl, .ty _, tyT hxs1, isi_one (by decide +kernel), .ref b, rfl, _, _, _, _, false, rfl, .ty _, tyT hys1, isi_one (by decide +kernel), rfl, _, rfl, ?_⟩
      refine ite2 (fun c => by rw [decide_eq_true rfl] at c; cases c) (fun _ => ?_)
      refine ⟨.ref a, rfl, _, _, _, _, true, rfl, .ty _, tyT hxs1, isi_one (by decide +kernel), .ref b, rfl, _, _, _, _, true, rfl, .ty _, tyT hys1, isi_one (by decide +kernel), rfl, _, rfl, ?_⟩
      refine ite2 (fun c => by rw [decide_eq_true rfl] at c; cases c) (fun _ => ?_)
      refine ⟨.ref a, rfl, a, _, rfl, .inr hxs1, .ref b, rfl, b, _, rfl, .inr hys1, rfl, _, rfl, ?_⟩
      refine ite2 (fun _ => ?_) (fun z => absurd (decide_eq_true (congrArg V.int (by rw [lx, ly]))) z)
      refine ⟨.ref a, rfl, .ref b, rfl, a, b, xs, ys, rfl, .inr ⟨hxs1, hys1, fun D nD => lc_it (walk_zipT (K := K) (a := a) (b := b) (xs := xs) (ys := ys) rfl)
        (fun i H' => Same (upd H p (.tup [.ty "list", .ty "tuple"])) H' ∧ H' D = some (.lst ((List.replicate i true).map V.bl))) ⟨same_upd nD, upd_same⟩ (fun i H' _ z => ⟨sqT_same (z.1) hxs1, sqT_same (z.1) hys1⟩) ?_ ?_⟩⟩
      · rintro i v H2 H3 hi ⟨s2, eD⟩ ⟨T1, x1, y1, rfl, nT, rfl, hx1, hy1⟩
        obtain ⟨d1, e1, r1⟩ := dpAll_at hxa hx1
        obtain ⟨d2, e2, r2⟩ := dpAll_at hya hy1
        have ed : d1 = d2 := by
          rw [e1] at e2
          exact Option.some.inj e2
        subst ed
        have s3 : Same (upd H p (.tup [.ty "list", .ty "tuple"])) (upd H2 T1 (.tup [x1, y1])) := s2.trans (same_upd nT)
        have hi' : i < 1000 := by omega
        refine ⟨T1, [x1, y1], rfl, SqT.of upd_same, rfl, x1, [y1], rfl, y1, [], rfl, rfl, ?_⟩
        refine ⟨rfl, ?_⟩
        unfold tYes
        refine ite2 (fun _ => ?_) (fun z => absurd rfl z)
        refine ⟨x1, rfl, y1, rfl, x1, y1, d1, rfl, dp_same (s1.trans s3) r1, dp_same (s1.trans s3) r2, hds d1 (List.mem_of_getElem? e1), fun H4 s4 => ?_⟩
        have eD4 : H4 D = some (.lst ((List.replicate i true).map V.bl)) := s4 _ _ (by rw [upd_ne (ne_of_none eD nT)]; exact eD)
        refine ⟨_, eD4, ?_, fun c o e => ?_, ?_⟩
        · rw [List.length_map, List.length_replicate]
          exact small1000 (Nat.le_of_lt hi')
        · rw [upd_ne (ne_of_none e nD)]
          exact s4 _ _ (s3 _ _ e)
        · rw [upd_same, List.replicate_succ', List.map_append]
          rfl
      · rintro H2 ⟨s2, eD⟩
        refine ⟨D, _, rfl, SqL.of eD, ?_⟩
        rw [all_yes]
        exact q _ (s1.trans s2)
    | _ => exact absurd hd id
end
end K06
namespace K06
open PySem PySem.Spec PyProof.Rows L2 CS
/-- what stood at first stands, and all of H2 but l -/
def KeepTo (H H2 : Hp) (l : Addr) (H' : Hp) : Prop := Same H H' ∧ Keep l H2 H'
theorem cut3 (ns : List Int) : cutV (ns.map V.int) (some 3) (some 63) = ((ns.drop (min 3 ns.length)).take (min 63 ns.length - min 3 ns.length)).map V.int := by
  unfold cutV
  rw [show HT.sIx (ns.map V.int).length 0 (some 3) = min 3 (ns.map V.int).length from HT.sIx_nat _ 0 3, show HT.sIx (ns.map V.int).length (ns.map V.int).length (some 63) = min 63 (ns.map V.int).length from HT.sIx_nat _ _ 63, List.length_map, List.map_take, List.map_drop]
theorem cut0 (ns : List Int) : cutV (ns.map V.int) none (some 3) = (ns.take (min 3 ns.length)).map V.int := by
  unfold cutV
  rw [show HT.sIx (ns.map V.int).length 0 none = 0 from HT.sIx_none _ _, show HT.sIx (ns.map V.int).length (ns.map V.int).length (some 3) = min 3 (ns.map V.int).length from HT.sIx_nat _ _ 3, List.length_map, List.map_take]
  rfl
section
variable {P : Program} {w : World} {K : PySem.W.Frag} {mg : Str → Option Value} {base : Heap}
def spCells (K : PySem.W.Frag) : Sp := fun vs H Q _ => ∃ (a : Addr) (ns : List Int), vs = [.ref a, .int 3] ∧ SqL K H a (ns.map V.int) ∧ ns.length ≤ 63 ∧
  ∀ (H' : Hp) (p : Addr) (ms : List Int), Same H H' → H p = none → H' p = some (.lst (ms.map V.int)) → 1 ≤ ms.length → ms.length ≤ 3 → Q (.ref p) H'
theorem scCells : FnScope ["_law_script", "_law_most_so", "_law_cells_here", "_law_k", "_law_cell", "_law_at_so"] ["_law_script", "_law_most_so"] (defScope sCells) := ⟨rfl, rfl, rfl, by decide +kernel, rfl, by decide +kernel, by decide +kernel⟩
theorem ok_cells {f : Addr} {fd : FuncData} {k : Nat} (F : Fun K "_law_cells" "_law_cells" sCells f fd) (mL : mg "list" = none) (mE : mg "enumerate" = none) (mi : mg "int" = none) : FnOk P w K mg base CX0 (k + 1) f fd ["_law_script", "_law_most_so"] (spCells K) := by
  refine F.ok scCells (fun vs H Q E h => ?_) (fun cdv A outer s H vs Q E hr h => ?_)
  · obtain ⟨a, ns, rfl, _⟩ := h
    rfl
  · obtain ⟨a, ns, rfl, hS, hn, q⟩ := h
    refine ⟨_, pss_cons (ps_set (i := 2) scCells.nd rfl (.inl rfl) (pe_orT (pe_callTy call_list_of (by rfl) mL (by decide +kernel) (pa_cons (pe_slice sl_list (pv 0) po_none (po_some (pv 1))) pa_nil)) (pe_one (pe_lst (pa_cons pe_int pa_nil)))))
      (pss_cons (ps_for PassesOwn.never rfl (pi_enum (by rfl) mE (pa_cons (pe_slice sl_list (pv 0) (po_some (pv 1)) (po_some pe_int)) pa_nil))
          (pg_tup rfl (pgs_cons (pg_name (i := 3) scCells.nd rfl (.inl rfl)) (pgs_cons (pg_name (i := 4) scCells.nd rfl (.inl rfl)) pgs_nil)))
        (pss_cons (ps_set (i := 5) scCells.nd rfl (.inl rfl) (pe_op op_modN (pe_callTy call_int1 (by rfl) mi (by decide +kernel) (pa_cons (pv 3) pa_nil)) (pv 1)))
          (pss_one (ps_asg (pe_op op_add (pe_ix ix_list (pv 2) (pv 5) (fun _ _ => rfl)) (pe_op op_mul (pv 4) (pe_op op_add (pv 3) pe_int))) (pg_sub (pv 2) (pv 5) set_list)))))
      (pss_one (ps_ret (pv 2)))), ?_⟩
    refine ⟨.ref a, rfl, .int 3, rfl, 3, rfl, a, ns.map V.int, rfl, hS, fun c nc => ?_⟩
    rw [cut0]
    refine ⟨c, _, rfl, .inl (SqL.of upd_same), fun l nl0 => ?_⟩
    have s0 : Same H (upd (upd H c (.lst ((ns.take (min 3 ns.length)).map V.int))) l (.lst ((ns.take (min 3 ns.length)).map V.int))) := (same_upd nc).trans (same_upd nl0)
    have nlH : H l = none := (same_upd nc).free nl0
    have hl1 : (ns.take (min 3 ns.length)).length = min 3 ns.length := by
      rw [List.length_take]
      omega
    refine ⟨_, .inl ⟨_, SqL.of upd_same, rfl⟩, ?_⟩
    refine ite2 (fun c1 => ?_) (fun c1 => ?_)
    · have hpos : 0 < ns.length := by
        cases ns with
        | nil => cases c1
        | cons x r => exact Nat.succ_pos _
      have e1 : (upd (upd H c (.lst ((ns.take (min 3 ns.length)).map V.int))) l (.lst ((ns.take (min 3 ns.length)).map V.int))) l = some (.lst ((ns.take (min 3 ns.length)).map V.int)) := upd_same
      generalize upd (upd H c (.lst ((ns.take (min 3 ns.length)).map V.int))) l (.lst ((ns.take (min 3 ns.length)).map V.int)) = H1 at s0 e1
      generalize ns.take (min 3 ns.length) = ms at e1 hl1
      have s1 := s0
      have nl := nlH
      have m1 : 1 ≤ ms.length := by omega
      have m3 : ms.length ≤ 3 := by omega
      have h3 : 3 < ns.length → ms.length = 3 := fun _ => by omega
      refine ⟨.ref a, rfl, .int 3, rfl, 3, rfl, 63, rfl, a, ns.map V.int, rfl, s1.seq hS, fun c2 nc2 => ?_⟩
      rw [cut3]
      have s2 : Same H (upd H1 c2 (.lst (((ns.drop (min 3 ns.length)).take (min 63 ns.length - min 3 ns.length)).map V.int))) := s1.trans (same_upd nc2)
      have ncl : c2 ≠ l := fun z => by
        rw [z, e1] at nc2
        cases nc2
      have hC : SqL K (upd H1 c2 (.lst (((ns.drop (min 3 ns.length)).take (min 63 ns.length - min 3 ns.length)).map V.int))) c2 (((ns.drop (min 3 ns.length)).take (min 63 ns.length - min 3 ns.length)).map V.int) := SqL.of upd_same
      have eL : (upd H1 c2 (.lst (((ns.drop (min 3 ns.length)).take (min 63 ns.length - min 3 ns.length)).map V.int))) l = some (.lst (ms.map V.int)) := by
        rw [upd_ne ncl.symm]
        exact e1
      have hlenr : ((ns.drop (min 3 ns.length)).take (min 63 ns.length - min 3 ns.length)).length = min 63 ns.length - min 3 ns.length := by
        rw [List.length_take, List.length_drop]
        omega
      generalize ((ns.drop (min 3 ns.length)).take (min 63 ns.length - min 3 ns.length)) = rest at s2 hC eL hlenr
      generalize upd H1 c2 (.lst (rest.map V.int)) = H2 at s2 hC eL
      refine ⟨c2, rest.map V.int, rfl, hC, for_it (walk_enum (K := K) (a := c2) (xs := rest.map V.int)) (fun i σ H' => ∃ (y3 y4 y5 : Option V) (zs : List Int), σ = [some (.ref a), some (.int 3), some (.ref l), y3, y4, y5] ∧ KeepTo H H2 l H' ∧ H' l = some (.lst (zs.map V.int)) ∧ zs.length = ms.length)
        ⟨none, none, none, ms, rfl, ⟨s2, fun _ _ _ e => e⟩, eL, rfl⟩ (fun i σ H' _ z => by
          obtain ⟨_, _, _, _, _, kk, _, _⟩ := z
          exact Keep.sqL (b := l) kk.2 ncl hC) ?_ ?_⟩
      · rintro i v σ H3 H4 hi ⟨y3, y4, y5, zs, rfl, kk, e3, hzl⟩ ⟨T, x, y, rfl, nT, rfl, hx, hy⟩
        cases hx
        replace hy : (rest.map V.int)[i]? = some y := hy
        rw [List.getElem?_map] at hy
        rw [List.length_map, hlenr] at hi
        cases e : rest[i]? with
        | none =>
          rw [e] at hy
          cases hy
        | some u =>
          rw [e] at hy
          cases hy
          have hz3 : zs.length = 3 := by rw [hzl]; exact h3 (by omega)
          have f0 := Int.fmod_nonneg_of_pos (i : Int) (b := 3) (by decide)
          have f1 := Int.fmod_lt_of_pos (i : Int) (b := 3) (by decide)
          have nlT : l ≠ T := ne_of_none e3 nT
          have e3T : (upd H3 T (.tup [.int (i : Nat), .int u])) l = some (.lst (zs.map V.int)) := by
            rw [upd_ne nlT]
            exact e3
          refine ⟨T, [.int (i : Nat), .int u], rfl, SqT.of upd_same, rfl, .int (i : Nat), [.int u], rfl, .int u, [], rfl, rfl, ?_⟩
          refine ⟨.int (i : Nat), rfl, .inl ⟨_, rfl, .int 3, rfl, _, _, rfl, rfl, (by show (3 : Int) ≠ 0; decide), ?_⟩⟩
          have hj : (Int.fmod (i : Int) 3).toNat < zs.length := by omega
          have hat : atI (zs.map V.int) (Int.fmod (i : Int) 3) = some (.int zs[(Int.fmod (i : Int) 3).toNat]) := by
            have za := atI_nat (j := (Int.fmod (i : Int) 3).toNat) (xs := zs.map V.int) (v := .int zs[(Int.fmod (i : Int) 3).toNat]) (by rw [List.getElem?_map, List.getElem?_eq_getElem hj]; rfl)
            rw [show (((Int.fmod (i : Int) 3).toNat : Nat) : Int) = Int.fmod (i : Int) 3 by omega] at za
            exact za
          refine ⟨.ref l, rfl, .int _, rfl, l, _, _, _, rfl, rfl, SqL.of e3T, hat, .int u, rfl, .int (i : Nat), rfl, _, _, rfl, rfl, _, _, rfl, rfl, .inr (by omega), _, _, rfl, rfl, ?_⟩
          refine ⟨.ref l, rfl, .int _, rfl, l, _, _, (Int.fmod (i : Int) 3).toNat, rfl, rfl, e3T, ?_, ?_⟩
          · unfold ixN
            rw [List.length_map, if_pos f0, if_pos (by omega)]
          · refine ⟨_, _, _, zs.set (Int.fmod (i : Int) 3).toNat (zs[(Int.fmod (i : Int) 3).toNat] + u * ((i : Int) + 2)), rfl, ⟨fun c o ec => ?_, fun c o nc ec => ?_⟩, ?_, ?_⟩
            · have q3 := kk.1 _ _ ec
              have ncl3 : c ≠ l := ne_of_none ec nl
              rw [upd_ne ncl3, upd_ne (ne_of_none q3 nT)]
              exact q3
            · have q3 := kk.2 _ _ nc ec
              rw [upd_ne nc, upd_ne (ne_of_none q3 nT)]
              exact q3
            · rw [upd_same, List.map_set]
            · rw [List.length_set]
              exact hzl
      · rintro σ H3 ⟨y3, y4, y5, zs, rfl, kk, e3, hzl⟩
        exact ⟨.ref l, rfl, q H3 l zs kk.1 nl e3 (by omega) (by omega)⟩
    · have hnil : ns.length = 0 := by
        cases ns with
        | nil => rfl
        | cons x r =>
          exfalso
          apply c1
          show (!(((x :: r).take (min 3 (r.length + 1))).map V.int).isEmpty) = true
          rw [show min 3 (r.length + 1) = (min 2 r.length) + 1 by omega]
          rfl
      refine ⟨(by show 1 ≤ sizeLine; decide), fun l2 nl2 => ?_⟩
      have s1 := s0.trans (same_upd (o := .lst [.int 0]) nl2)
      have nl : H l2 = none := s0.free nl2
      have e1 : (upd (upd (upd H c (.lst ((ns.take (min 3 ns.length)).map V.int))) l (.lst ((ns.take (min 3 ns.length)).map V.int))) l2 (.lst [.int 0])) l2 = some (.lst (([0] : List Int).map V.int)) := upd_same
      generalize upd (upd (upd H c (.lst ((ns.take (min 3 ns.length)).map V.int))) l (.lst ((ns.take (min 3 ns.length)).map V.int))) l2 (.lst [.int 0]) = H1 at s1 e1
      generalize l2 = l at nl e1
      generalize ems : ([0] : List Int) = ms at e1
      have m1 : 1 ≤ ms.length := by rw [← ems]; decide
      have m3 : ms.length ≤ 3 := by rw [← ems]; decide
      have h3 : 3 < ns.length → ms.length = 3 := fun z => by omega
      refine ⟨.ref a, rfl, .int 3, rfl, 3, rfl, 63, rfl, a, ns.map V.int, rfl, s1.seq hS, fun c2 nc2 => ?_⟩
      rw [cut3]
      have s2 : Same H (upd H1 c2 (.lst (((ns.drop (min 3 ns.length)).take (min 63 ns.length - min 3 ns.length)).map V.int))) := s1.trans (same_upd nc2)
      have ncl : c2 ≠ l := fun z => by
        rw [z, e1] at nc2
        cases nc2
      have hC : SqL K (upd H1 c2 (.lst (((ns.drop (min 3 ns.length)).take (min 63 ns.length - min 3 ns.length)).map V.int))) c2 (((ns.drop (min 3 ns.length)).take (min 63 ns.length - min 3 ns.length)).map V.int) := SqL.of upd_same
      have eL : (upd H1 c2 (.lst (((ns.drop (min 3 ns.length)).take (min 63 ns.length - min 3 ns.length)).map V.int))) l = some (.lst (ms.map V.int)) := by
        rw [upd_ne ncl.symm]
        exact e1
      have hlenr : ((ns.drop (min 3 ns.length)).take (min 63 ns.length - min 3 ns.length)).length = min 63 ns.length - min 3 ns.length := by
        rw [List.length_take, List.length_drop]
        omega
      generalize ((ns.drop (min 3 ns.length)).take (min 63 ns.length - min 3 ns.length)) = rest at s2 hC eL hlenr
      generalize upd H1 c2 (.lst (rest.map V.int)) = H2 at s2 hC eL
      refine ⟨c2, rest.map V.int, rfl, hC, for_it (walk_enum (K := K) (a := c2) (xs := rest.map V.int)) (fun i σ H' => ∃ (y3 y4 y5 : Option V) (zs : List Int), σ = [some (.ref a), some (.int 3), some (.ref l), y3, y4, y5] ∧ KeepTo H H2 l H' ∧ H' l = some (.lst (zs.map V.int)) ∧ zs.length = ms.length)
        ⟨none, none, none, ms, rfl, ⟨s2, fun _ _ _ e => e⟩, eL, rfl⟩ (fun i σ H' _ z => by
          obtain ⟨_, _, _, _, _, kk, _, _⟩ := z
          exact Keep.sqL (b := l) kk.2 ncl hC) ?_ ?_⟩
      · rintro i v σ H3 H4 hi ⟨y3, y4, y5, zs, rfl, kk, e3, hzl⟩ ⟨T, x, y, rfl, nT, rfl, hx, hy⟩
        cases hx
        replace hy : (rest.map V.int)[i]? = some y := hy
        rw [List.getElem?_map] at hy
        rw [List.length_map, hlenr] at hi
        cases e : rest[i]? with
        | none =>
          rw [e] at hy
          cases hy
        | some u =>
          rw [e] at hy
          cases hy
          have hz3 : zs.length = 3 := by rw [hzl]; exact h3 (by omega)
          have f0 := Int.fmod_nonneg_of_pos (i : Int) (b := 3) (by decide)
          have f1 := Int.fmod_lt_of_pos (i : Int) (b := 3) (by decide)
          have nlT : l ≠ T := ne_of_none e3 nT
          have e3T : (upd H3 T (.tup [.int (i : Nat), .int u])) l = some (.lst (zs.map V.int)) := by
            rw [upd_ne nlT]
            exact e3
          refine ⟨T, [.int (i : Nat), .int u], rfl, SqT.of upd_same, rfl, .int (i : Nat), [.int u], rfl, .int u, [], rfl, rfl, ?_⟩
          refine ⟨.int (i : Nat), rfl, .inl ⟨_, rfl, .int 3, rfl, _, _, rfl, rfl, (by show (3 : Int) ≠ 0; decide), ?_⟩⟩
          have hj : (Int.fmod (i : Int) 3).toNat < zs.length := by omega
          have hat : atI (zs.map V.int) (Int.fmod (i : Int) 3) = some (.int zs[(Int.fmod (i : Int) 3).toNat]) := by
            have za := atI_nat (j := (Int.fmod (i : Int) 3).toNat) (xs := zs.map V.int) (v := .int zs[(Int.fmod (i : Int) 3).toNat]) (by rw [List.getElem?_map, List.getElem?_eq_getElem hj]; rfl)
            rw [show (((Int.fmod (i : Int) 3).toNat : Nat) : Int) = Int.fmod (i : Int) 3 by omega] at za
            exact za
          refine ⟨.ref l, rfl, .int _, rfl, l, _, _, _, rfl, rfl, SqL.of e3T, hat, .int u, rfl, .int (i : Nat), rfl, _, _, rfl, rfl, _, _, rfl, rfl, .inr (by omega), _, _, rfl, rfl, ?_⟩
          refine ⟨.ref l, rfl, .int _, rfl, l, _, _, (Int.fmod (i : Int) 3).toNat, rfl, rfl, e3T, ?_, ?_⟩
          · unfold ixN
            rw [List.length_map, if_pos f0, if_pos (by omega)]
          · refine ⟨_, _, _, zs.set (Int.fmod (i : Int) 3).toNat (zs[(Int.fmod (i : Int) 3).toNat] + u * ((i : Int) + 2)), rfl, ⟨fun c o ec => ?_, fun c o nc ec => ?_⟩, ?_, ?_⟩
            · have q3 := kk.1 _ _ ec
              have ncl3 : c ≠ l := ne_of_none ec nl
              rw [upd_ne ncl3, upd_ne (ne_of_none q3 nT)]
              exact q3
            · have q3 := kk.2 _ _ nc ec
              rw [upd_ne nc, upd_ne (ne_of_none q3 nT)]
              exact q3
            · rw [upd_same, List.map_set]
            · rw [List.length_set]
              exact hzl
      · rintro σ H3 ⟨y3, y4, y5, zs, rfl, kk, e3, hzl⟩
        exact ⟨.ref l, rfl, q H3 l zs kk.1 nl e3 (by omega) (by omega)⟩
end
end K06
namespace K06
open PySem PySem.Spec PyProof.Rows L2 CS RZ
section
variable {P : Program} {w : World} {K : PySem.W.Frag} {mg : Str → Option Value} {base : Heap}
def spRight : Sp := fun vs H Q _ => ∃ (b : Addr), vs = [.ref b] ∧ BoxAt H b 0 ∧ ∀ H' : Hp, Keep b H H' → Q (.bl true) H'
def spHand : Sp := fun vs H Q _ => vs = [] ∧ ∀ H' : Hp, Same H H' → Q (.bl true) H'
def spLaw (K : PySem.W.Frag) : Sp := fun vs H Q _ => ∃ (a : Addr) (ns : List Int), vs = [.ref a] ∧ SqL K H a (ns.map V.int) ∧ ns.length ≤ 63 ∧ ∀ H', Q (.bl true) H'
abbrev nLaw : List Str := ["_law_script", "_law_cells_here", "_law_k"]
theorem scLaw : FnScope nLaw ["_law_script"] (defScope sLaw) := ⟨rfl, rfl, rfl, by decide +kernel, rfl, by decide +kernel, by decide +kernel⟩
theorem ok_law {f gh gc gr gb : Addr} {fd dh dc dr db : FuncData} {k : Nat} (F : Fun K "law" "law" sLaw f fd)
    (Gh : FnOk P w K mg base CX0 k gh dh [] spHand) (bh : Binds K dh [] []) (kh : PySem.W.keepIn K (.ref gh) = true) (mh : mg "_law_by_hand_right" = some (.ref gh))
    (Gc : FnOk P w K mg base CX0 k gc dc ["_law_script", "_law_most_so"] (spCells K)) (bc : Binds K dc ["_law_script", "_law_most_so"] []) (kc : PySem.W.keepIn K (.ref gc) = true) (mc : mg "_law_cells" = some (.ref gc))
    (Gr : FnOk P w K mg base CX0 k gr dr ["_law_box_here"] spRight) (br : Binds K dr ["_law_box_here"] []) (kr : PySem.W.keepIn K (.ref gr) = true) (mR : mg "_law_right" = some (.ref gr))
    (Gb : FnOk P w K mg base CX0 k gb db ["_law_script", "_law_k"] (spBox K)) (bb : Binds K db ["_law_script", "_law_k"] []) (kb : PySem.W.keepIn K (.ref gb) = true) (mb : mg "_law_box" = some (.ref gb)) (mr : mg "range" = none) (ma : mg "all" = none) (ml : mg "len" = none) :
    FnOk P w K mg base CX0 (k + 1) f fd ["_law_script"] (spLaw K) := by
  refine F.ok scLaw (fun vs H Q E h => ?_) (fun cdv A outer s H vs Q E hr h => ?_)
  · obtain ⟨a, ns, rfl, _⟩ := h
    rfl
  · obtain ⟨a, ns, rfl, hS, hn, q⟩ := h
    refine ⟨_, pss_cons (ps_if (pt_not (pt_val (pe_call0 Gh hr (by rfl) mh kh bh .nil pass0))) (pss_one (ps_ret pe_bl)) pss_nil) (pss_cons (ps_set (i := 1) scLaw.nd rfl (.inr rfl) (pe_call Gc hr (by rfl) mc kc bc .nil pass0 (pa_cons (pv 0) (pa_cons pe_int pa_nil))))
      (pss_one (ps_ret (pe_callB (cr_all rfl) (by rfl) ma (by decide +kernel) (pa_cons (pe_lc (own := [("_law_k", 2)]) (g := gName 2) (by rfl) scLaw.nd (pi_range1 (by rfl) mr (pa_cons (pe_callB call_len_seq (by rfl) ml PySem.boot_len (pa_cons (pv 1) pa_nil)) pa_nil))
        (blkOk_by (own := [("_law_k", 2)]) (N := nLaw) (sc := defScope sLaw) (by decide +kernel)) (fun _ _ _ _ _ => pg_name (i := 2) scLaw.nd rfl (Or.inl rfl) (.inr rfl)) (fun _ _ _ _ _ => pts_nil)
        (fun _ _ _ _ _ => pe_call Gr hr (by rfl) mR kr br .nil pass0 (pa_cons (pe_call Gb hr (by rfl) mb kb bb .nil pass0 (pa_cons (pv 1) (pa_cons (pv 2) pa_nil))) pa_nil))) pa_nil))))), ?_⟩
    refine ⟨rfl, fun H1 s1 => ⟨_, rfl, ?_⟩⟩
    refine ite2 (fun z => by cases z) (fun _ => ?_)
    refine ⟨.ref a, rfl, a, ns, rfl, s1.seq hS, hn, fun H2 p ms s2 _ e2 m1 m3 => ?_⟩
    refine ⟨.ref p, rfl, p, _, rfl, .inl (SqL.of e2), _, rfl, (by rw [List.length_map]; omega), (by rw [List.length_map]; omega), fun D nD => lc_range (fun i H' => H' p = some (.lst (ms.map V.int)) ∧ H' D = some (.lst ((List.replicate i true).map V.bl))) ⟨?_, upd_same⟩ ?_ ?_⟩
    · rw [upd_ne (ne_of_none e2 nD)]
      exact e2
    · rintro i H3 hi ⟨e3, eD⟩
      rw [List.length_map] at hi
      have hi' : i < ms.length := by omega
      have npD : p ≠ D := ne_of_none e2 nD
      refine ⟨rfl, ?_⟩
      unfold tYes
      refine ite2 (fun _ => ?_) (fun z => absurd rfl z)
      refine ⟨.ref p, rfl, .int (0 + (i : Nat)), rfl, p, ms, i, (by rw [Int.zero_add]; rfl), SqL.of e3, hi', by omega, fun H4 b s4 nb b4 => ?_⟩
      have npb : p ≠ b := ne_of_none e3 nb
      have nDb : D ≠ b := ne_of_none eD nb
      refine ⟨b, rfl, b4, fun H5 k5 => ?_⟩
      refine ⟨_, k5 _ _ nDb (s4 _ _ eD), ?_, ?_, ?_⟩
      · rw [List.length_map, List.length_replicate]
        exact small1000 (by omega)
      · rw [upd_ne npD]
        exact k5 _ _ npb (s4 _ _ e3)
      · rw [upd_same, List.replicate_succ', List.map_append]
        rfl
    · rintro H3 ⟨e3, eD⟩
      refine ⟨D, _, rfl, SqL.of eD, ?_⟩
      rw [all_yes]
      exact q H3

end
end K06
namespace K06
open PySem PySem.Spec PyProof.Rows L2 CS RM
theorem okS_okD : ∀ (n : Nat) (d : PyData), okS n d → okD n d
  | 0, _, h => h.elim
  | _ + 1, .none, _ => trivial
  | _ + 1, .bool _, _ => trivial
  | _ + 1, .int _, _ => trivial
  | _ + 1, .str _, _ => trivial
  | n + 1, .list ds, h => ⟨h.1, fun d hd => okS_okD n d (h.2 d hd)⟩
  | n + 1, .tuple ds, h => ⟨h.1, fun d hd => okS_okD n d (h.2 d hd)⟩
  | _ + 1, .dict _, h => h.elim
end K06
set_option maxHeartbeats 8000000
namespace K06
open PySem PySem.Spec PyProof.Rows L2 CS RM
def mem (i j : Nat) : Stmt := (clsBody (top i)).getD j (.Pass ⟨0, 0, 0, 0⟩)
section
variable {P : Program} {w : World} {K : PySem.W.Frag} {mg : Str → Option Value} {base : Heap} {g : Glob} {m : Nat}
abbrev n_check_steps : List Str := ["steps", "one", "other", "_", "number"]
theorem sc_check_steps : FnScope n_check_steps ["steps"] (defScope (top 8)) := ⟨rfl, rfl, rfl, by decide +kernel, rfl, by decide +kernel, by decide +kernel⟩
theorem ok_check_steps {f : Addr} {fd : FuncData} {k : Nat} (F : Fun K "check_steps" "check_steps" (top 8) f fd) (B : Bl mg) (hK : g.K = K) {j : Nat} (lj : LtJ j k) (e_Still : HasE P w K mg base g j "Still" cStill ["self", "place"] ["place"]) (e_Below : HasE P w K mg base g j "Below" cBelow ["self", "one", "other", "number"] ["one", "other", "number"]) : FnOk P w K mg base (L2.CX P w) (k + 1) f fd ["steps"] (spD g sdCheck) :=
  fnDX (cs := cs_check_steps) F sc_check_steps (fun ds _ _ _ h => by obtain ⟨_, _, _, rfl, _⟩ := h; rfl) (fun cdv A outer s H E hr tk => pdss_cons (pds_for (L2.passes_of rfl) rfl (pdi_seq ⟨hK⟩ (pd_var 0)) (pdg_tup rfl ⟨hK⟩ (pdgs_cons (pdg_name (i := 1) sc_check_steps.nd rfl (by first | exact Or.inl rfl | exact Or.inr rfl)) (pdgs_cons (pdg_name (i := 2) sc_check_steps.nd rfl (by first | exact Or.inl rfl | exact Or.inr rfl)) (pdgs_cons (pdg_name (i := 3) sc_check_steps.nd rfl (by first | exact Or.inl rfl | exact Or.inr rfl)) (pdgs_nil)))) (stCons_len (stCons_len (stCons_len stNil_len)))) (pdss_one (pds_if (pdt_cmp (od_eq (hu64 hr)) ⟨hK⟩ (pd_var 1) (pd_var 2) (by first | exact nomark _ | rfl)) (pdss_one (pds_raiseH rfl e_Still tk hr lj (by rfl) (pda_cons (pd_var 1) (pda_nil)))) (pdss_nil)))) (pdss_one (pds_for (L2.passes_of rfl) rfl (pdi_seq ⟨hK⟩ (pd_var 0)) (pdg_tup rfl ⟨hK⟩ (pdgs_cons (pdg_name (i := 1) sc_check_steps.nd rfl (by first | exact Or.inl rfl | exact Or.inr rfl)) (pdgs_cons (pdg_name (i := 2) sc_check_steps.nd rfl (by first | exact Or.inl rfl | exact Or.inr rfl)) (pdgs_cons (pdg_name (i := 4) sc_check_steps.nd rfl (by first | exact Or.inl rfl | exact Or.inr rfl)) (pdgs_nil)))) (stCons_len (stCons_len (stCons_len stNil_len)))) (pdss_one (pds_if (pdt_cmp od_lt ⟨hK⟩ (pd_var 4) (pd_int) (by first | exact nomark _ | rfl)) (pdss_one (pds_raiseH rfl e_Below tk hr lj (by rfl) (pda_cons (pd_var 1) (pda_cons (pd_var 2) (pda_cons (pd_var 4) (pda_nil)))))) (pdss_nil)))))) (fun ds n k ke h => himp_check_steps ds n k ke h (fun _ _ h => h) (fun _ _ _ h => h))
abbrev n_added_up : List Str := ["steps", "many", "one", "other", "number"]
theorem sc_added_up : FnScope n_added_up ["steps"] (defScope (top 9)) := ⟨rfl, rfl, rfl, by decide +kernel, rfl, by decide +kernel, by decide +kernel⟩
theorem ok_added_up {f : Addr} {fd : FuncData} {k : Nat} (F : Fun K "added_up" "added_up" (top 9) f fd) (B : Bl mg) (hK : g.K = K)  : FnOk P w K mg base CX0 (k + 1) f fd ["steps"] (spD g sdAdded) :=
  fnD (cs := cs_added) F sc_added_up (fun ds _ _ _ h => by obtain ⟨_, _, _, rfl, _⟩ := h; rfl) (fun cdv A outer s H E hr => pdss_cons (pds_own (i := 1) sc_added_up.nd rfl (by first | exact Or.inl rfl | exact Or.inr rfl) pf_dnewT) (pdss_cons (pds_for PassesOwn.never rfl (pdi_seq ⟨hK⟩ (pd_var 0)) (pdg_tup rfl ⟨hK⟩ (pdgs_cons (pdg_name (i := 2) sc_added_up.nd rfl (by first | exact Or.inl rfl | exact Or.inr rfl)) (pdgs_cons (pdg_name (i := 3) sc_added_up.nd rfl (by first | exact Or.inl rfl | exact Or.inr rfl)) (pdgs_cons (pdg_name (i := 4) sc_added_up.nd rfl (by first | exact Or.inl rfl | exact Or.inr rfl)) (pdgs_nil)))) (stCons_len (stCons_len (stCons_len stNil_len)))) (pdss_one (pds_dput 1 (hu1 hr) (pk_tup (pda_cons (pd_var 2) (pda_cons (pd_var 3) (pda_nil)))) (pd_op od_add ⟨hK⟩ (pd_dget2 (hu1 hr) (pdq_nm 1) (pk_tup (pda_cons (pd_var 2) (pda_cons (pd_var 3) (pda_nil)))) (pd_int) ⟨rfl, rfl, rfl, rfl⟩) (pd_var 4))))) (pdss_one (pds_ret (pd_callTy cd_tuple ⟨hK⟩ rfl B.tuple (by decide +kernel) (pda_cons (PDF.pd (pf_lc (own := [("one", 2), ("other", 3)]) rfl sc_added_up.nd (pdi_seq ⟨hK⟩ (PDF.pd (pf_sortT rfl (hu64 hr) rfl B.sorted (pdq_nm 1)))) (blkOk_by (own := [("one", 2), ("other", 3)]) (N := n_added_up) (sc := defScope (top 9)) (by decide +kernel)) (fun _ _ _ _ _ => pdg_tup rfl ⟨hK⟩ (pdgs_cons (pdg_name (i := 2) sc_added_up.nd rfl (by first | exact Or.inl rfl | exact Or.inr rfl)) (pdgs_cons (pdg_name (i := 3) sc_added_up.nd rfl (by first | exact Or.inl rfl | exact Or.inr rfl)) (pdgs_nil))) (stCons_len (stCons_len stNil_len))) (fun _ _ _ _ _ => pdts_one (pdt_cmp od_gt ⟨hK⟩ (pd_dget (hu1 hr) (pdq_nm 1) (pk_tup (pda_cons (pd_var 2) (pda_cons (pd_var 3) (pda_nil)))) (fun _ _ => rfl)) (pd_int) (by first | exact nomark _ | rfl))) (fun _ _ _ _ _ => pd_tup (pda_cons (pd_var 2) (pda_cons (pd_var 3) (pda_cons (pd_dget (hu1 hr) (pdq_nm 1) (pk_tup (pda_cons (pd_var 2) (pda_cons (pd_var 3) (pda_nil)))) (fun _ _ => rfl)) (pda_nil))))))) (pda_nil))))))) (fun ds n k ke h => himp_added ds n k ke h rfl)
abbrev n_Counts__init_ : List Str := ["self", "start", "steps", "one", "other", "number"]
theorem sc_Counts__init_ : FnScope n_Counts__init_ ["self", "start", "steps"] (defScope (mem 10 0)) := ⟨rfl, rfl, rfl, by decide +kernel, rfl, by decide +kernel, by decide +kernel⟩
theorem ok_Counts__init_ {f : Addr} {fd : FuncData} {k : Nat} {dvs : List V} {kws : List (Str × V)} (F : FunD K "__init__" "Counts.__init__" (defArgs (mem 10 0)) (defBody (mem 10 0)) (defScope (mem 10 0)) dvs kws f fd) (B : Bl mg) (hK : g.K = K) (CC : CntC K (g.cls cCnt)) (h_check_steps : HasF P w K mg base (L2.CX P w) g k "check_steps" ["steps"] sdCheck) (h_added_up : HasF P w K mg base CX0 g k "added_up" ["steps"] sdAdded) : FnOk P w K mg base (L2.CX P w) (k + 1) f fd ["self", "start", "steps"] (spI g cCnt sdInit) :=
  fnIXD (cs := (cs_Counts__init_ sdCheck)) F sc_Counts__init_ (fun ds _ _ _ h => by obtain ⟨_, _, _, _, rfl, _⟩ := h; rfl) (fun cdv A outer s H E hr tk => pdss_cons (pds_expr (pd_fun h_check_steps hr (Nat.le_refl _) rfl (fun σ => L2.passAt tk σ) (pda_cons (pd_var 2) (pda_nil)))) (pdss_cons (pds_putF 0 CC.cls CC.h_start (pd_var 1)) (pdss_cons (pds_putF 0 CC.cls CC.h_steps (pd_fun h_added_up hr (Nat.le_refl _) rfl (fun _ => pa0) (pda_cons (pd_var 2) (pda_nil)))) (pdss_one (pds_putF 0 CC.cls CC.h_many (PDF.pd (pf_dc true (own := [("one", 3), ("other", 4), ("number", 5)]) (hu1 hr) rfl sc_Counts__init_.nd (pdi_seq ⟨hK⟩ (pd_fld ⟨hK⟩ (pdq_nm 0) CC.cls CC.h_steps)) (blkOk_by (own := [("one", 3), ("other", 4), ("number", 5)]) (N := n_Counts__init_) (sc := defScope (mem 10 0)) (by decide +kernel)) (fun _ _ _ _ _ => pdg_tup rfl ⟨hK⟩ (pdgs_cons (pdg_name (i := 3) sc_Counts__init_.nd rfl (by first | exact Or.inl rfl | exact Or.inr rfl)) (pdgs_cons (pdg_name (i := 4) sc_Counts__init_.nd rfl (by first | exact Or.inl rfl | exact Or.inr rfl)) (pdgs_cons (pdg_name (i := 5) sc_Counts__init_.nd rfl (by first | exact Or.inl rfl | exact Or.inr rfl)) (pdgs_nil)))) (stCons_len (stCons_len (stCons_len stNil_len)))) (fun _ _ _ _ _ => pdts_nil) (fun _ _ _ _ _ => pk_tup (pda_cons (pd_var 3) (pda_cons (pd_var 4) (pda_nil)))) (fun _ _ _ _ _ => pd_var 5)))))))) (fun ds n k ke h => himp_Counts__init_ ds n k ke h (fun _ _ h => h) (fun _ _ _ h => h))
abbrev n_Counts_start : List Str := ["self"]
theorem sc_Counts_start : FnScope n_Counts_start ["self"] (defScope (mem 10 2)) := ⟨rfl, rfl, rfl, by decide +kernel, rfl, by decide +kernel, by decide +kernel⟩
theorem ok_Counts_start {f : Addr} {fd : FuncData} {k : Nat} (F : Fun K "start" "Counts.start" (mem 10 2) f fd) (B : Bl mg) (hK : g.K = K) (CC : CntC K (g.cls cCnt))  : FnOk P w K mg base CX0 (k + 1) f fd ["self"] (spD g sdP_start) :=
  fnD (cs := cs_Counts_start) F sc_Counts_start (fun ds _ _ _ h => by obtain ⟨_, _, rfl, _⟩ := h; rfl) (fun cdv A outer s H E hr => pdss_one (pds_ret (pd_fld ⟨hK⟩ (pdq_nm 0) CC.cls CC.h_start))) (fun ds n k ke h => himp_Counts_start ds n k ke h rfl)
abbrev n_Counts_steps : List Str := ["self"]
theorem sc_Counts_steps : FnScope n_Counts_steps ["self"] (defScope (mem 10 3)) := ⟨rfl, rfl, rfl, by decide +kernel, rfl, by decide +kernel, by decide +kernel⟩
theorem ok_Counts_steps {f : Addr} {fd : FuncData} {k : Nat} (F : Fun K "steps" "Counts.steps" (mem 10 3) f fd) (B : Bl mg) (hK : g.K = K) (CC : CntC K (g.cls cCnt))  : FnOk P w K mg base CX0 (k + 1) f fd ["self"] (spD g sdP_steps) :=
  fnD (cs := cs_Counts_steps) F sc_Counts_steps (fun ds _ _ _ h => by obtain ⟨_, _, rfl, _⟩ := h; rfl) (fun cdv A outer s H E hr => pdss_one (pds_ret (pd_fld ⟨hK⟩ (pdq_nm 0) CC.cls CC.h_steps))) (fun ds n k ke h => himp_Counts_steps ds n k ke h rfl)
abbrev n_Counts__getitem_ : List Str := ["self", "at", "one", "other"]
theorem sc_Counts__getitem_ : FnScope n_Counts__getitem_ ["self", "at"] (defScope (mem 10 7)) := ⟨rfl, rfl, rfl, by decide +kernel, rfl, by decide +kernel, by decide +kernel⟩
theorem ok_Counts__getitem_ {f : Addr} {fd : FuncData} {k : Nat} (F : Fun K "__getitem__" "Counts.__getitem__" (mem 10 7) f fd) (B : Bl mg) (hK : g.K = K) (CC : CntC K (g.cls cCnt))  : FnOk P w K mg base CX0 (k + 1) f fd ["self", "at"] (spD g sdSub) :=
  fnD (cs := cs_Counts__getitem_) F sc_Counts__getitem_ (fun ds _ _ _ h => by obtain ⟨_, _, _, _, _, rfl, _⟩ := h; rfl) (fun cdv A outer s H E hr => pdss_cons (pds_asg (pd_var 1) (pdg_tup rfl ⟨hK⟩ (pdgs_cons (pdg_name (i := 2) sc_Counts__getitem_.nd rfl (by first | exact Or.inl rfl | exact Or.inr rfl)) (pdgs_cons (pdg_name (i := 3) sc_Counts__getitem_.nd rfl (by first | exact Or.inl rfl | exact Or.inr rfl)) (pdgs_nil))) (stCons_len (stCons_len stNil_len)))) (pdss_one (pds_ret (pd_dget2 (hu1 hr) (pdq_ex (pd_fld ⟨hK⟩ (pdq_nm 0) CC.cls CC.h_many)) (pk_tup (pda_cons (pd_var 2) (pda_cons (pd_var 3) (pda_nil)))) (pd_int) ⟨rfl, rfl, rfl, rfl⟩)))) (fun ds n k ke h => himp_Counts__getitem_ ds n k ke h rfl)
abbrev n_Counts_begun : List Str := ["self", "place"]
theorem sc_Counts_begun : FnScope n_Counts_begun ["self", "place"] (defScope (mem 10 14)) := ⟨rfl, rfl, rfl, by decide +kernel, rfl, by decide +kernel, by decide +kernel⟩
theorem ok_Counts_begun {f : Addr} {fd : FuncData} {k : Nat} (F : Fun K "begun" "Counts.begun" (mem 10 14) f fd) (B : Bl mg) (hK : g.K = K) (CC : CntC K (g.cls cCnt)) {j : Nat} (lj : LtJ j k) (hN_Counts : HasC P w K mg base g j "Counts" cCnt ["self", "start", "steps"] sdInit) : FnOk P w K mg base (L2.CX P w) (k + 1) f fd ["self", "place"] (spD g sdM_begun) :=
  fnDX (cs := cs_Counts_begun) F sc_Counts_begun (fun ds _ _ _ h => by obtain ⟨_, _, _, rfl, _⟩ := h; rfl) (fun cdv A outer s H E hr tk => pdss_one (pds_ret (pd_new hN_Counts hr lj (by rfl) (fun σ => L2.passAt tk σ) (pda_cons (pd_var 1) (pda_cons (pd_fld ⟨hK⟩ (pdq_nm 0) CC.cls CC.h_steps) (pda_nil)))))) (fun ds n k ke h => himp_Counts_begun ds n k ke h rfl (fun _ _ _ h => h))
abbrev n_Counts__eq_ : List Str := ["self", "other"]
theorem sc_Counts__eq_ : FnScope n_Counts__eq_ ["self", "other"] (defScope (mem 10 16)) := ⟨rfl, rfl, rfl, by decide +kernel, rfl, by decide +kernel, by decide +kernel⟩
theorem ok_Counts__eq_ {f : Addr} {fd : FuncData} {k : Nat} (F : Fun K "__eq__" "Counts.__eq__" (mem 10 16) f fd) (B : Bl mg) (hK : g.K = K) (CC : CntC K (g.cls cCnt)) (hI_Counts : KnC K (g.cls cCnt) ∧ mg "Counts" = some (.ref (g.cls cCnt))) : FnOk P w K mg base CX0 (k + 1) f fd ["self", "other"] (spD g sdEq) :=
  fnD (cs := cs_Counts__eq_) F sc_Counts__eq_ (fun ds _ _ _ h => by obtain ⟨_, _, _, rfl, _⟩ := h; rfl) (fun cdv A outer s H E hr => pdss_one (pds_ret (pd_and (pd_isC ⟨hK⟩ hI_Counts.1 hI_Counts.2 rfl rfl B.isinstance (pdq_nm 1)) (pd_and (pd_cmp (od_eq (hu64 hr)) ⟨hK⟩ (pd_fld ⟨hK⟩ (pdq_nm 0) CC.cls CC.h_start) (pd_fld ⟨hK⟩ (pdq_nm 1) CC.cls CC.h_start) (by first | exact nomark _ | rfl)) (pd_one (pd_cmp (od_eq (hu64 hr)) ⟨hK⟩ (pd_fld ⟨hK⟩ (pdq_nm 0) CC.cls CC.h_steps) (pd_fld ⟨hK⟩ (pdq_nm 1) CC.cls CC.h_steps) (by first | exact nomark _ | rfl))))))) (fun ds n k ke h => himp_Counts__eq_ ds n k ke h rfl)
abbrev n_Counts__add_ : List Str := ["self", "other"]
theorem sc_Counts__add_ : FnScope n_Counts__add_ ["self", "other"] (defScope (mem 10 17)) := ⟨rfl, rfl, rfl, by decide +kernel, rfl, by decide +kernel, by decide +kernel⟩
theorem ok_Counts__add_ {f : Addr} {fd : FuncData} {k : Nat} (F : Fun K "__add__" "Counts.__add__" (mem 10 17) f fd) (B : Bl mg) (hK : g.K = K) (CC : CntC K (g.cls cCnt)) {j : Nat} (lj : LtJ j k) (hN_Counts : HasC P w K mg base g j "Counts" cCnt ["self", "start", "steps"] sdInit) : FnOk P w K mg base (L2.CX P w) (k + 1) f fd ["self", "other"] (spD g sdBinAdd) :=
  fnDX (cs := (cs_Counts__add_ sdInit)) F sc_Counts__add_ (fun ds _ _ _ h => by obtain ⟨_, _, _, _, rfl, _⟩ := h; rfl) (fun cdv A outer s H E hr tk => pdss_one (pds_ret (pd_new hN_Counts hr lj (by rfl) (fun σ => L2.passAt tk σ) (pda_cons (pd_fld ⟨hK⟩ (pdq_nm 0) CC.cls CC.h_start) (pda_cons (pd_op od_add ⟨hK⟩ (pd_fld ⟨hK⟩ (pdq_nm 0) CC.cls CC.h_steps) (pd_fld ⟨hK⟩ (pdq_nm 1) CC.cls CC.h_steps)) (pda_nil)))))) (fun ds n k ke h => himp_Counts__add_ ds n k ke h rfl (fun _ _ _ h => h))
abbrev n_Counts__sub_ : List Str := ["self", "other", "left", "one", "to", "number"]
theorem sc_Counts__sub_ : FnScope n_Counts__sub_ ["self", "other"] (defScope (mem 10 18)) := ⟨rfl, rfl, rfl, by decide +kernel, rfl, by decide +kernel, by decide +kernel⟩
theorem ok_Counts__sub_ {f : Addr} {fd : FuncData} {k : Nat} (F : Fun K "__sub__" "Counts.__sub__" (mem 10 18) f fd) (B : Bl mg) (hK : g.K = K) (CC : CntC K (g.cls cCnt)) {j : Nat} (lj : LtJ j k) (hSub : HasSub P w K mg base g j cCnt ["self", "at"] sdSub) (e_Short : HasE P w K mg base g j "Short" cShort ["self", "one", "other", "lacking"] ["one", "other", "lacking"]) (hN_Counts : HasC P w K mg base g j "Counts" cCnt ["self", "start", "steps"] sdInit) : FnOk P w K mg base (L2.CX P w) (k + 1) f fd ["self", "other"] (spD g sdBinSub) :=
  fnDX (cs := (cs_Counts__sub_ sdInit sdSub)) F sc_Counts__sub_ (fun ds _ _ _ h => by obtain ⟨_, _, _, _, rfl, _⟩ := h; rfl) (fun cdv A outer s H E hr tk => pdss_cons (pds_for (L2.passes_of rfl) rfl (pdi_seq ⟨hK⟩ (pd_fld ⟨hK⟩ (pdq_nm 1) CC.cls CC.h_steps)) (pdg_tup rfl ⟨hK⟩ (pdgs_cons (pdg_name (i := 3) sc_Counts__sub_.nd rfl (by first | exact Or.inl rfl | exact Or.inr rfl)) (pdgs_cons (pdg_name (i := 4) sc_Counts__sub_.nd rfl (by first | exact Or.inl rfl | exact Or.inr rfl)) (pdgs_cons (pdg_name (i := 5) sc_Counts__sub_.nd rfl (by first | exact Or.inl rfl | exact Or.inr rfl)) (pdgs_nil)))) (stCons_len (stCons_len (stCons_len stNil_len)))) (pdss_one (pds_if (pdt_cmp od_lt ⟨hK⟩ (pd_sub hSub hr lj (pd_var 0) (pd_tup (pda_cons (pd_var 3) (pda_cons (pd_var 4) (pda_nil))))) (pd_var 5) (by first | exact nomark _ | rfl)) (pdss_one (pds_raiseH rfl e_Short tk hr lj (by rfl) (pda_cons (pd_var 3) (pda_cons (pd_var 4) (pda_cons (pd_op od_sub ⟨hK⟩ (pd_var 5) (pd_sub hSub hr lj (pd_var 0) (pd_tup (pda_cons (pd_var 3) (pda_cons (pd_var 4) (pda_nil)))))) (pda_nil)))))) (pdss_nil)))) (pdss_cons (pds_ownLc (i := 2) (own := [("one", 3), ("to", 4), ("number", 5)]) rfl sc_Counts__sub_.nd rfl rfl (pdi_seq ⟨hK⟩ (pd_fld ⟨hK⟩ (pdq_nm 0) CC.cls CC.h_steps)) (blkOk_by (own := [("one", 3), ("to", 4), ("number", 5)]) (N := n_Counts__sub_) (sc := defScope (mem 10 18)) (by decide +kernel)) (fun _ _ _ _ _ => pdg_tup rfl ⟨hK⟩ (pdgs_cons (pdg_name (i := 3) sc_Counts__sub_.nd rfl (by first | exact Or.inl rfl | exact Or.inr rfl)) (pdgs_cons (pdg_name (i := 4) sc_Counts__sub_.nd rfl (by first | exact Or.inl rfl | exact Or.inr rfl)) (pdgs_cons (pdg_name (i := 5) sc_Counts__sub_.nd rfl (by first | exact Or.inl rfl | exact Or.inr rfl)) (pdgs_nil)))) (stCons_len (stCons_len (stCons_len stNil_len)))) (fun _ _ _ _ _ => pdts_nil) (fun _ _ _ _ _ => pd_tup (pda_cons (pd_var 3) (pda_cons (pd_var 4) (pda_cons (pd_op od_sub ⟨hK⟩ (pd_var 5) (pd_sub hSub hr lj (pd_var 1) (pd_tup (pda_cons (pd_var 3) (pda_cons (pd_var 4) (pda_nil)))))) (pda_nil)))))) (pdss_one (pds_ret (pd_new hN_Counts hr lj (by rfl) (fun σ => L2.passAt tk σ) (pda_cons (pd_fld ⟨hK⟩ (pdq_nm 0) CC.cls CC.h_start) (pda_cons (pd_var 2) (pda_nil)))))))) (fun ds n k ke h => himp_Counts__sub_ ds n k ke h rfl (fun _ _ _ h => h))
abbrev n_law_of : List Str := ["_law_box_here", "_law_some"]
theorem sc_law_of : FnScope n_law_of ["_law_box_here", "_law_some"] (defScope (top 15)) := ⟨rfl, rfl, rfl, by decide +kernel, rfl, by decide +kernel, by decide +kernel⟩
theorem ok_law_of {f : Addr} {fd : FuncData} {k : Nat} (F : Fun K "_law_of" "_law_of" (top 15) f fd) (B : Bl mg) (hK : g.K = K) (h_law_take : HasF P w K mg base CX0 g k "_law_take" ["_law_box_here", "_law_below"] sdTake) : FnOk P w K mg base CX0 (k + 1) f fd ["_law_box_here", "_law_some"] (spD g sdOf) :=
  fnD (cs := cs_of) F sc_law_of (fun ds _ _ _ h => by obtain ⟨_, _, rfl, _⟩ := h; rfl) (fun cdv A outer s H E hr => pdss_one (pds_ret (pd_ix ix_at ⟨hK⟩ (pd_var 1) (pd_fun h_law_take hr (Nat.le_refl _) rfl (fun _ => pa0) (pda_cons (pd_var 0) (pda_cons (pd_callB cd_len ⟨hK⟩ rfl B.len (by decide +kernel) (pda_cons (pd_var 1) (pda_nil))) (pda_nil)))) (fun _ _ => rfl)))) (fun ds n k ke h => himp_of ds n k ke h rfl)
abbrev n_law_pick : List Str := ["_law_box_here", "_law_pool_so", "_law_many_so", "_law_turn", "_law_rest", "_law_found"]
theorem sc_law_pick : FnScope n_law_pick ["_law_box_here", "_law_pool_so", "_law_many_so"] (defScope (top 16)) := ⟨rfl, rfl, rfl, by decide +kernel, rfl, by decide +kernel, by decide +kernel⟩
theorem ok_law_pick {f : Addr} {fd : FuncData} {k : Nat} (F : Fun K "_law_pick" "_law_pick" (top 16) f fd) (B : Bl mg) (hK : g.K = K) (h_law_take : HasF P w K mg base CX0 g k "_law_take" ["_law_box_here", "_law_below"] sdTake) : FnOk P w K mg base CX0 (k + 1) f fd ["_law_box_here", "_law_pool_so", "_law_many_so"] (spD g sdPick) :=
  fnD (cs := cs_pick) F sc_law_pick (fun ds _ _ _ h => by obtain ⟨_, _, _, rfl, _⟩ := h; rfl) (fun cdv A outer s H E hr => pdss_cons (pds_par0 (i := 4) (j := 5) rfl sc_law_pick.nd rfl rfl (by decide) rfl rfl (pf_callTy (cf_list' rfl) ⟨hK⟩ rfl B.list (by decide +kernel) (pda_cons (pd_var 1) (pda_nil)))) (pdss_cons (pds_for PassesOwn.never rfl (pdi_range1 rfl B.range (pda_cons (pd_callB (cd_min rfl) ⟨hK⟩ rfl B.min (by decide +kernel) (pda_cons (pd_var 2) (pda_cons (pd_callBQ cd_len ⟨hK⟩ rfl B.len (by decide +kernel) (pdq_nm 4)) (pda_nil)))) (pda_nil))) (pdg_name (i := 3) sc_law_pick.nd rfl (by first | exact Or.inl rfl | exact Or.inr rfl)) (pdss_one (pds_expr (pd_append 5 (pd_mut 4 PySem.F.slot_list_pop PySem.F.type_list_pop mt_popAt mu_popAt (pda_cons (pd_fun h_law_take hr (Nat.le_refl _) rfl (fun _ => pa0) (pda_cons (pd_var 0) (pda_cons (pd_callBQ cd_len ⟨hK⟩ rfl B.len (by decide +kernel) (pdq_nm 4)) (pda_nil)))) (pda_nil))))))) (pdss_one (pds_ret (pd_var 5))))) (fun ds n k ke h => himp_pick ds n k ke h rfl)
abbrev n_law_tags : List Str := ["_law_box_here", "_law_many_so", "_law_kind_so"]
theorem sc_law_tags : FnScope n_law_tags ["_law_box_here", "_law_many_so"] (defScope (top 18)) := ⟨rfl, rfl, rfl, by decide +kernel, rfl, by decide +kernel, by decide +kernel⟩
theorem ok_law_tags {f : Addr} {fd : FuncData} {k : Nat} (F : Fun K "_law_tags" "_law_tags" (top 18) f fd) (B : Bl mg) (hK : g.K = K) (h_law_take : HasF P w K mg base CX0 g k "_law_take" ["_law_box_here", "_law_below"] sdTake) (h_law_pick : HasF P w K mg base CX0 g k "_law_pick" ["_law_box_here", "_law_pool_so", "_law_many_so"] sdPick) : FnOk P w K mg base CX0 (k + 1) f fd ["_law_box_here", "_law_many_so"] (spD g sdTags) :=
  fnD (cs := cs_tags) F sc_law_tags (fun ds _ _ _ h => by obtain ⟨_, rfl, _⟩ := h; rfl) (fun cdv A outer s H E hr => pdss_cons (pds_set (i := 2) sc_law_tags.nd rfl (by first | exact Or.inl rfl | exact Or.inr rfl) (pd_fun h_law_take hr (Nat.le_refl _) rfl (fun _ => pa0) (pda_cons (pd_var 0) (pda_cons (pd_int) (pda_nil))))) (pdss_cons (pds_if (pdt_cmp (od_eq (hu64 hr)) ⟨hK⟩ (pd_var 2) (pd_int) (by first | exact nomark _ | rfl)) (pdss_one (pds_ret (pd_fun h_law_pick hr (Nat.le_refl _) rfl (fun _ => pa0) (pda_cons (pd_var 0) (pda_cons (pd_str) (pda_cons (pd_var 1) (pda_nil))))))) (pdss_nil)) (pdss_cons (pds_if (pdt_cmp (od_eq (hu64 hr)) ⟨hK⟩ (pd_var 2) (pd_int) (by first | exact nomark _ | rfl)) (pdss_one (pds_ret (pd_fun h_law_pick hr (Nat.le_refl _) rfl (fun _ => pa0) (pda_cons (pd_var 0) (pda_cons (PDF.pd (pf_lst (pda_cons (pd_str) (pda_cons (pd_str) (pda_cons (pd_str) (pda_cons (pd_str) (pda_cons (pd_str) (pda_cons (pd_str) (pda_cons (pd_str) (pda_cons (pd_str) (pda_nil))))))))))) (pda_cons (pd_var 1) (pda_nil))))))) (pdss_nil)) (pdss_one (pds_ret (pd_fun h_law_pick hr (Nat.le_refl _) rfl (fun _ => pa0) (pda_cons (pd_var 0) (pda_cons (PDF.pd (pf_lst (pda_cons (pd_str) (pda_cons (pd_str) (pda_cons (pd_str) (pda_cons (pd_str) (pda_cons (pd_str) (pda_cons (pd_str) (pda_cons (pd_str) (pda_cons (pd_str) (pda_nil))))))))))) (pda_cons (pd_var 1) (pda_nil)))))))))) (fun ds n k ke h => himp_tags ds n k ke h rfl)
abbrev n_law_strewn : List Str := ["_law_box_here", "_law_tags_here", "_law_most_so", "_law_high_so", "_law_found", "_law_turn", "_law_near"]
theorem sc_law_strewn : FnScope n_law_strewn ["_law_box_here", "_law_tags_here", "_law_most_so", "_law_high_so"] (defScope (top 19)) := ⟨rfl, rfl, rfl, by decide +kernel, rfl, by decide +kernel, by decide +kernel⟩
theorem ok_law_strewn {f : Addr} {fd : FuncData} {k : Nat} (F : Fun K "_law_strewn" "_law_strewn" (top 19) f fd) (B : Bl mg) (hK : g.K = K) (h_law_take : HasF P w K mg base CX0 g k "_law_take" ["_law_box_here", "_law_below"] sdTake) (h_law_pick : HasF P w K mg base CX0 g k "_law_pick" ["_law_box_here", "_law_pool_so", "_law_many_so"] sdPick) : FnOk P w K mg base CX0 (k + 1) f fd ["_law_box_here", "_law_tags_here", "_law_most_so", "_law_high_so"] (spD g sdStrewn) :=
  fnD (cs := cs_strewn) F sc_law_strewn (fun ds _ _ _ h => by obtain ⟨_, _, _, rfl, _⟩ := h; rfl) (fun cdv A outer s H E hr => pdss_cons (pds_own (i := 4) sc_law_strewn.nd rfl (by first | exact Or.inl rfl | exact Or.inr rfl) (pf_lst (pda_nil))) (pdss_cons (pds_for PassesOwn.never rfl (pdi_range1 rfl B.range (pda_cons (pd_fun h_law_take hr (Nat.le_refl _) rfl (fun _ => pa0) (pda_cons (pd_var 0) (pda_cons (pd_op od_add ⟨hK⟩ (pd_var 2) (pd_int)) (pda_nil)))) (pda_nil))) (pdg_name (i := 5) sc_law_strewn.nd rfl (by first | exact Or.inl rfl | exact Or.inr rfl)) (pdss_cons (pds_set (i := 6) sc_law_strewn.nd rfl (by first | exact Or.inl rfl | exact Or.inr rfl) (pd_fun h_law_pick hr (Nat.le_refl _) rfl (fun _ => pa0) (pda_cons (pd_var 0) (pda_cons (pd_var 1) (pda_cons (pd_int) (pda_nil)))))) (pdss_one (pds_expr (pd_append 4 (pd_tup (pda_cons (pd_ix ix_at ⟨hK⟩ (pd_var 6) (pd_int) (fun _ _ => rfl)) (pda_cons (pd_ix ix_at ⟨hK⟩ (pd_var 6) (pd_int) (fun _ _ => rfl)) (pda_cons (pd_fun h_law_take hr (Nat.le_refl _) rfl (fun _ => pa0) (pda_cons (pd_var 0) (pda_cons (pd_op od_add ⟨hK⟩ (pd_var 3) (pd_int)) (pda_nil)))) (pda_nil)))))))))) (pdss_one (pds_ret (pd_callTy cd_tuple ⟨hK⟩ rfl B.tuple (by decide +kernel) (pda_cons (pd_var 4) (pda_nil))))))) (fun ds n k ke h => himp_strewn ds n k ke h rfl)
abbrev n_law_summed : List Str := ["_law_rows_so", "_law_found", "_law_own", "_law_many_so", "_law_bit"]
theorem sc_law_summed : FnScope n_law_summed ["_law_rows_so"] (defScope (top 20)) := ⟨rfl, rfl, rfl, by decide +kernel, rfl, by decide +kernel, by decide +kernel⟩
theorem ok_law_summed {f : Addr} {fd : FuncData} {k : Nat} (F : Fun K "_law_summed" "_law_summed" (top 20) f fd) (B : Bl mg) (hK : g.K = K)  : FnOk P w K mg base CX0 (k + 1) f fd ["_law_rows_so"] (spD g sdSummed) :=
  fnD (cs := cs_summed) F sc_law_summed (fun ds _ _ _ h => by obtain ⟨_, _, rfl, _⟩ := h; rfl) (fun cdv A outer s H E hr => pdss_cons (pds_own (i := 1) sc_law_summed.nd rfl (by first | exact Or.inl rfl | exact Or.inr rfl) (pf_lst (pda_nil))) (pdss_cons (pds_for PassesOwn.never rfl (pdi_seq ⟨hK⟩ (PDF.pd (pf_callB (cf_sorted (hu64 hr)) ⟨hK⟩ rfl B.sorted (by decide +kernel) (pda_cons (PDF.pd (pf_lc (own := [("_law_bit", 4)]) rfl sc_law_summed.nd (pdi_seq ⟨hK⟩ (pd_var 0)) (blkOk_by (own := [("_law_bit", 4)]) (N := n_law_summed) (sc := defScope (top 20)) (by decide +kernel)) (fun _ _ _ _ _ => pdg_name (i := 4) sc_law_summed.nd rfl (by first | exact Or.inl rfl | exact Or.inr rfl)) (fun _ _ _ _ _ => pdts_nil) (fun _ _ _ _ _ => pd_slice ⟨hK⟩ (pd_var 4) (pdo_none) (pdo_some (pd_int))))) (pda_nil))))) (pdg_name (i := 2) sc_law_summed.nd rfl (by first | exact Or.inl rfl | exact Or.inr rfl)) (pdss_cons (pds_set (i := 3) sc_law_summed.nd rfl (by first | exact Or.inl rfl | exact Or.inr rfl) (pd_callB (cd_sum rfl) ⟨hK⟩ rfl B.sum (by decide +kernel) (pda_cons (PDF.pd (pf_lc (own := [("_law_bit", 4)]) rfl sc_law_summed.nd (pdi_seq ⟨hK⟩ (pd_var 0)) (blkOk_by (own := [("_law_bit", 4)]) (N := n_law_summed) (sc := defScope (top 20)) (by decide +kernel)) (fun _ _ _ _ _ => pdg_name (i := 4) sc_law_summed.nd rfl (by first | exact Or.inl rfl | exact Or.inr rfl)) (fun _ _ _ _ _ => pdts_one (pdt_cmp (od_eq (hu64 hr)) ⟨hK⟩ (pd_slice ⟨hK⟩ (pd_var 4) (pdo_none) (pdo_some (pd_int))) (pd_var 2) (by first | exact nomark _ | rfl))) (fun _ _ _ _ _ => pd_ix ix_at ⟨hK⟩ (pd_var 4) (pd_int) (fun _ _ => rfl)))) (pda_nil)))) (pdss_one (pds_if ((pdw_and (pdt_cmp od_gt ⟨hK⟩ (pd_var 3) (pd_int) (by first | exact nomark _ | rfl)) (pdw_and1 (pdt_cmp (od_notin (hu65 hr)) ⟨hK⟩ (pd_var 2) (PDF.pd (pf_lcO 1 (own := [("_law_bit", 4)]) rfl sc_law_summed.nd ⟨hK⟩ (blkOk_by (own := [("_law_bit", 4)]) (N := n_law_summed) (sc := defScope (top 20)) (by decide +kernel)) (fun _ _ _ _ _ => pdg_name (i := 4) sc_law_summed.nd rfl (by first | exact Or.inl rfl | exact Or.inr rfl)) (fun _ _ _ _ _ => pdts_nil) (fun _ _ _ _ _ => pd_slice ⟨hK⟩ (pd_var 4) (pdo_none) (pdo_some (pd_int))))) (by first | exact nomark _ | rfl)))).pdt) (pdss_one (pds_expr (pd_append 1 (pd_op od_add ⟨hK⟩ (pd_var 2) (pd_tup (pda_cons (pd_var 3) (pda_nil))))))) (pdss_nil))))) (pdss_one (pds_ret (pd_callTy cd_tuple ⟨hK⟩ rfl B.tuple (by decide +kernel) (pda_cons (pd_var 1) (pda_nil))))))) (fun ds n k ke h => himp_summed ds n k ke h rfl)
abbrev n_law_heard : List Str := ["_law_made", "_law_its", "error_so", "_law_told", "_law_caught"]
theorem sc_law_heard : FnScope n_law_heard ["_law_made", "_law_its"] (defScope (top 21)) := ⟨rfl, rfl, rfl, by decide +kernel, rfl, by decide +kernel, by decide +kernel⟩
theorem ok_law_heard {f : Addr} {fd : FuncData} {k : Nat} (F : Fun K "_law_heard" "_law_heard" (top 21) f fd) (B : Bl mg) (hK : g.K = K) {j : Nat} (lj : LtJ j k) (hmg_Short : mg "Short" = some (.ref (g.cls cShort))) (hX : ErX K g [cStill, cBelow, cShort] ["place", "one", "other", "number", "lacking"] (fun c => decide (c ≠ 0))) (hBinSub : HasBin P w K mg base g j .Sub cCnt ["self", "other"] sdBinSub) (hP_start : HasP P w K mg base g j cCnt "start" sdP_start) (hP_steps : HasP P w K mg base g j cCnt "steps" sdP_steps) (hmg_Below : mg "Below" = some (.ref (g.cls cBelow))) : FnOk P w K mg base CX0 (k + 1) f fd ["_law_made", "_law_its"] (spD g sdHeard6) :=
  fnD (cs := cs_heard6) F sc_law_heard (fun ds _ _ _ h => by obtain ⟨_, _, _, _, rfl, _⟩ := h; rfl) (fun cdv A outer s H E hr => pdss_cons (pds_asg (pd_tup (pda_cons (pd_non) (pda_cons (pd_non) (pda_nil)))) (pdg_tup rfl ⟨hK⟩ (pdgs_cons (pdg_name (i := 3) sc_law_heard.nd rfl (by first | exact Or.inl rfl | exact Or.inr rfl)) (pdgs_cons (pdg_name (i := 4) sc_law_heard.nd rfl (by first | exact Or.inl rfl | exact Or.inr rfl)) (pdgs_nil))) (stCons_len (stCons_len stNil_len)))) (pdss_cons (pds_tryT (i := 2) (cns := [cShort]) (ms := [cStill, cBelow, cShort]) rfl rfl rfl sc_law_heard.nd rfl rfl (CS.tst1 ⟨rfl, by decide, .inl hmg_Short⟩) takes_F (fun c hc => hX.any hc (by decide)) (fun W pn xe tw pw => pdss_one (pds_set (i := 3) sc_law_heard.nd rfl (by first | exact Or.inl rfl | exact Or.inr rfl) (pd_bin hBinSub hr (Nat.le1 lj) (fun σ => L2.passAt tw σ) (pd_var 0) (pd_var 1)))) (fun a pn => pdss_one (pds_set (i := 4) sc_law_heard.nd rfl (by first | exact Or.inl rfl | exact Or.inr rfl) (pd_var 2)))) (pdss_cons (pds_if (pdt_cmp od_is ⟨hK⟩ (pd_var 4) (pd_non) (by first | exact nomark _ | rfl)) (pdss_one (pds_ret (PDF.pd (pf_lst (pda_cons (pd_p hP_start hr lj (pd_var 3)) (pda_cons (pd_p hP_steps hr lj (pd_var 3)) (pda_nil))))))) (pdss_nil)) (pdss_one (pds_ret (PDF.pd (pf_lst (pda_cons (pd_xfld ⟨hK⟩ (pdq_nm 4) hX.xf (fun c hc => hX.no c hc _ (by decide))) (pda_cons (pd_xfld ⟨hK⟩ (pdq_nm 4) hX.xf (fun c hc => hX.no c hc _ (by decide))) (pda_cons (pd_xfld ⟨hK⟩ (pdq_nm 4) hX.xf (fun c hc => hX.no c hc _ (by decide))) (pda_cons (pd_isX (cv := .ty "ValueError") (u := .type "ValueError") (ms := [cStill, cBelow, cShort]) (kb := (fun c => decide (c ≠ 0))) (pdq_nm 4) (pe_bltn (by rfl) B.ValueError (by decide +kernel) rfl) (fun w r => r) hX.csx hX.kv (by rfl) B.isinstance (by decide +kernel)) (pda_cons (pd_isX (cv := .ref (g.cls cBelow)) (u := .ref (g.cls cBelow)) (ms := [cStill, cBelow, cShort]) (kb := fun c => decide (c = cBelow)) (pdq_nm 4) (pe_glob (by rfl) hmg_Below rfl) (fun w r => r) hX.csx (fun c hc => hX.kit c hc _ (by decide)) (by rfl) B.isinstance (by decide +kernel)) (pda_nil))))))))))))) (fun ds n k ke h => himp_heard6 ds n k ke h rfl)
abbrev n_law_taken : List Str := ["_law_first_so", "_law_rows_so", "_law_far_so", "_law_table", "_law_found", "_law_own", "_law_more"]
theorem sc_law_taken : FnScope n_law_taken ["_law_first_so", "_law_rows_so", "_law_far_so"] (defScope (top 22)) := ⟨rfl, rfl, rfl, by decide +kernel, rfl, by decide +kernel, by decide +kernel⟩
theorem ok_law_taken {f : Addr} {fd : FuncData} {k : Nat} (F : Fun K "_law_taken" "_law_taken" (top 22) f fd) (B : Bl mg) (hK : g.K = K)  : FnOk P w K mg base CX0 (k + 1) f fd ["_law_first_so", "_law_rows_so", "_law_far_so"] (spD g sdTaken) :=
  fnD (cs := cs_taken) F sc_law_taken (fun ds _ _ _ h => by obtain ⟨_, _, _, rfl, _⟩ := h; rfl) (fun cdv A outer s H E hr => pdss_cons (pds_own (i := 3) sc_law_taken.nd rfl (by first | exact Or.inl rfl | exact Or.inr rfl) (pf_dl (own := [("_law_own", 5)]) (hu2 hr) (by rfl) B.dict rfl sc_law_taken.nd (pdi_seq ⟨hK⟩ (pd_var 1)) (blkOk_by (own := [("_law_own", 5)]) (N := n_law_taken) (sc := defScope (top 22)) (by decide +kernel)) (fun _ _ _ _ _ => pdg_name (i := 5) sc_law_taken.nd rfl (by first | exact Or.inl rfl | exact Or.inr rfl)) (fun _ _ _ _ _ => pdts_nil) (fun _ _ _ _ _ => pk_sl ⟨hK⟩ (pd_var 5) (pdo_none) (pdo_some (pd_int))) (fun _ _ _ _ _ => pd_ix ix_at ⟨hK⟩ (pd_var 5) (pd_int) (fun _ _ => rfl)))) (pdss_cons (pds_own (i := 4) sc_law_taken.nd rfl (by first | exact Or.inl rfl | exact Or.inr rfl) (pf_lst (pda_nil))) (pdss_cons (pds_for PassesOwn.never rfl (pdi_seq ⟨hK⟩ (pd_var 2)) (pdg_name (i := 5) sc_law_taken.nd rfl (by first | exact Or.inl rfl | exact Or.inr rfl)) (pdss_cons (pds_set (i := 6) sc_law_taken.nd rfl (by first | exact Or.inl rfl | exact Or.inr rfl) (pd_op od_sub ⟨hK⟩ (pd_ix ix_at ⟨hK⟩ (pd_var 5) (pd_int) (fun _ _ => rfl)) (pd_dget2 (hu1 hr) (pdq_nm 3) (pk_sl ⟨hK⟩ (pd_var 5) (pdo_none) (pdo_some (pd_int))) (pd_int) ⟨rfl, rfl, rfl, rfl⟩))) (pdss_cons (pds_if (pdt_cmp od_gt ⟨hK⟩ (pd_var 6) (pd_int) (by first | exact nomark _ | rfl)) (pdss_one (pds_ret (PDF.pd (pf_lst (pda_cons (pd_ix ix_at ⟨hK⟩ (pd_var 5) (pd_int) (fun _ _ => rfl)) (pda_cons (pd_ix ix_at ⟨hK⟩ (pd_var 5) (pd_int) (fun _ _ => rfl)) (pda_cons (pd_var 6) (pda_cons (pd_bl) (pda_cons (pd_bl) (pda_nil)))))))))) (pdss_nil)) (pdss_one (pds_dput 3 (hu1 hr) (pk_sl ⟨hK⟩ (pd_var 5) (pdo_none) (pdo_some (pd_int))) (pd_op od_sub ⟨hK⟩ (pd_int) (pd_var 6))))))) (pdss_cons (pds_for PassesOwn.never rfl (pdi_seq ⟨hK⟩ (pd_var 1)) (pdg_name (i := 5) sc_law_taken.nd rfl (by first | exact Or.inl rfl | exact Or.inr rfl)) (pdss_one (pds_if (pdt_cmp od_gt ⟨hK⟩ (pd_dget (hu1 hr) (pdq_nm 3) (pk_sl ⟨hK⟩ (pd_var 5) (pdo_none) (pdo_some (pd_int))) (fun _ _ => rfl)) (pd_int) (by first | exact nomark _ | rfl)) (pdss_one (pds_expr (pd_append 4 (pd_op od_add ⟨hK⟩ (pd_slice ⟨hK⟩ (pd_var 5) (pdo_none) (pdo_some (pd_int))) (pd_tup (pda_cons (pd_dget (hu1 hr) (pdq_nm 3) (pk_sl ⟨hK⟩ (pd_var 5) (pdo_none) (pdo_some (pd_int))) (fun _ _ => rfl)) (pda_nil))))))) (pdss_nil)))) (pdss_one (pds_ret (PDF.pd (pf_lst (pda_cons (pd_var 0) (pda_cons (pd_callTy cd_tuple ⟨hK⟩ rfl B.tuple (by decide +kernel) (pda_cons (pd_var 4) (pda_nil))) (pda_nil))))))))))) (fun ds n k ke h => himp_taken ds n k ke h rfl)
abbrev n_law_case_right : List Str := ["_law_first_so", "_law_rows_so", "_law_last_so", "_law_far_so", "_law_both_so", "_law_due", "_law_got", "_law_more", "_law_less_so", "_law_made", "_law_its", "_law_mine", "_law_other_so"]
theorem sc_law_case_right : FnScope n_law_case_right ["_law_first_so", "_law_rows_so", "_law_last_so", "_law_far_so"] (defScope (top 23)) := ⟨rfl, rfl, rfl, by decide +kernel, rfl, by decide +kernel, by decide +kernel⟩
theorem ok_law_case_right {f : Addr} {fd : FuncData} {k : Nat} (F : Fun K "_law_case_right" "_law_case_right" (top 23) f fd) (B : Bl mg) (hK : g.K = K) {j : Nat} (lj : LtJ j k) (hN_Counts : HasC P w K mg base g j "Counts" cCnt ["self", "start", "steps"] sdInit) (h_law_summed : HasF P w K mg base CX0 g k "_law_summed" ["_law_rows_so"] sdSummed) (hBinAdd : HasBin P w K mg base g j .Add cCnt ["self", "other"] sdBinAdd) (h_law_same : HasF P w K mg base CX0 g k "_law_same" ["_law_got", "_law_due"] sdSame6) (hP_start : HasP P w K mg base g j cCnt "start" sdP_start) (hP_steps : HasP P w K mg base g j cCnt "steps" sdP_steps) (h_law_heard : HasF P w K mg base CX0 g k "_law_heard" ["_law_made", "_law_its"] sdHeard6) (h_law_taken : HasF P w K mg base CX0 g k "_law_taken" ["_law_first_so", "_law_rows_so", "_law_far_so"] sdTaken) (hEq : HasEq P w K mg base g j cCnt ["self", "other"] sdEq) (hM_begun : HasM P w K mg base g j (L2.CX P w) cCnt "begun" ["self", "place"] sdM_begun) (hK_begun : HasMK P w K mg base g j (L2.CX P w) cCnt "begun" ["self", "place"] ["place"] sdM_begun) (hNe : HasNe P w K mg base g j cCnt ["self", "other"] sdEq) (hAugAdd : HasAug P w K mg base g j .Add cCnt ["self", "other"] sdBinAdd) (hAugSub : HasAug P w K mg base g j .Sub cCnt ["self", "other"] sdBinSub) : FnOk P w K mg base CX0 (k + 1) f fd ["_law_first_so", "_law_rows_so", "_law_last_so", "_law_far_so"] (spD g sdCase6) :=
  fnD (cs := cs_case6) F sc_law_case_right (fun ds _ _ _ h => by obtain ⟨_, _, _, _, rfl, _⟩ := h; rfl) (fun cdv A outer s H E hr => pdss_cons (pds_par (i := 9) (j := 10) rfl sc_law_case_right.nd rfl rfl (by decide) rfl rfl (pda_cons (pd_new hN_Counts hr lj (by rfl) (paF) (pda_cons (pd_var 0) (pda_cons (pd_var 1) (pda_nil)))) (pda_cons (pd_new hN_Counts hr lj (by rfl) (paF) (pda_cons (pd_var 2) (pda_cons (pd_var 3) (pda_nil)))) (pda_nil)))) (pdss_cons (pds_par (i := 11) (j := 12) rfl sc_law_case_right.nd rfl rfl (by decide) rfl rfl (pda_cons (pd_fun h_law_summed hr (Nat.le_refl _) rfl (fun _ => pa0) (pda_cons (pd_var 1) (pda_nil))) (pda_cons (pd_fun h_law_summed hr (Nat.le_refl _) rfl (fun _ => pa0) (pda_cons (pd_var 3) (pda_nil))) (pda_nil)))) (pdss_cons (pds_set (i := 4) sc_law_case_right.nd rfl (by first | exact Or.inl rfl | exact Or.inr rfl) (pd_bin hBinAdd hr (Nat.le1 lj) (paF) (pd_var 9) (pd_var 10))) (pdss_cons (pds_if (pdt_not (pdt_val (pd_fun h_law_same hr (Nat.le_refl _) rfl (fun _ => pa0) (pda_cons (PDF.pd (pf_lst (pda_cons (pd_p hP_start hr lj (pd_var 4)) (pda_cons (pd_p hP_steps hr lj (pd_var 4)) (pda_nil))))) (pda_cons (PDF.pd (pf_lst (pda_cons (pd_var 0) (pda_cons (pd_fun h_law_summed hr (Nat.le_refl _) rfl (fun _ => pa0) (pda_cons (pd_op od_add ⟨hK⟩ (pd_var 1) (pd_var 3)) (pda_nil))) (pda_nil))))) (pda_nil)))))) (pdss_one (pds_ret (pd_bl))) (pdss_nil)) (pdss_cons (pds_if (pdt_not (pdt_val (pd_fun h_law_same hr (Nat.le_refl _) rfl (fun _ => pa0) (pda_cons (pd_fun h_law_heard hr (Nat.le_refl _) rfl (fun _ => pa0) (pda_cons (pd_var 9) (pda_cons (pd_var 10) (pda_nil)))) (pda_cons (pd_fun h_law_taken hr (Nat.le_refl _) rfl (fun _ => pa0) (pda_cons (pd_var 0) (pda_cons (pd_var 11) (pda_cons (pd_var 12) (pda_nil))))) (pda_nil)))))) (pdss_one (pds_ret (pd_bl))) (pdss_nil)) (pdss_cons (pds_set (i := 5) sc_law_case_right.nd rfl (by first | exact Or.inl rfl | exact Or.inr rfl) (pd_and (pd_cmp (od_eq (hu64 hr)) ⟨hK⟩ (pd_var 0) (pd_var 2) (by first | exact nomark _ | rfl)) (pd_one (pd_cmp (od_eq (hu64 hr)) ⟨hK⟩ (pd_var 11) (pd_var 12) (by first | exact nomark _ | rfl))))) (pdss_cons (pds_set (i := 6) sc_law_case_right.nd rfl (by first | exact Or.inl rfl | exact Or.inr rfl) (PDF.pd (pf_lst (pda_cons (pd_eq1 hEq hr (Nat.le1 lj) (pd_var 9) (pd_var 10) (by first | exact nomark _ | rfl)) (pda_cons (pd_eq1 hEq hr (Nat.le1 lj) (pd_m hM_begun hr (Nat.le1 lj) (pd_var 9) (paF) (pda_cons (pd_var 2) (pda_nil))) (pd_var 10) (by first | exact nomark _ | rfl)) (pda_cons (pd_eq1 hEq hr (Nat.le1 lj) (pd_mK hK_begun hr (Nat.le1 lj) (pd_var 10) (paF) (pdk_cons (pd_var 0) pdk_nil) rfl rfl kw1_var) (pd_var 9) (by first | exact nomark _ | rfl)) (pda_cons (pd_ne1 hNe hr lj (pd_var 9) (pd_var 10) (by first | exact nomark _ | rfl)) (pda_nil)))))))) (pdss_cons (pds_if (pdt_not (pdt_val (pd_fun h_law_same hr (Nat.le_refl _) rfl (fun _ => pa0) (pda_cons (pd_var 6) (pda_cons (PDF.pd (pf_lst (pda_cons (pd_var 5) (pda_cons (pd_cmp (od_eq (hu64 hr)) ⟨hK⟩ (pd_var 11) (pd_var 12) (by first | exact nomark _ | rfl)) (pda_cons (pd_cmp (od_eq (hu64 hr)) ⟨hK⟩ (pd_var 11) (pd_var 12) (by first | exact nomark _ | rfl)) (pda_cons (pd_not (pd_var 5)) (pda_nil))))))) (pda_nil)))))) (pdss_one (pds_ret (pd_bl))) (pdss_nil)) (pdss_cons (pds_set (i := 7) sc_law_case_right.nd rfl (by first | exact Or.inl rfl | exact Or.inr rfl) (pd_var 9)) (pdss_cons (pds_augO hAugAdd hr (Nat.le1 lj) (paF) sc_law_case_right.nd rfl (by first | exact Or.inl rfl | exact Or.inr rfl) (pd_var 10)) (pdss_cons (pds_set (i := 8) sc_law_case_right.nd rfl (by first | exact Or.inl rfl | exact Or.inr rfl) (pd_var 7)) (pdss_cons (pds_augO hAugSub hr (Nat.le1 lj) (paF) sc_law_case_right.nd rfl (by first | exact Or.inl rfl | exact Or.inr rfl) (pd_var 10)) (pdss_cons (pds_set (i := 6) sc_law_case_right.nd rfl (by first | exact Or.inl rfl | exact Or.inr rfl) (PDF.pd (pf_lst (pda_cons (pd_eq1 hEq hr (Nat.le1 lj) (pd_var 7) (pd_var 4) (by first | exact nomark _ | rfl)) (pda_cons (pd_eq1 hEq hr (Nat.le1 lj) (pd_var 8) (pd_var 9) (by first | exact nomark _ | rfl)) (pda_cons (pd_p hP_steps hr lj (pd_var 9)) (pda_cons (pd_p hP_steps hr lj (pd_var 10)) (pda_cons (pd_p hP_start hr lj (pd_m hM_begun hr (Nat.le1 lj) (pd_var 9) (paF) (pda_cons (pd_var 2) (pda_nil)))) (pda_nil))))))))) (pdss_one (pds_ret (pd_fun h_law_same hr (Nat.le_refl _) rfl (fun _ => pa0) (pda_cons (pd_var 6) (pda_cons (PDF.pd (pf_lst (pda_cons (pd_bl) (pda_cons (pd_bl) (pda_cons (pd_var 11) (pda_cons (pd_var 12) (pda_cons (pd_var 2) (pda_nil)))))))) (pda_nil))))))))))))))))))) (fun ds n k ke h => himp_case6 ds n k ke h rfl)
abbrev n_law_refused : List Str := ["_law_made", "_law_its", "error_so", "_law_more", "_law_caught"]
theorem sc_law_refused : FnScope n_law_refused ["_law_made", "_law_its"] (defScope (top 24)) := ⟨rfl, rfl, rfl, by decide +kernel, rfl, by decide +kernel, by decide +kernel⟩
theorem ok_law_refused {f : Addr} {fd : FuncData} {k : Nat} (F : Fun K "_law_refused" "_law_refused" (top 24) f fd) (B : Bl mg) (hK : g.K = K) {j : Nat} (lj : LtJ j k) (hmg_Short : mg "Short" = some (.ref (g.cls cShort))) (hX : ErX K g [cStill, cBelow, cShort] ["place", "one", "other", "number", "lacking"] (fun c => decide (c ≠ 0))) (hAugSub : HasAug P w K mg base g j .Sub cCnt ["self", "other"] sdBinSub) (hEq : HasEq P w K mg base g j cCnt ["self", "other"] sdEq) (hP_steps : HasP P w K mg base g j cCnt "steps" sdP_steps) : FnOk P w K mg base CX0 (k + 1) f fd ["_law_made", "_law_its"] (spD g sdRefused) :=
  fnD (cs := cs_refused) F sc_law_refused (fun ds _ _ _ h => by obtain ⟨_, _, _, _, rfl, _⟩ := h; rfl) (fun cdv A outer s H E hr => pdss_cons (pds_par (i := 3) (j := 4) rfl sc_law_refused.nd rfl rfl (by decide) rfl rfl (pda_cons (pd_var 0) (pda_cons (pd_non) (pda_nil)))) (pdss_cons (pds_tryT (i := 2) (cns := [cShort]) (ms := [cStill, cBelow, cShort]) rfl rfl rfl sc_law_refused.nd rfl rfl (CS.tst1 ⟨rfl, by decide, .inl hmg_Short⟩) takes_F (fun c hc => hX.any hc (by decide)) (fun W pn xe tw pw => pdss_one (pds_augO hAugSub hr (Nat.le1 lj) (fun σ => L2.passAt tw σ) sc_law_refused.nd rfl (by first | exact Or.inl rfl | exact Or.inr rfl) (pd_var 1))) (fun a pn => pdss_one (pds_set (i := 4) sc_law_refused.nd rfl (by first | exact Or.inl rfl | exact Or.inr rfl) (pd_var 2)))) (pdss_one (pds_ret (PDF.pd (pf_lst (pda_cons (pd_cmp od_is ⟨hK⟩ (pd_var 4) (pd_non) (by first | exact nomark _ | rfl)) (pda_cons (pd_eq1 hEq hr (Nat.le1 lj) (pd_var 3) (pd_var 0) (by first | exact nomark _ | rfl)) (pda_cons (pd_p hP_steps hr lj (pd_var 3)) (pda_cons (pd_p hP_steps hr lj (pd_var 0)) (pda_cons (pd_p hP_steps hr lj (pd_var 1)) (pda_nil)))))))))))) (fun ds n k ke h => himp_refused ds n k ke h rfl)
abbrev n_law_by_hand_right : List Str := ["_law_got", "_law_due", "_law_stands_so", "_law_made", "_law_its"]
theorem sc_law_by_hand_right : FnScope n_law_by_hand_right [] (defScope (top 25)) := ⟨rfl, rfl, rfl, by decide +kernel, rfl, by decide +kernel, by decide +kernel⟩
theorem ok_law_by_hand_right {f : Addr} {fd : FuncData} {k : Nat} (F : Fun K "_law_by_hand_right" "_law_by_hand_right" (top 25) f fd) (B : Bl mg) (hK : g.K = K) {j : Nat} (lj : LtJ j k) (hN_Counts : HasC P w K mg base g j "Counts" cCnt ["self", "start", "steps"] sdInit) (h_law_heard : HasF P w K mg base CX0 g k "_law_heard" ["_law_made", "_law_its"] sdHeard6) (hN1_Counts : HasC1 P w K mg base g j "Counts" cCnt ["self", "start", "steps"] (.tuple []) sdInit) (hBinAdd : HasBin P w K mg base g j .Add cCnt ["self", "other"] sdBinAdd) (hP_start : HasP P w K mg base g j cCnt "start" sdP_start) (hEq : HasEq P w K mg base g j cCnt ["self", "other"] sdEq) (hI_Counts : KnC K (g.cls cCnt) ∧ mg "Counts" = some (.ref (g.cls cCnt))) (hP_steps : HasP P w K mg base g j cCnt "steps" sdP_steps) (h_law_same : HasF P w K mg base CX0 g k "_law_same" ["_law_got", "_law_due"] sdSame6) (h_law_refused : HasF P w K mg base CX0 g k "_law_refused" ["_law_made", "_law_its"] sdRefused) : FnOk P w K mg base CX0 (k + 1) f fd [] (spD g sdByHand6) :=
  fnD (cs := cs_by_hand6) F sc_law_by_hand_right (fun ds _ _ _ h => by obtain ⟨rfl, _⟩ := h; rfl) (fun cdv A outer s H E hr => pdss_cons (pds_par (i := 3) (j := 4) rfl sc_law_by_hand_right.nd rfl rfl (by decide) rfl rfl (pda_cons (pd_new hN_Counts hr lj (by rfl) (paF) (pda_cons (pd_str) (pda_cons (pd_tup (pda_cons (pd_tup (pda_cons (pd_str) (pda_cons (pd_str) (pda_cons (pd_int) (pda_nil))))) (pda_cons (pd_tup (pda_cons (pd_str) (pda_cons (pd_str) (pda_cons (pd_int) (pda_nil))))) (pda_nil)))) (pda_nil)))) (pda_cons (pd_new hN_Counts hr lj (by rfl) (paF) (pda_cons (pd_str) (pda_cons (pd_tup (pda_cons (pd_tup (pda_cons (pd_str) (pda_cons (pd_str) (pda_cons (pd_int) (pda_nil))))) (pda_cons (pd_tup (pda_cons (pd_str) (pda_cons (pd_str) (pda_cons (pd_int) (pda_nil))))) (pda_cons (pd_tup (pda_cons (pd_str) (pda_cons (pd_str) (pda_cons (pd_int) (pda_nil))))) (pda_nil))))) (pda_nil)))) (pda_nil)))) (pdss_cons (pds_set (i := 0) sc_law_by_hand_right.nd rfl (by first | exact Or.inl rfl | exact Or.inr rfl) (PDF.pd (pf_lst (pda_cons (pd_fun h_law_heard hr (Nat.le_refl _) rfl (fun _ => pa0) (pda_cons (pd_var 3) (pda_cons (pd_var 4) (pda_nil)))) (pda_cons (pd_fun h_law_heard hr (Nat.le_refl _) rfl (fun _ => pa0) (pda_cons (pd_var 3) (pda_cons (pd_new hN_Counts hr lj (by rfl) (paF) (pda_cons (pd_str) (pda_cons (pd_tup (pda_cons (pd_tup (pda_cons (pd_str) (pda_cons (pd_str) (pda_cons (pd_int) (pda_nil))))) (pda_nil))) (pda_nil)))) (pda_nil)))) (pda_cons (pd_p hP_start hr lj (pd_bin hBinAdd hr (Nat.le1 lj) (paF) (pd_var 3) (pd_new1 ⟨hK⟩ hN1_Counts hr lj (by rfl) (paF) (pda_cons (pd_str) (pda_nil))))) (pda_nil))))))) (pdss_cons (pds_set (i := 1) sc_law_by_hand_right.nd rfl (by first | exact Or.inl rfl | exact Or.inr rfl) (PDF.pd (pf_lst (pda_cons (PDF.pd (pf_lst (pda_cons (pd_str) (pda_cons (pd_str) (pda_cons (pd_int) (pda_cons (pd_bl) (pda_cons (pd_bl) (pda_nil)))))))) (pda_cons (PDF.pd (pf_lst (pda_cons (pd_str) (pda_cons (pd_tup (pda_cons (pd_tup (pda_cons (pd_str) (pda_cons (pd_str) (pda_cons (pd_int) (pda_nil))))) (pda_nil))) (pda_nil))))) (pda_cons (pd_str) (pda_nil))))))) (pdss_cons (pds_set (i := 0) sc_law_by_hand_right.nd rfl (by first | exact Or.inl rfl | exact Or.inr rfl) (pd_op od_add ⟨hK⟩ (pd_var 0) (PDF.pd (pf_lst (pda_cons (pd_eqK hEq ⟨hK⟩ hI_Counts.1.nf hr (Nat.le1 lj) (pd_var 3) (pd_non) (by first | exact nomark _ | rfl)) (pda_cons (pd_eqK hEq ⟨hK⟩ hI_Counts.1.nf hr (Nat.le1 lj) (pd_var 3) (pd_str) (by first | exact nomark _ | rfl)) (pda_cons (pd_eqK hEq ⟨hK⟩ hI_Counts.1.nf hr (Nat.le1 lj) (pd_var 3) (pd_p hP_steps hr lj (pd_var 3)) (by first | exact nomark _ | rfl)) (pda_cons (pd_eq1 hEq hr (Nat.le1 lj) (pd_var 3) (pd_new hN_Counts hr lj (by rfl) (paF) (pda_cons (pd_str) (pda_cons (pd_tup (pda_cons (pd_tup (pda_cons (pd_str) (pda_cons (pd_str) (pda_cons (pd_int) (pda_nil))))) (pda_cons (pd_tup (pda_cons (pd_str) (pda_cons (pd_str) (pda_cons (pd_int) (pda_nil))))) (pda_nil)))) (pda_nil)))) (by first | exact nomark _ | rfl)) (pda_nil))))))))) (pdss_cons (pds_set (i := 2) sc_law_by_hand_right.nd rfl (by first | exact Or.inl rfl | exact Or.inr rfl) (pd_op od_add ⟨hK⟩ (pd_op od_rep ⟨hK⟩ (PDF.pd (pf_lst (pda_cons (pd_tup (pda_cons (pd_tup (pda_cons (pd_str) (pda_cons (pd_str) (pda_cons (pd_int) (pda_nil))))) (pda_cons (pd_tup (pda_cons (pd_str) (pda_cons (pd_str) (pda_cons (pd_int) (pda_nil))))) (pda_nil)))) (pda_nil)))) (pd_int)) (PDF.pd (pf_lst (pda_cons (pd_tup (pda_cons (pd_tup (pda_cons (pd_str) (pda_cons (pd_str) (pda_cons (pd_int) (pda_nil))))) (pda_cons (pd_tup (pda_cons (pd_str) (pda_cons (pd_str) (pda_cons (pd_int) (pda_nil))))) (pda_cons (pd_tup (pda_cons (pd_str) (pda_cons (pd_str) (pda_cons (pd_int) (pda_nil))))) (pda_nil))))) (pda_nil)))))) (pdss_one (pds_ret (pd_fun h_law_same hr (Nat.le_refl _) rfl (fun _ => pa0) (pda_cons (pd_op od_add ⟨hK⟩ (pd_var 0) (pd_fun h_law_refused hr (Nat.le_refl _) rfl (fun _ => pa0) (pda_cons (pd_var 3) (pda_cons (pd_var 4) (pda_nil))))) (pda_cons (pd_op od_add ⟨hK⟩ (pd_op od_add ⟨hK⟩ (pd_var 1) (PDF.pd (pf_lst (pda_cons (pd_bl) (pda_cons (pd_bl) (pda_cons (pd_bl) (pda_cons (pd_bl) (pda_cons (pd_bl) (pda_cons (pd_bl) (pda_nil)))))))))) (pd_var 2)) (pda_nil))))))))))) (fun ds n k ke h => himp_by_hand6 ds n k ke h rfl)
abbrev n_law_right : List Str := ["_law_box_here", "_law_turn", "_law_tags_here", "_law_high_so", "_law_rows_so", "_law_far_so"]
theorem sc_law_right : FnScope n_law_right ["_law_box_here"] (defScope (top 26)) := ⟨rfl, rfl, rfl, by decide +kernel, rfl, by decide +kernel, by decide +kernel⟩
theorem ok_law_right {f : Addr} {fd : FuncData} {k : Nat} (F : Fun K "_law_right" "_law_right" (top 26) f fd) (B : Bl mg) (hK : g.K = K) (h_law_tags : HasF P w K mg base CX0 g k "_law_tags" ["_law_box_here", "_law_many_so"] sdTags) (h_law_take : HasF P w K mg base CX0 g k "_law_take" ["_law_box_here", "_law_below"] sdTake) (h_law_of : HasF P w K mg base CX0 g k "_law_of" ["_law_box_here", "_law_some"] sdOf) (h_law_strewn : HasF P w K mg base CX0 g k "_law_strewn" ["_law_box_here", "_law_tags_here", "_law_most_so", "_law_high_so"] sdStrewn) (h_law_case_right : HasF P w K mg base CX0 g k "_law_case_right" ["_law_first_so", "_law_rows_so", "_law_last_so", "_law_far_so"] sdCase6) : FnOk P w K mg base CX0 (k + 1) f fd ["_law_box_here"] (spD g sdRight6) :=
  fnD (cs := cs_right6) F sc_law_right (fun ds _ _ _ h => by obtain ⟨rfl, _⟩ := h; rfl) (fun cdv A outer s H E hr => pdss_cons (pds_for PassesOwn.never rfl (pdi_range1 rfl B.range (pda_cons (pd_int) (pda_nil))) (pdg_name (i := 1) sc_law_right.nd rfl (by first | exact Or.inl rfl | exact Or.inr rfl)) (pdss_cons (pds_par (i := 2) (j := 3) rfl sc_law_right.nd rfl rfl (by decide) rfl rfl (pda_cons (pd_fun h_law_tags hr (Nat.le_refl _) rfl (fun _ => pa0) (pda_cons (pd_var 0) (pda_cons (pd_op od_add ⟨hK⟩ (pd_int) (pd_fun h_law_take hr (Nat.le_refl _) rfl (fun _ => pa0) (pda_cons (pd_var 0) (pda_cons (pd_int) (pda_nil))))) (pda_nil)))) (pda_cons (pd_fun h_law_of hr (Nat.le_refl _) rfl (fun _ => pa0) (pda_cons (pd_var 0) (pda_cons (PDF.pd (pf_lst (pda_cons (pd_int) (pda_cons (pd_int) (pda_cons (pd_op od_pow ⟨hK⟩ (pd_int) (pd_int)) (pda_nil)))))) (pda_nil)))) (pda_nil)))) (pdss_cons (pds_par (i := 4) (j := 5) rfl sc_law_right.nd rfl rfl (by decide) rfl rfl (pda_cons (pd_fun h_law_strewn hr (Nat.le_refl _) rfl (fun _ => pa0) (pda_cons (pd_var 0) (pda_cons (pd_var 2) (pda_cons (pd_int) (pda_cons (pd_var 3) (pda_nil)))))) (pda_cons (pd_fun h_law_strewn hr (Nat.le_refl _) rfl (fun _ => pa0) (pda_cons (pd_var 0) (pda_cons (pd_var 2) (pda_cons (pd_int) (pda_cons (pd_var 3) (pda_nil)))))) (pda_nil)))) (pdss_cons (pds_if (pdt_cmp (od_eq (hu64 hr)) ⟨hK⟩ (pd_fun h_law_take hr (Nat.le_refl _) rfl (fun _ => pa0) (pda_cons (pd_var 0) (pda_cons (pd_int) (pda_nil)))) (pd_int) (by first | exact nomark _ | rfl)) (pdss_one (pds_set (i := 4) sc_law_right.nd rfl (by first | exact Or.inl rfl | exact Or.inr rfl) (pd_op od_add ⟨hK⟩ (pd_var 4) (pd_var 5)))) (pdss_nil)) (pdss_cons (pds_if (pdt_cmp (od_eq (hu64 hr)) ⟨hK⟩ (pd_fun h_law_take hr (Nat.le_refl _) rfl (fun _ => pa0) (pda_cons (pd_var 0) (pda_cons (pd_int) (pda_nil)))) (pd_int) (by first | exact nomark _ | rfl)) (pdss_one (pds_set (i := 5) sc_law_right.nd rfl (by first | exact Or.inl rfl | exact Or.inr rfl) (pd_rev ⟨hK⟩ (pd_var 4) (pd_neg (pd_int))))) (pdss_nil)) (pdss_one (pds_if (pdt_not (pdt_val (pd_fun h_law_case_right hr (Nat.le_refl _) rfl (fun _ => pa0) (pda_cons (pd_fun h_law_of hr (Nat.le_refl _) rfl (fun _ => pa0) (pda_cons (pd_var 0) (pda_cons (pd_var 2) (pda_nil)))) (pda_cons (pd_var 4) (pda_cons (pd_fun h_law_of hr (Nat.le_refl _) rfl (fun _ => pa0) (pda_cons (pd_var 0) (pda_cons (pd_var 2) (pda_nil)))) (pda_cons (pd_var 5) (pda_nil)))))))) (pdss_one (pds_ret (pd_bl))) (pdss_nil)))))))) (pdss_one (pds_ret (pd_bl)))) (fun ds n k ke h => himp_right6 ds n k ke h rfl)
theorem se_Still : FnScope ["self", "place"] ["self", "place"] (defScope (mem 2 0)) := ⟨rfl, rfl, rfl, by decide +kernel, rfl, by decide +kernel, by decide +kernel⟩
theorem oe_Still {f C fI : Addr} {fd : FuncData} {k : Nat} (F : Fun K "__init__" "Still.__init__" (mem 2 0) f fd) : FnOk P w K mg base CX0 (k + 1) f fd ["self", "place"] (spErr K C fI ["place"]) :=
  err1 F se_Still fun cdv A outer s H E => pss_one (ps_ox (pv 0) (pv 1))
theorem se_Below : FnScope ["self", "one", "other", "number"] ["self", "one", "other", "number"] (defScope (mem 3 0)) := ⟨rfl, rfl, rfl, by decide +kernel, rfl, by decide +kernel, by decide +kernel⟩
theorem oe_Below {f C fI : Addr} {fd : FuncData} {k : Nat} (F : Fun K "__init__" "Below.__init__" (mem 3 0) f fd) : FnOk P w K mg base CX0 (k + 1) f fd ["self", "one", "other", "number"] (spErr K C fI ["one", "other", "number"]) :=
  err3 F se_Below fun cdv A outer s H E => pss_cons (ps_ox (pv 0) (pv 1)) (pss_cons (ps_ox (pv 0) (pv 2)) (pss_one (ps_ox (pv 0) (pv 3))))
theorem se_Short : FnScope ["self", "one", "other", "lacking"] ["self", "one", "other", "lacking"] (defScope (mem 4 0)) := ⟨rfl, rfl, rfl, by decide +kernel, rfl, by decide +kernel, by decide +kernel⟩
theorem oe_Short {f C fI : Addr} {fd : FuncData} {k : Nat} (F : Fun K "__init__" "Short.__init__" (mem 4 0) f fd) : FnOk P w K mg base CX0 (k + 1) f fd ["self", "one", "other", "lacking"] (spErr K C fI ["one", "other", "lacking"]) :=
  err3 F se_Short fun cdv A outer s H E => pss_cons (ps_ox (pv 0) (pv 1)) (pss_cons (ps_ox (pv 0) (pv 2)) (pss_one (ps_ox (pv 0) (pv 3))))
end
end K06
namespace K06
open PySem PySem.Spec PyProof.Rows L2 CS RM
theorem all_mk {l : PySem.W.OpenLaw} {w : World} {K : PySem.W.Frag} {h : Heap} {mg : Str → Option Value} {fa f1 f2 f3 f4 f5 f6 f7 f8 f9 f10 f11 f12 f13 f14 f15 f16 f17 f18 : Addr} (X : K.In h) (G : h.Ns mainGlobals mg) (hfa : mg "law" = some (.ref fa))
    {od1 an1 od2 an2 od3 an3 od4 an4 od5 an5 od6 an6 od7 an7 od8 an8 od9 an9 od10 an10 od11 an11 od12 an12 od13 an13 od14 an14 od15 an15 od16 an16 od17 an17 od18 an18 : Option Addr} {sl1 sl2 sl3 sl4 sl5 sl6 sl7 sl8 sl9 sl10 sl11 sl12 sl13 sl14 sl15 sl16 sl17 sl18 : Array (Option Value)} {oc1 kV1 dc1 pm1 cd1 ct1 oc2 kV2 dc2 pm2 cd2 ct2 oc3 kV3 dc3 pm3 cd3 ct3 oc4 kV4 dc4 pm4 cd4 ct4 oc5 kV5 dc5 pm5 cd5 ct5 oc6 kV6 dc6 pm6 cd6 ct6 oc7 kV7 dc7 pm7 cd7 ct7 oc8 kV8 dc8 pm8 cd8 ct8 oc9 kV9 dc9 pm9 cd9 ct9 oc10 kV10 dc10 pm10 cd10 ct10 oc11 kV11 dc11 pm11 cd11 ct11 oc12 kV12 dc12 pm12 cd12 ct12 oc13 kV13 dc13 pm13 cd13 ct13 oc14 kV14 dc14 pm14 cd14 ct14 oc15 kV15 dc15 pm15 cd15 ct15 oc16 kV16 dc16 pm16 cd16 ct16 oc17 kV17 dc17 pm17 cd17 ct17 oc18 kV18 dc18 pm18 cd18 ct18 : Value}
    (a1 : PySem.W.nsIn K mainGlobals "check_steps" = some (some (.ref f1))) (l1 : K.lookup f1 = some ⟨oc1, od1, .func (PySem.W.fnOf "check_steps" "check_steps" (defArgs (top 8)) (defBody (top 8)) (defScope (top 8)) .none kV1 dc1 pm1 an1 cd1 ct1), sl1⟩) (c1 : PySem.W.codeIn K cd1 "check_steps" = true) (k1 : PySem.W.keepIn K (.ref f1) = true)
    (a2 : PySem.W.nsIn K mainGlobals "added_up" = some (some (.ref f2))) (l2 : K.lookup f2 = some ⟨oc2, od2, .func (PySem.W.fnOf "added_up" "added_up" (defArgs (top 9)) (defBody (top 9)) (defScope (top 9)) .none kV2 dc2 pm2 an2 cd2 ct2), sl2⟩) (c2 : PySem.W.codeIn K cd2 "added_up" = true) (k2 : PySem.W.keepIn K (.ref f2) = true)
    (a3 : PySem.W.nsIn K mainGlobals "_law_box" = some (some (.ref f3))) (l3 : K.lookup f3 = some ⟨oc3, od3, .func (PySem.W.fnOf "_law_box" "_law_box" (defArgs sBox) (defBody sBox) (defScope sBox) .none kV3 dc3 pm3 an3 cd3 ct3), sl3⟩) (c3 : PySem.W.codeIn K cd3 "_law_box" = true) (k3 : PySem.W.keepIn K (.ref f3) = true)
    (a4 : PySem.W.nsIn K mainGlobals "_law_take" = some (some (.ref f4))) (l4 : K.lookup f4 = some ⟨oc4, od4, .func (PySem.W.fnOf "_law_take" "_law_take" (defArgs sTake) (defBody sTake) (defScope sTake) .none kV4 dc4 pm4 an4 cd4 ct4), sl4⟩) (c4 : PySem.W.codeIn K cd4 "_law_take" = true) (k4 : PySem.W.keepIn K (.ref f4) = true)
    (a5 : PySem.W.nsIn K mainGlobals "_law_cells" = some (some (.ref f5))) (l5 : K.lookup f5 = some ⟨oc5, od5, .func (PySem.W.fnOf "_law_cells" "_law_cells" (defArgs sCells) (defBody sCells) (defScope sCells) .none kV5 dc5 pm5 an5 cd5 ct5), sl5⟩) (c5 : PySem.W.codeIn K cd5 "_law_cells" = true) (k5 : PySem.W.keepIn K (.ref f5) = true)
    (a6 : PySem.W.nsIn K mainGlobals "_law_of" = some (some (.ref f6))) (l6 : K.lookup f6 = some ⟨oc6, od6, .func (PySem.W.fnOf "_law_of" "_law_of" (defArgs (top 15)) (defBody (top 15)) (defScope (top 15)) .none kV6 dc6 pm6 an6 cd6 ct6), sl6⟩) (c6 : PySem.W.codeIn K cd6 "_law_of" = true) (k6 : PySem.W.keepIn K (.ref f6) = true)
    (a7 : PySem.W.nsIn K mainGlobals "_law_pick" = some (some (.ref f7))) (l7 : K.lookup f7 = some ⟨oc7, od7, .func (PySem.W.fnOf "_law_pick" "_law_pick" (defArgs (top 16)) (defBody (top 16)) (defScope (top 16)) .none kV7 dc7 pm7 an7 cd7 ct7), sl7⟩) (c7 : PySem.W.codeIn K cd7 "_law_pick" = true) (k7 : PySem.W.keepIn K (.ref f7) = true)
    (a8 : PySem.W.nsIn K mainGlobals "_law_same" = some (some (.ref f8))) (l8 : K.lookup f8 = some ⟨oc8, od8, .func (PySem.W.fnOf "_law_same" "_law_same" (defArgs sSame) (defBody sSame) (defScope sSame) .none kV8 dc8 pm8 an8 cd8 ct8), sl8⟩) (c8 : PySem.W.codeIn K cd8 "_law_same" = true) (k8 : PySem.W.keepIn K (.ref f8) = true)
    (a9 : PySem.W.nsIn K mainGlobals "_law_tags" = some (some (.ref f9))) (l9 : K.lookup f9 = some ⟨oc9, od9, .func (PySem.W.fnOf "_law_tags" "_law_tags" (defArgs (top 18)) (defBody (top 18)) (defScope (top 18)) .none kV9 dc9 pm9 an9 cd9 ct9), sl9⟩) (c9 : PySem.W.codeIn K cd9 "_law_tags" = true) (k9 : PySem.W.keepIn K (.ref f9) = true)
    (a10 : PySem.W.nsIn K mainGlobals "_law_strewn" = some (some (.ref f10))) (l10 : K.lookup f10 = some ⟨oc10, od10, .func (PySem.W.fnOf "_law_strewn" "_law_strewn" (defArgs (top 19)) (defBody (top 19)) (defScope (top 19)) .none kV10 dc10 pm10 an10 cd10 ct10), sl10⟩) (c10 : PySem.W.codeIn K cd10 "_law_strewn" = true) (k10 : PySem.W.keepIn K (.ref f10) = true)
    (a11 : PySem.W.nsIn K mainGlobals "_law_summed" = some (some (.ref f11))) (l11 : K.lookup f11 = some ⟨oc11, od11, .func (PySem.W.fnOf "_law_summed" "_law_summed" (defArgs (top 20)) (defBody (top 20)) (defScope (top 20)) .none kV11 dc11 pm11 an11 cd11 ct11), sl11⟩) (c11 : PySem.W.codeIn K cd11 "_law_summed" = true) (k11 : PySem.W.keepIn K (.ref f11) = true)
    (a12 : PySem.W.nsIn K mainGlobals "_law_heard" = some (some (.ref f12))) (l12 : K.lookup f12 = some ⟨oc12, od12, .func (PySem.W.fnOf "_law_heard" "_law_heard" (defArgs (top 21)) (defBody (top 21)) (defScope (top 21)) .none kV12 dc12 pm12 an12 cd12 ct12), sl12⟩) (c12 : PySem.W.codeIn K cd12 "_law_heard" = true) (k12 : PySem.W.keepIn K (.ref f12) = true)
    (a13 : PySem.W.nsIn K mainGlobals "_law_taken" = some (some (.ref f13))) (l13 : K.lookup f13 = some ⟨oc13, od13, .func (PySem.W.fnOf "_law_taken" "_law_taken" (defArgs (top 22)) (defBody (top 22)) (defScope (top 22)) .none kV13 dc13 pm13 an13 cd13 ct13), sl13⟩) (c13 : PySem.W.codeIn K cd13 "_law_taken" = true) (k13 : PySem.W.keepIn K (.ref f13) = true)
    (a14 : PySem.W.nsIn K mainGlobals "_law_case_right" = some (some (.ref f14))) (l14 : K.lookup f14 = some ⟨oc14, od14, .func (PySem.W.fnOf "_law_case_right" "_law_case_right" (defArgs (top 23)) (defBody (top 23)) (defScope (top 23)) .none kV14 dc14 pm14 an14 cd14 ct14), sl14⟩) (c14 : PySem.W.codeIn K cd14 "_law_case_right" = true) (k14 : PySem.W.keepIn K (.ref f14) = true)
    (a15 : PySem.W.nsIn K mainGlobals "_law_refused" = some (some (.ref f15))) (l15 : K.lookup f15 = some ⟨oc15, od15, .func (PySem.W.fnOf "_law_refused" "_law_refused" (defArgs (top 24)) (defBody (top 24)) (defScope (top 24)) .none kV15 dc15 pm15 an15 cd15 ct15), sl15⟩) (c15 : PySem.W.codeIn K cd15 "_law_refused" = true) (k15 : PySem.W.keepIn K (.ref f15) = true)
    (a16 : PySem.W.nsIn K mainGlobals "_law_by_hand_right" = some (some (.ref f16))) (l16 : K.lookup f16 = some ⟨oc16, od16, .func (PySem.W.fnOf "_law_by_hand_right" "_law_by_hand_right" (defArgs (top 25)) (defBody (top 25)) (defScope (top 25)) .none kV16 dc16 pm16 an16 cd16 ct16), sl16⟩) (c16 : PySem.W.codeIn K cd16 "_law_by_hand_right" = true) (k16 : PySem.W.keepIn K (.ref f16) = true)
    (a17 : PySem.W.nsIn K mainGlobals "_law_right" = some (some (.ref f17))) (l17 : K.lookup f17 = some ⟨oc17, od17, .func (PySem.W.fnOf "_law_right" "_law_right" (defArgs (top 26)) (defBody (top 26)) (defScope (top 26)) .none kV17 dc17 pm17 an17 cd17 ct17), sl17⟩) (c17 : PySem.W.codeIn K cd17 "_law_right" = true) (k17 : PySem.W.keepIn K (.ref f17) = true)
    (a18 : PySem.W.nsIn K mainGlobals "law" = some (some (.ref f18))) (l18 : K.lookup f18 = some ⟨oc18, od18, .func (PySem.W.fnOf "law" "law" (defArgs sLaw) (defBody sLaw) (defScope sLaw) .none kV18 dc18 pm18 an18 cd18 ct18), sl18⟩) (c18 : PySem.W.codeIn K cd18 "law" = true) (k18 : PySem.W.keepIn K (.ref f18) = true)
    (z1 : PySem.W.nsIn K mainGlobals "len" = some none)
    (z2 : PySem.W.nsIn K mainGlobals "sum" = some none)
    (z3 : PySem.W.nsIn K mainGlobals "all" = some none)
    (z4 : PySem.W.nsIn K mainGlobals "any" = some none)
    (z5 : PySem.W.nsIn K mainGlobals "min" = some none)
    (z6 : PySem.W.nsIn K mainGlobals "max" = some none)
    (z7 : PySem.W.nsIn K mainGlobals "sorted" = some none)
    (z8 : PySem.W.nsIn K mainGlobals "tuple" = some none)
    (z9 : PySem.W.nsIn K mainGlobals "list" = some none)
    (z10 : PySem.W.nsIn K mainGlobals "set" = some none)
    (z11 : PySem.W.nsIn K mainGlobals "dict" = some none)
    (z12 : PySem.W.nsIn K mainGlobals "range" = some none)
    (z13 : PySem.W.nsIn K mainGlobals "zip" = some none)
    (z14 : PySem.W.nsIn K mainGlobals "enumerate" = some none)
    (z15 : PySem.W.nsIn K mainGlobals "isinstance" = some none)
    (z16 : PySem.W.nsIn K mainGlobals "abs" = some none)
    (z17 : PySem.W.nsIn K mainGlobals "int" = some none)
    (z18 : PySem.W.nsIn K mainGlobals "str" = some none)
    (z19 : PySem.W.nsIn K mainGlobals "repr" = some none)
    (z20 : PySem.W.nsIn K mainGlobals "bool" = some none)
    (z21 : PySem.W.nsIn K mainGlobals "ValueError" = some none)
    (z22 : PySem.W.nsIn K mainGlobals "LookupError" = some none)
    {x_Counts : Addr} (a_Counts : PySem.W.nsIn K mainGlobals "Counts" = some (some (.ref x_Counts)))
    {f_Counts__init_ : Addr} (i_Counts__init_ : PySem.W.findIn K (.ref x_Counts) "__init__" = some (some (.ref f_Counts__init_)))
    {T_Counts__init_ : Addr} {oc_Counts__init_ : Value} {od_Counts__init_ : Option Addr} {kV_Counts__init_ dc_Counts__init_ pm_Counts__init_ : Value} {an_Counts__init_ : Option Addr} {cd_Counts__init_ ct_Counts__init_ : Value} {sl_Counts__init_ : Array (Option Value)} (l_Counts__init_ : K.lookup f_Counts__init_ = some ⟨oc_Counts__init_, od_Counts__init_, .func (PySem.W.fnOf "__init__" "Counts.__init__" (defArgs (mem 10 0)) (defBody (mem 10 0)) (defScope (mem 10 0)) (.ref T_Counts__init_) kV_Counts__init_ dc_Counts__init_ pm_Counts__init_ an_Counts__init_ cd_Counts__init_ ct_Counts__init_), sl_Counts__init_⟩)
     (c_Counts__init_ : PySem.W.codeIn K cd_Counts__init_ "Counts.__init__" = true)
     (k_Counts__init_ : PySem.W.keepIn K (.ref f_Counts__init_) = true)
    {E_Counts__init_ : Addr} {tc_Counts__init_ : Value} {tn_Counts__init_ : Nat} {td_Counts__init_ : Option Addr} {ts_Counts__init_ : Array (Option Value)} (lT_Counts__init_ : K.lookup T_Counts__init_ = some ⟨tc_Counts__init_, td_Counts__init_, .seq #[.ref E_Counts__init_] tn_Counts__init_, ts_Counts__init_⟩)
    {em_Counts__init_ : Nat} {ed_Counts__init_ : Option Addr} {es_Counts__init_ : Array (Option Value)} (lE_Counts__init_ : K.lookup E_Counts__init_ = some ⟨.type "tuple", ed_Counts__init_, .seq #[] em_Counts__init_, es_Counts__init_⟩)
    {p_Counts_start : Addr} (pa_Counts_start : PySem.W.findIn K (.ref x_Counts) "start" = some (some (.ref p_Counts_start)))
    {f_Counts_start : Addr} {rest_Counts_start : List Value} (r_Counts_start : PySem.W.recIn K p_Counts_start "property" = some (.ref f_Counts_start :: rest_Counts_start))
    {oc_Counts_start : Value} {od_Counts_start : Option Addr} {kV_Counts_start dc_Counts_start pm_Counts_start : Value} {an_Counts_start : Option Addr} {cd_Counts_start ct_Counts_start : Value} {sl_Counts_start : Array (Option Value)} (l_Counts_start : K.lookup f_Counts_start = some ⟨oc_Counts_start, od_Counts_start, .func (PySem.W.fnOf "start" "Counts.start" (defArgs (mem 10 2)) (defBody (mem 10 2)) (defScope (mem 10 2)) .none kV_Counts_start dc_Counts_start pm_Counts_start an_Counts_start cd_Counts_start ct_Counts_start), sl_Counts_start⟩)
     (c_Counts_start : PySem.W.codeIn K cd_Counts_start "Counts.start" = true)
     (k_Counts_start : PySem.W.keepIn K (.ref f_Counts_start) = true)
     (b_Counts_start : prB K x_Counts "start" p_Counts_start f_Counts_start rest_Counts_start = true)
    {p_Counts_steps : Addr} (pa_Counts_steps : PySem.W.findIn K (.ref x_Counts) "steps" = some (some (.ref p_Counts_steps)))
    {f_Counts_steps : Addr} {rest_Counts_steps : List Value} (r_Counts_steps : PySem.W.recIn K p_Counts_steps "property" = some (.ref f_Counts_steps :: rest_Counts_steps))
    {oc_Counts_steps : Value} {od_Counts_steps : Option Addr} {kV_Counts_steps dc_Counts_steps pm_Counts_steps : Value} {an_Counts_steps : Option Addr} {cd_Counts_steps ct_Counts_steps : Value} {sl_Counts_steps : Array (Option Value)} (l_Counts_steps : K.lookup f_Counts_steps = some ⟨oc_Counts_steps, od_Counts_steps, .func (PySem.W.fnOf "steps" "Counts.steps" (defArgs (mem 10 3)) (defBody (mem 10 3)) (defScope (mem 10 3)) .none kV_Counts_steps dc_Counts_steps pm_Counts_steps an_Counts_steps cd_Counts_steps ct_Counts_steps), sl_Counts_steps⟩)
     (c_Counts_steps : PySem.W.codeIn K cd_Counts_steps "Counts.steps" = true)
     (k_Counts_steps : PySem.W.keepIn K (.ref f_Counts_steps) = true)
     (b_Counts_steps : prB K x_Counts "steps" p_Counts_steps f_Counts_steps rest_Counts_steps = true)
    {f_Counts__getitem_ : Addr} (i_Counts__getitem_ : PySem.W.findIn K (.ref x_Counts) "__getitem__" = some (some (.ref f_Counts__getitem_)))
    {oc_Counts__getitem_ : Value} {od_Counts__getitem_ : Option Addr} {kV_Counts__getitem_ dc_Counts__getitem_ pm_Counts__getitem_ : Value} {an_Counts__getitem_ : Option Addr} {cd_Counts__getitem_ ct_Counts__getitem_ : Value} {sl_Counts__getitem_ : Array (Option Value)} (l_Counts__getitem_ : K.lookup f_Counts__getitem_ = some ⟨oc_Counts__getitem_, od_Counts__getitem_, .func (PySem.W.fnOf "__getitem__" "Counts.__getitem__" (defArgs (mem 10 7)) (defBody (mem 10 7)) (defScope (mem 10 7)) .none kV_Counts__getitem_ dc_Counts__getitem_ pm_Counts__getitem_ an_Counts__getitem_ cd_Counts__getitem_ ct_Counts__getitem_), sl_Counts__getitem_⟩)
     (c_Counts__getitem_ : PySem.W.codeIn K cd_Counts__getitem_ "Counts.__getitem__" = true)
     (k_Counts__getitem_ : PySem.W.keepIn K (.ref f_Counts__getitem_) = true)
     (b_Counts__getitem_ : mtB K x_Counts "__getitem__" f_Counts__getitem_ = true)
    {f_Counts_begun : Addr} (i_Counts_begun : PySem.W.findIn K (.ref x_Counts) "begun" = some (some (.ref f_Counts_begun)))
    {oc_Counts_begun : Value} {od_Counts_begun : Option Addr} {kV_Counts_begun dc_Counts_begun pm_Counts_begun : Value} {an_Counts_begun : Option Addr} {cd_Counts_begun ct_Counts_begun : Value} {sl_Counts_begun : Array (Option Value)} (l_Counts_begun : K.lookup f_Counts_begun = some ⟨oc_Counts_begun, od_Counts_begun, .func (PySem.W.fnOf "begun" "Counts.begun" (defArgs (mem 10 14)) (defBody (mem 10 14)) (defScope (mem 10 14)) .none kV_Counts_begun dc_Counts_begun pm_Counts_begun an_Counts_begun cd_Counts_begun ct_Counts_begun), sl_Counts_begun⟩)
     (c_Counts_begun : PySem.W.codeIn K cd_Counts_begun "Counts.begun" = true)
     (k_Counts_begun : PySem.W.keepIn K (.ref f_Counts_begun) = true)
     (b_Counts_begun : mtB K x_Counts "begun" f_Counts_begun = true)
    {f_Counts__eq_ : Addr} (i_Counts__eq_ : PySem.W.findIn K (.ref x_Counts) "__eq__" = some (some (.ref f_Counts__eq_)))
    {oc_Counts__eq_ : Value} {od_Counts__eq_ : Option Addr} {kV_Counts__eq_ dc_Counts__eq_ pm_Counts__eq_ : Value} {an_Counts__eq_ : Option Addr} {cd_Counts__eq_ ct_Counts__eq_ : Value} {sl_Counts__eq_ : Array (Option Value)} (l_Counts__eq_ : K.lookup f_Counts__eq_ = some ⟨oc_Counts__eq_, od_Counts__eq_, .func (PySem.W.fnOf "__eq__" "Counts.__eq__" (defArgs (mem 10 16)) (defBody (mem 10 16)) (defScope (mem 10 16)) .none kV_Counts__eq_ dc_Counts__eq_ pm_Counts__eq_ an_Counts__eq_ cd_Counts__eq_ ct_Counts__eq_), sl_Counts__eq_⟩)
     (c_Counts__eq_ : PySem.W.codeIn K cd_Counts__eq_ "Counts.__eq__" = true)
     (k_Counts__eq_ : PySem.W.keepIn K (.ref f_Counts__eq_) = true)
     (b_Counts__eq_ : mtB K x_Counts "__eq__" f_Counts__eq_ = true)
    {f_Counts__add_ : Addr} (i_Counts__add_ : PySem.W.findIn K (.ref x_Counts) "__add__" = some (some (.ref f_Counts__add_)))
    {oc_Counts__add_ : Value} {od_Counts__add_ : Option Addr} {kV_Counts__add_ dc_Counts__add_ pm_Counts__add_ : Value} {an_Counts__add_ : Option Addr} {cd_Counts__add_ ct_Counts__add_ : Value} {sl_Counts__add_ : Array (Option Value)} (l_Counts__add_ : K.lookup f_Counts__add_ = some ⟨oc_Counts__add_, od_Counts__add_, .func (PySem.W.fnOf "__add__" "Counts.__add__" (defArgs (mem 10 17)) (defBody (mem 10 17)) (defScope (mem 10 17)) .none kV_Counts__add_ dc_Counts__add_ pm_Counts__add_ an_Counts__add_ cd_Counts__add_ ct_Counts__add_), sl_Counts__add_⟩)
     (c_Counts__add_ : PySem.W.codeIn K cd_Counts__add_ "Counts.__add__" = true)
     (k_Counts__add_ : PySem.W.keepIn K (.ref f_Counts__add_) = true)
     (b_Counts__add_ : mtB K x_Counts "__add__" f_Counts__add_ = true)
    {f_Counts__sub_ : Addr} (i_Counts__sub_ : PySem.W.findIn K (.ref x_Counts) "__sub__" = some (some (.ref f_Counts__sub_)))
    {oc_Counts__sub_ : Value} {od_Counts__sub_ : Option Addr} {kV_Counts__sub_ dc_Counts__sub_ pm_Counts__sub_ : Value} {an_Counts__sub_ : Option Addr} {cd_Counts__sub_ ct_Counts__sub_ : Value} {sl_Counts__sub_ : Array (Option Value)} (l_Counts__sub_ : K.lookup f_Counts__sub_ = some ⟨oc_Counts__sub_, od_Counts__sub_, .func (PySem.W.fnOf "__sub__" "Counts.__sub__" (defArgs (mem 10 18)) (defBody (mem 10 18)) (defScope (mem 10 18)) .none kV_Counts__sub_ dc_Counts__sub_ pm_Counts__sub_ an_Counts__sub_ cd_Counts__sub_ ct_Counts__sub_), sl_Counts__sub_⟩)
     (c_Counts__sub_ : PySem.W.codeIn K cd_Counts__sub_ "Counts.__sub__" = true)
     (k_Counts__sub_ : PySem.W.keepIn K (.ref f_Counts__sub_) = true)
     (b_Counts__sub_ : mtB K x_Counts "__sub__" f_Counts__sub_ = true)
     (mk_Counts : mkB K x_Counts f_Counts__init_ = true)
     (in_Counts : inB K x_Counts = true)
     (kn_Counts : knB K x_Counts = true)
     (ne_Counts : neB K x_Counts = true)
     (no_Counts : noB K x_Counts ["_start", "_steps", "_many", "__iadd__", "__isub__"] = true)
     (ro_Counts : mroB K x_Counts = true)
     (sf_Counts : PySem.W.selfFirst K x_Counts = true)
    {x_Still : Addr} (a_Still : PySem.W.nsIn K mainGlobals "Still" = some (some (.ref x_Still)))
    {f_EStill : Addr} (i_EStill : PySem.W.findIn K (.ref x_Still) "__init__" = some (some (.ref f_EStill)))
    {oc_EStill : Value} {od_EStill : Option Addr} {kV_EStill dc_EStill pm_EStill : Value} {an_EStill : Option Addr} {cd_EStill ct_EStill : Value} {sl_EStill : Array (Option Value)} (l_EStill : K.lookup f_EStill = some ⟨oc_EStill, od_EStill, .func (PySem.W.fnOf "__init__" "Still.__init__" (defArgs (mem 2 0)) (defBody (mem 2 0)) (defScope (mem 2 0)) .none kV_EStill dc_EStill pm_EStill an_EStill cd_EStill ct_EStill), sl_EStill⟩)
     (c_EStill : PySem.W.codeIn K cd_EStill "Still.__init__" = true)
     (k_EStill : PySem.W.keepIn K (.ref f_EStill) = true)
    {nm_Still q_Still : Str} {N_Still : Addr} {bs_Still : List Value} {sn_Still : List Str} {sub_Still : List Value} {ab_Still : Bool} {col_Still : Option Bool} {dd_Still : Option Addr} {u0_Still u1_Still u2_Still u3_Still u5_Still : Option Value} (xl_Still : K.lookup x_Still = some (excClassObj nm_Still q_Still x_Still N_Still bs_Still [.type "ValueError", .type "Exception", .type "BaseException", .type "object"] true sn_Still sub_Still ab_Still col_Still dd_Still u0_Still u1_Still u2_Still u3_Still u5_Still "ValueError.__new__"))
     (eb_Still : erB K x_Still f_EStill ["place"] [.type "ValueError", .type "Exception", .type "BaseException", .type "object"] = true)
    {x_Below : Addr} (a_Below : PySem.W.nsIn K mainGlobals "Below" = some (some (.ref x_Below)))
    {f_EBelow : Addr} (i_EBelow : PySem.W.findIn K (.ref x_Below) "__init__" = some (some (.ref f_EBelow)))
    {oc_EBelow : Value} {od_EBelow : Option Addr} {kV_EBelow dc_EBelow pm_EBelow : Value} {an_EBelow : Option Addr} {cd_EBelow ct_EBelow : Value} {sl_EBelow : Array (Option Value)} (l_EBelow : K.lookup f_EBelow = some ⟨oc_EBelow, od_EBelow, .func (PySem.W.fnOf "__init__" "Below.__init__" (defArgs (mem 3 0)) (defBody (mem 3 0)) (defScope (mem 3 0)) .none kV_EBelow dc_EBelow pm_EBelow an_EBelow cd_EBelow ct_EBelow), sl_EBelow⟩)
     (c_EBelow : PySem.W.codeIn K cd_EBelow "Below.__init__" = true)
     (k_EBelow : PySem.W.keepIn K (.ref f_EBelow) = true)
    {nm_Below q_Below : Str} {N_Below : Addr} {bs_Below : List Value} {sn_Below : List Str} {sub_Below : List Value} {ab_Below : Bool} {col_Below : Option Bool} {dd_Below : Option Addr} {u0_Below u1_Below u2_Below u3_Below u5_Below : Option Value} (xl_Below : K.lookup x_Below = some (excClassObj nm_Below q_Below x_Below N_Below bs_Below [.type "ValueError", .type "Exception", .type "BaseException", .type "object"] true sn_Below sub_Below ab_Below col_Below dd_Below u0_Below u1_Below u2_Below u3_Below u5_Below "ValueError.__new__"))
     (eb_Below : erB K x_Below f_EBelow ["one", "other", "number"] [.type "ValueError", .type "Exception", .type "BaseException", .type "object"] = true)
    {x_Short : Addr} (a_Short : PySem.W.nsIn K mainGlobals "Short" = some (some (.ref x_Short)))
    {f_EShort : Addr} (i_EShort : PySem.W.findIn K (.ref x_Short) "__init__" = some (some (.ref f_EShort)))
    {oc_EShort : Value} {od_EShort : Option Addr} {kV_EShort dc_EShort pm_EShort : Value} {an_EShort : Option Addr} {cd_EShort ct_EShort : Value} {sl_EShort : Array (Option Value)} (l_EShort : K.lookup f_EShort = some ⟨oc_EShort, od_EShort, .func (PySem.W.fnOf "__init__" "Short.__init__" (defArgs (mem 4 0)) (defBody (mem 4 0)) (defScope (mem 4 0)) .none kV_EShort dc_EShort pm_EShort an_EShort cd_EShort ct_EShort), sl_EShort⟩)
     (c_EShort : PySem.W.codeIn K cd_EShort "Short.__init__" = true)
     (k_EShort : PySem.W.keepIn K (.ref f_EShort) = true)
    {nm_Short q_Short : Str} {N_Short : Addr} {bs_Short : List Value} {sn_Short : List Str} {sub_Short : List Value} {ab_Short : Bool} {col_Short : Option Bool} {dd_Short : Option Addr} {u0_Short u1_Short u2_Short u3_Short u5_Short : Option Value} (xl_Short : K.lookup x_Short = some (excClassObj nm_Short q_Short x_Short N_Short bs_Short [.type "ValueError", .type "Exception", .type "BaseException", .type "object"] true sn_Short sub_Short ab_Short col_Short dd_Short u0_Short u1_Short u2_Short u3_Short u5_Short "ValueError.__new__"))
     (eb_Short : erB K x_Short f_EShort ["one", "other", "lacking"] [.type "ValueError", .type "Exception", .type "BaseException", .type "object"] = true)
     (erx : erxB K [(cStill, x_Still), (cBelow, x_Below), (cShort, x_Short)] ["place", "one", "other", "number", "lacking"] (fun c => decide (c ≠ 0)) = true) :
    ∃ fd : FuncData, (∀ (s : Shared) (v : Value), BindsTo s fd ⟨[v], []⟩ [("_law_script", v)]) ∧ ∀ base : Heap, K.In base → base.Ns mainGlobals mg → FnOk l.prog w K mg base CX0 11 fa fd ["_law_script"] (spLaw K) := by
  have e := hfa.symm.trans (PySem.W.mg_of X G a18)
  cases e
  have F1 := fun_mk (st := (top 8)) l1 c1 k1
  have b1 := F1.binds (ps := ["steps"]) fun _ _ _ _ _ _ us hl => match us, hl with | [_], _ => rfl
  have m1 := PySem.W.mg_of X G a1
  have F2 := fun_mk (st := (top 9)) l2 c2 k2
  have b2 := F2.binds (ps := ["steps"]) fun _ _ _ _ _ _ us hl => match us, hl with | [_], _ => rfl
  have m2 := PySem.W.mg_of X G a2
  have F3 := fun_mk (st := sBox) l3 c3 k3
  have b3 := F3.binds (ps := ["_law_script", "_law_k"]) fun _ _ _ _ _ _ us hl => match us, hl with | [_, _], _ => rfl
  have m3 := PySem.W.mg_of X G a3
  have F4 := fun_mk (st := sTake) l4 c4 k4
  have b4 := F4.binds (ps := ["_law_box_here", "_law_below"]) fun _ _ _ _ _ _ us hl => match us, hl with | [_, _], _ => rfl
  have m4 := PySem.W.mg_of X G a4
  have F5 := fun_mk (st := sCells) l5 c5 k5
  have b5 := F5.binds (ps := ["_law_script", "_law_most_so"]) fun _ _ _ _ _ _ us hl => match us, hl with | [_, _], _ => rfl
  have m5 := PySem.W.mg_of X G a5
  have F6 := fun_mk (st := (top 15)) l6 c6 k6
  have b6 := F6.binds (ps := ["_law_box_here", "_law_some"]) fun _ _ _ _ _ _ us hl => match us, hl with | [_, _], _ => rfl
  have m6 := PySem.W.mg_of X G a6
  have F7 := fun_mk (st := (top 16)) l7 c7 k7
  have b7 := F7.binds (ps := ["_law_box_here", "_law_pool_so", "_law_many_so"]) fun _ _ _ _ _ _ us hl => match us, hl with | [_, _, _], _ => rfl
  have m7 := PySem.W.mg_of X G a7
  have F8 := fun_mk (st := sSame) l8 c8 k8
  have b8 := F8.binds (ps := ["_law_got", "_law_due"]) fun _ _ _ _ _ _ us hl => match us, hl with | [_, _], _ => rfl
  have m8 := PySem.W.mg_of X G a8
  have F9 := fun_mk (st := (top 18)) l9 c9 k9
  have b9 := F9.binds (ps := ["_law_box_here", "_law_many_so"]) fun _ _ _ _ _ _ us hl => match us, hl with | [_, _], _ => rfl
  have m9 := PySem.W.mg_of X G a9
  have F10 := fun_mk (st := (top 19)) l10 c10 k10
  have b10 := F10.binds (ps := ["_law_box_here", "_law_tags_here", "_law_most_so", "_law_high_so"]) fun _ _ _ _ _ _ us hl => match us, hl with | [_, _, _, _], _ => rfl
  have m10 := PySem.W.mg_of X G a10
  have F11 := fun_mk (st := (top 20)) l11 c11 k11
  have b11 := F11.binds (ps := ["_law_rows_so"]) fun _ _ _ _ _ _ us hl => match us, hl with | [_], _ => rfl
  have m11 := PySem.W.mg_of X G a11
  have F12 := fun_mk (st := (top 21)) l12 c12 k12
  have b12 := F12.binds (ps := ["_law_made", "_law_its"]) fun _ _ _ _ _ _ us hl => match us, hl with | [_, _], _ => rfl
  have m12 := PySem.W.mg_of X G a12
  have F13 := fun_mk (st := (top 22)) l13 c13 k13
  have b13 := F13.binds (ps := ["_law_first_so", "_law_rows_so", "_law_far_so"]) fun _ _ _ _ _ _ us hl => match us, hl with | [_, _, _], _ => rfl
  have m13 := PySem.W.mg_of X G a13
  have F14 := fun_mk (st := (top 23)) l14 c14 k14
  have b14 := F14.binds (ps := ["_law_first_so", "_law_rows_so", "_law_last_so", "_law_far_so"]) fun _ _ _ _ _ _ us hl => match us, hl with | [_, _, _, _], _ => rfl
  have m14 := PySem.W.mg_of X G a14
  have F15 := fun_mk (st := (top 24)) l15 c15 k15
  have b15 := F15.binds (ps := ["_law_made", "_law_its"]) fun _ _ _ _ _ _ us hl => match us, hl with | [_, _], _ => rfl
  have m15 := PySem.W.mg_of X G a15
  have F16 := fun_mk (st := (top 25)) l16 c16 k16
  have b16 := F16.binds (ps := []) fun _ _ _ _ _ _ us hl => match us, hl with | [], _ => rfl
  have m16 := PySem.W.mg_of X G a16
  have F17 := fun_mk (st := (top 26)) l17 c17 k17
  have b17 := F17.binds (ps := ["_law_box_here"]) fun _ _ _ _ _ _ us hl => match us, hl with | [_], _ => rfl
  have m17 := PySem.W.mg_of X G a17
  have F18 := fun_mk (st := sLaw) l18 c18 k18
  have y1 := PySem.W.mg_none_of X G z1
  have y2 := PySem.W.mg_none_of X G z2
  have y3 := PySem.W.mg_none_of X G z3
  have y4 := PySem.W.mg_none_of X G z4
  have y5 := PySem.W.mg_none_of X G z5
  have y6 := PySem.W.mg_none_of X G z6
  have y7 := PySem.W.mg_none_of X G z7
  have y8 := PySem.W.mg_none_of X G z8
  have y9 := PySem.W.mg_none_of X G z9
  have y10 := PySem.W.mg_none_of X G z10
  have y11 := PySem.W.mg_none_of X G z11
  have y12 := PySem.W.mg_none_of X G z12
  have y13 := PySem.W.mg_none_of X G z13
  have y14 := PySem.W.mg_none_of X G z14
  have y15 := PySem.W.mg_none_of X G z15
  have y16 := PySem.W.mg_none_of X G z16
  have y17 := PySem.W.mg_none_of X G z17
  have y18 := PySem.W.mg_none_of X G z18
  have y19 := PySem.W.mg_none_of X G z19
  have y20 := PySem.W.mg_none_of X G z20
  have y21 := PySem.W.mg_none_of X G z21
  have y22 := PySem.W.mg_none_of X G z22
  have B : Bl mg := ⟨y1, y2, y3, y4, y5, y6, y7, y8, y9, y10, y11, y12, y13, y14, y15, y16, y17, y18, y19, y20, y21, y22⟩
  refine ⟨PySem.W.fnOf "law" "law" (defArgs sLaw) (defBody sLaw) (defScope sLaw) .none kV18 dc18 pm18 an18 cd18 ct18, fun s v => .of_eq rfl, fun base _ _ => ?_⟩
  let g : Glob := ⟨K, fun c => match c with | 20 => x_Counts | 4 => x_Still | 5 => x_Below | 6 => x_Short | _ => x_Counts⟩
  have m_Counts := PySem.W.mg_of X G a_Counts
  have mro_Counts := mroB_ok ro_Counts
  have CC : CntC K (g.cls cCnt) := ⟨clB_ok (K := K) (by have := in_Counts; unfold inB at this; simp only [Bool.and_eq_true] at this; exact this.1), noB_at no_Counts (by decide), noB_at no_Counts (by decide), noB_at no_Counts (by decide)⟩
  have F_Counts__init_ := dfl_unit (oE := ⟨.type "tuple", ed_Counts__init_, .seq #[] em_Counts__init_, es_Counts__init_⟩) (m := em_Counts__init_) (st := (mem 10 0)) l_Counts__init_ c_Counts__init_ k_Counts__init_ lT_Counts__init_ rfl
  have b_all_Counts__init_ : Binds K (PySem.W.fnOf "__init__" "Counts.__init__" (defArgs (mem 10 0)) (defBody (mem 10 0)) (defScope (mem 10 0)) (.ref T_Counts__init_) kV_Counts__init_ dc_Counts__init_ pm_Counts__init_ an_Counts__init_ cd_Counts__init_ ct_Counts__init_) ["self", "start", "steps"] [] := by
    obtain ⟨ds, v, b⟩ := F_Counts__init_.binds1 3 1 (ps := ["self", "start", "steps"]) (by simp) rfl (fun _ _ _ _ _ _ _ us its hu hi => match us, its, hu, hi with | [_, _, _], [_], _, _ => ⟨_, rfl, by rfl⟩)
    cases v
    exact b
  obtain ⟨ds1_Counts__init_, v1_Counts__init_, b_one_Counts__init_⟩ := F_Counts__init_.binds1 2 0 (ps := ["self", "start", "steps"]) (by simp) rfl (fun _ _ _ _ _ _ _ us its hu hi => match us, its, hu, hi with | [_, _], [_], _, _ => ⟨_, rfl, by rfl⟩)
  obtain ⟨u1_Counts__init_, rfl, ru1_Counts__init_⟩ : ∃ u, ds1_Counts__init_ = [u] ∧ RelV (V.ref E_Counts__init_) u := by
    cases v1_Counts__init_ with
    | cons a b =>
      cases b
      exact ⟨_, rfl, a⟩
  have F_Counts_start := fun_mk (st := (mem 10 2)) l_Counts_start c_Counts_start k_Counts_start
  have b_all_Counts_start := F_Counts_start.binds (ps := ["self"]) fun _ _ _ _ _ _ us hl => match us, hl with | [_], _ => rfl
  have F_Counts_steps := fun_mk (st := (mem 10 3)) l_Counts_steps c_Counts_steps k_Counts_steps
  have b_all_Counts_steps := F_Counts_steps.binds (ps := ["self"]) fun _ _ _ _ _ _ us hl => match us, hl with | [_], _ => rfl
  have F_Counts__getitem_ := fun_mk (st := (mem 10 7)) l_Counts__getitem_ c_Counts__getitem_ k_Counts__getitem_
  have b_all_Counts__getitem_ := F_Counts__getitem_.binds (ps := ["self", "at"]) fun _ _ _ _ _ _ us hl => match us, hl with | [_, _], _ => rfl
  have F_Counts_begun := fun_mk (st := (mem 10 14)) l_Counts_begun c_Counts_begun k_Counts_begun
  have b_all_Counts_begun := F_Counts_begun.binds (ps := ["self", "place"]) fun _ _ _ _ _ _ us hl => match us, hl with | [_, _], _ => rfl
  have F_Counts__eq_ := fun_mk (st := (mem 10 16)) l_Counts__eq_ c_Counts__eq_ k_Counts__eq_
  have b_all_Counts__eq_ := F_Counts__eq_.binds (ps := ["self", "other"]) fun _ _ _ _ _ _ us hl => match us, hl with | [_, _], _ => rfl
  have F_Counts__add_ := fun_mk (st := (mem 10 17)) l_Counts__add_ c_Counts__add_ k_Counts__add_
  have b_all_Counts__add_ := F_Counts__add_.binds (ps := ["self", "other"]) fun _ _ _ _ _ _ us hl => match us, hl with | [_, _], _ => rfl
  have F_Counts__sub_ := fun_mk (st := (mem 10 18)) l_Counts__sub_ c_Counts__sub_ k_Counts__sub_
  have b_all_Counts__sub_ := F_Counts__sub_.binds (ps := ["self", "other"]) fun _ _ _ _ _ _ us hl => match us, hl with | [_, _], _ => rfl
  have F_EStill := fun_mk (st := (mem 2 0)) l_EStill c_EStill k_EStill
  have b_EStill := F_EStill.binds (ps := ["self", "place"]) fun _ _ _ _ _ _ us hl => match us, hl with | [_, _], _ => rfl
  have e_Still : HasE l.prog w K mg base g 1 "Still" cStill ["self", "place"] ["place"] := ⟨f_EStill, _, erB_ok PySem.F.excBase_ValueError PySem.F.store_ValueError xl_Still eb_Still, oe_Still (k := 0) F_EStill, b_EStill, PySem.W.mg_of X G a_Still⟩
  have F_EBelow := fun_mk (st := (mem 3 0)) l_EBelow c_EBelow k_EBelow
  have b_EBelow := F_EBelow.binds (ps := ["self", "one", "other", "number"]) fun _ _ _ _ _ _ us hl => match us, hl with | [_, _, _, _], _ => rfl
  have e_Below : HasE l.prog w K mg base g 1 "Below" cBelow ["self", "one", "other", "number"] ["one", "other", "number"] := ⟨f_EBelow, _, erB_ok PySem.F.excBase_ValueError PySem.F.store_ValueError xl_Below eb_Below, oe_Below (k := 0) F_EBelow, b_EBelow, PySem.W.mg_of X G a_Below⟩
  have F_EShort := fun_mk (st := (mem 4 0)) l_EShort c_EShort k_EShort
  have b_EShort := F_EShort.binds (ps := ["self", "one", "other", "lacking"]) fun _ _ _ _ _ _ us hl => match us, hl with | [_, _, _, _], _ => rfl
  have e_Short : HasE l.prog w K mg base g 1 "Short" cShort ["self", "one", "other", "lacking"] ["one", "other", "lacking"] := ⟨f_EShort, _, erB_ok PySem.F.excBase_ValueError PySem.F.store_ValueError xl_Short eb_Short, oe_Short (k := 0) F_EShort, b_EShort, PySem.W.mg_of X G a_Short⟩
  have m_Still := PySem.W.mg_of X G a_Still
  have m_Below := PySem.W.mg_of X G a_Below
  have m_Short := PySem.W.mg_of X G a_Short
  have hX : ErX K g [cStill, cBelow, cShort] ["place", "one", "other", "number", "lacking"] (fun c => decide (c ≠ 0)) := erx_ok (g := g) erx (fun p hp => by
    simp only [List.mem_cons, List.not_mem_nil, or_false] at hp
    rcases hp with rfl | rfl | rfl <;> rfl)
  have T : SmT mg := ⟨y15, y9, y8, y1, y3, y13, y20, y18, y17⟩
  have gM1 := ok_same (P := l.prog) (w := w) (base := base) F8 same_none b8 m8 T
  have gM2 := ok_same F8 gM1 b8 m8 T
  have gM3 := ok_same F8 gM2 b8 m8 T
  have gM4 := ok_same F8 gM3 b8 m8 T
  have gM5 := ok_same F8 gM4 b8 m8 T
  have gK := ok_take (P := l.prog) (w := w) (base := base) (k := 0) F4 y17
  have v__law_same : FnOk l.prog w K mg base CX0 5 f8 _ ["_law_got", "_law_due"] (spD g sdSame6) := FnOk.imp gM5 (fun vs H Q E h => (let ⟨x, y, d, e1, e2, e3, e4, e5⟩ := same_imp6 h; ⟨x, y, d, e1, e2, e3, okS_okD 5 d e4, e5⟩))
  have v__law_take : FnOk l.prog w K mg base CX0 1 f4 _ ["_law_box_here", "_law_below"] (spD g sdTake) := FnOk.imp gK (fun vs H Q E h => take_imp h)
  have v_check_steps : FnOk l.prog w K mg base (L2.CX l.prog w) 3 f1 _ ["steps"] (spD g sdCheck) := ok_check_steps (k := 2) F1 B rfl (j := 1) (by decide) ⟨let ⟨a, b, c, d⟩ := e_Still.ex; ⟨a, b, c, d.1.mono (by decide : 1 ≤ 1), d.2⟩⟩ ⟨let ⟨a, b, c, d⟩ := e_Below.ex; ⟨a, b, c, d.1.mono (by decide : 1 ≤ 1), d.2⟩⟩
  have v_added_up : FnOk l.prog w K mg base CX0 1 f2 _ ["steps"] (spD g sdAdded) := ok_added_up (k := 0) F2 B rfl 
  have v_Counts___init__ : FnOk l.prog w K mg base (L2.CX l.prog w) 4 f_Counts__init_ _ ["self", "start", "steps"] (spI g cCnt sdInit) := ok_Counts__init_ (k := 3) F_Counts__init_ B rfl CC ⟨⟨f1, _, v_check_steps, b1, k1, m1⟩⟩ ⟨⟨f2, _, (v_added_up.mono (by decide : 1 ≤ 3)), b2, k2, m2⟩⟩
  have v_Counts_start : FnOk l.prog w K mg base CX0 1 f_Counts_start _ ["self"] (spD g sdP_start) := ok_Counts_start (k := 0) F_Counts_start B rfl CC 
  have v_Counts_steps : FnOk l.prog w K mg base CX0 1 f_Counts_steps _ ["self"] (spD g sdP_steps) := ok_Counts_steps (k := 0) F_Counts_steps B rfl CC 
  have v_Counts___getitem__ : FnOk l.prog w K mg base CX0 1 f_Counts__getitem_ _ ["self", "at"] (spD g sdSub) := ok_Counts__getitem_ (k := 0) F_Counts__getitem_ B rfl CC 
  have v_Counts_begun : FnOk l.prog w K mg base (L2.CX l.prog w) 6 f_Counts_begun _ ["self", "place"] (spD g sdM_begun) := ok_Counts_begun (k := 5) F_Counts_begun B rfl CC (j := 4) (by decide) ⟨⟨f_Counts__init_, _, mkB_ok mk_Counts, v_Counts___init__, b_all_Counts__init_, m_Counts⟩⟩
  have v_Counts___eq__ : FnOk l.prog w K mg base CX0 1 f_Counts__eq_ _ ["self", "other"] (spD g sdEq) := ok_Counts__eq_ (k := 0) F_Counts__eq_ B rfl CC ⟨knB_ok in_Counts kn_Counts, m_Counts⟩
  have v_Counts___add__ : FnOk l.prog w K mg base (L2.CX l.prog w) 6 f_Counts__add_ _ ["self", "other"] (spD g sdBinAdd) := ok_Counts__add_ (k := 5) F_Counts__add_ B rfl CC (j := 4) (by decide) ⟨⟨f_Counts__init_, _, mkB_ok mk_Counts, v_Counts___init__, b_all_Counts__init_, m_Counts⟩⟩
  have v_Counts___sub__ : FnOk l.prog w K mg base (L2.CX l.prog w) 6 f_Counts__sub_ _ ["self", "other"] (spD g sdBinSub) := ok_Counts__sub_ (k := 5) F_Counts__sub_ B rfl CC (j := 4) (by decide) ⟨⟨f_Counts__getitem_, _, (v_Counts___getitem__.mono (by decide : 1 ≤ 4)), b_all_Counts__getitem_, (mtB_ok b_Counts__getitem_).1.at_, (mtB_ok b_Counts__getitem_).2, (mtB_ok b_Counts__getitem_).1.fn⟩⟩ ⟨let ⟨a, b, c, d⟩ := e_Short.ex; ⟨a, b, c, d.1.mono (by decide : 1 ≤ 4), d.2⟩⟩ ⟨⟨f_Counts__init_, _, mkB_ok mk_Counts, v_Counts___init__, b_all_Counts__init_, m_Counts⟩⟩
  have v__law_of : FnOk l.prog w K mg base CX0 2 f6 _ ["_law_box_here", "_law_some"] (spD g sdOf) := ok_law_of (k := 1) F6 B rfl ⟨⟨f4, _, v__law_take, b4, k4, m4⟩⟩
  have v__law_pick : FnOk l.prog w K mg base CX0 2 f7 _ ["_law_box_here", "_law_pool_so", "_law_many_so"] (spD g sdPick) := ok_law_pick (k := 1) F7 B rfl ⟨⟨f4, _, v__law_take, b4, k4, m4⟩⟩
  have v__law_tags : FnOk l.prog w K mg base CX0 3 f9 _ ["_law_box_here", "_law_many_so"] (spD g sdTags) := ok_law_tags (k := 2) F9 B rfl ⟨⟨f4, _, (v__law_take.mono (by decide : 1 ≤ 2)), b4, k4, m4⟩⟩ ⟨⟨f7, _, v__law_pick, b7, k7, m7⟩⟩
  have v__law_strewn : FnOk l.prog w K mg base CX0 3 f10 _ ["_law_box_here", "_law_tags_here", "_law_most_so", "_law_high_so"] (spD g sdStrewn) := ok_law_strewn (k := 2) F10 B rfl ⟨⟨f4, _, (v__law_take.mono (by decide : 1 ≤ 2)), b4, k4, m4⟩⟩ ⟨⟨f7, _, v__law_pick, b7, k7, m7⟩⟩
  have v__law_summed : FnOk l.prog w K mg base CX0 1 f11 _ ["_law_rows_so"] (spD g sdSummed) := ok_law_summed (k := 0) F11 B rfl 
  have v__law_heard : FnOk l.prog w K mg base CX0 8 f12 _ ["_law_made", "_law_its"] (spD g sdHeard6) := ok_law_heard (k := 7) F12 B rfl (j := 6) (by decide) m_Short hX ⟨⟨f_Counts__sub_, _, v_Counts___sub__, b_all_Counts__sub_, sf_Counts, (mtB_ok b_Counts__sub_).1.at_, (mtB_ok b_Counts__sub_).1.fn⟩⟩ ⟨⟨p_Counts_start, f_Counts_start, _, (v_Counts_start.mono (by decide : 1 ≤ 6)), b_all_Counts_start, prB_ok b_Counts_start, CC.cls⟩⟩ ⟨⟨p_Counts_steps, f_Counts_steps, _, (v_Counts_steps.mono (by decide : 1 ≤ 6)), b_all_Counts_steps, prB_ok b_Counts_steps, CC.cls⟩⟩ m_Below
  have v__law_taken : FnOk l.prog w K mg base CX0 1 f13 _ ["_law_first_so", "_law_rows_so", "_law_far_so"] (spD g sdTaken) := ok_law_taken (k := 0) F13 B rfl 
  have v__law_case_right : FnOk l.prog w K mg base CX0 9 f14 _ ["_law_first_so", "_law_rows_so", "_law_last_so", "_law_far_so"] (spD g sdCase6) := ok_law_case_right (k := 8) F14 B rfl (j := 7) (by decide) ⟨⟨f_Counts__init_, _, mkB_ok mk_Counts, (v_Counts___init__.mono (by decide : 4 ≤ 7)), b_all_Counts__init_, m_Counts⟩⟩ ⟨⟨f11, _, (v__law_summed.mono (by decide : 1 ≤ 8)), b11, k11, m11⟩⟩ ⟨⟨f_Counts__add_, _, (v_Counts___add__.mono (by decide : 6 ≤ 7)), b_all_Counts__add_, sf_Counts, (mtB_ok b_Counts__add_).1.at_, (mtB_ok b_Counts__add_).1.fn⟩⟩ ⟨⟨f8, _, (v__law_same.mono (by decide : 5 ≤ 8)), b8, k8, m8⟩⟩ ⟨⟨p_Counts_start, f_Counts_start, _, (v_Counts_start.mono (by decide : 1 ≤ 7)), b_all_Counts_start, prB_ok b_Counts_start, CC.cls⟩⟩ ⟨⟨p_Counts_steps, f_Counts_steps, _, (v_Counts_steps.mono (by decide : 1 ≤ 7)), b_all_Counts_steps, prB_ok b_Counts_steps, CC.cls⟩⟩ ⟨⟨f12, _, v__law_heard, b12, k12, m12⟩⟩ ⟨⟨f13, _, (v__law_taken.mono (by decide : 1 ≤ 8)), b13, k13, m13⟩⟩ ⟨⟨f_Counts__eq_, _, (v_Counts___eq__.mono (by decide : 1 ≤ 7)), b_all_Counts__eq_, (mtB_ok b_Counts__eq_).1.at_, (mtB_ok b_Counts__eq_).1.fn⟩⟩ ⟨⟨f_Counts_begun, _, (v_Counts_begun.mono (by decide : 6 ≤ 7)), b_all_Counts_begun, (mtB_ok b_Counts_begun).1, CC.cls⟩⟩ ⟨⟨f_Counts_begun, _, (v_Counts_begun.mono (by decide : 6 ≤ 7)), kb_word F_Counts_begun (fun _ _ _ _ _ _ _ _ => rfl), (mtB_ok b_Counts_begun).1, CC.cls⟩⟩ ⟨⟨⟨f_Counts__eq_, _, (v_Counts___eq__.mono (by decide : 1 ≤ 7)), b_all_Counts__eq_, (mtB_ok b_Counts__eq_).1.at_, (mtB_ok b_Counts__eq_).1.fn⟩⟩, ne_Counts⟩ ⟨let ⟨cd, y1, y2⟩ := mro_Counts; ⟨f_Counts__add_, _, cd, (v_Counts___add__.mono (by decide : 6 ≤ 7)), b_all_Counts__add_, y1, y2, noB_at no_Counts (by decide), (by rw [typeLookup_type, builtinLookup_eq_fast]; kernel_rfl), (mtB_ok b_Counts__add_).1.at_, (mtB_ok b_Counts__add_).1.fn⟩⟩ ⟨let ⟨cd, y1, y2⟩ := mro_Counts; ⟨f_Counts__sub_, _, cd, (v_Counts___sub__.mono (by decide : 6 ≤ 7)), b_all_Counts__sub_, y1, y2, noB_at no_Counts (by decide), (by rw [typeLookup_type, builtinLookup_eq_fast]; kernel_rfl), (mtB_ok b_Counts__sub_).1.at_, (mtB_ok b_Counts__sub_).1.fn⟩⟩
  have v__law_refused : FnOk l.prog w K mg base CX0 8 f15 _ ["_law_made", "_law_its"] (spD g sdRefused) := ok_law_refused (k := 7) F15 B rfl (j := 6) (by decide) m_Short hX ⟨let ⟨cd, y1, y2⟩ := mro_Counts; ⟨f_Counts__sub_, _, cd, v_Counts___sub__, b_all_Counts__sub_, y1, y2, noB_at no_Counts (by decide), (by rw [typeLookup_type, builtinLookup_eq_fast]; kernel_rfl), (mtB_ok b_Counts__sub_).1.at_, (mtB_ok b_Counts__sub_).1.fn⟩⟩ ⟨⟨f_Counts__eq_, _, (v_Counts___eq__.mono (by decide : 1 ≤ 6)), b_all_Counts__eq_, (mtB_ok b_Counts__eq_).1.at_, (mtB_ok b_Counts__eq_).1.fn⟩⟩ ⟨⟨p_Counts_steps, f_Counts_steps, _, (v_Counts_steps.mono (by decide : 1 ≤ 6)), b_all_Counts_steps, prB_ok b_Counts_steps, CC.cls⟩⟩
  have v__law_by_hand_right : FnOk l.prog w K mg base CX0 10 f16 _ [] (spD g sdByHand6) := ok_law_by_hand_right (k := 9) F16 B rfl (j := 8) (by decide) ⟨⟨f_Counts__init_, _, mkB_ok mk_Counts, (v_Counts___init__.mono (by decide : 4 ≤ 8)), b_all_Counts__init_, m_Counts⟩⟩ ⟨⟨f12, _, (v__law_heard.mono (by decide : 8 ≤ 9)), b12, k12, m12⟩⟩ ⟨⟨f_Counts__init_, _, u1_Counts__init_, V.ref E_Counts__init_, mkB_ok mk_Counts, (v_Counts___init__.mono (by decide : 4 ≤ 8)), b_one_Counts__init_, m_Counts, ru1_Counts__init_, fun T H hT => unit_at lE_Counts__init_ rfl rfl T H hT⟩⟩ ⟨⟨f_Counts__add_, _, (v_Counts___add__.mono (by decide : 6 ≤ 8)), b_all_Counts__add_, sf_Counts, (mtB_ok b_Counts__add_).1.at_, (mtB_ok b_Counts__add_).1.fn⟩⟩ ⟨⟨p_Counts_start, f_Counts_start, _, (v_Counts_start.mono (by decide : 1 ≤ 8)), b_all_Counts_start, prB_ok b_Counts_start, CC.cls⟩⟩ ⟨⟨f_Counts__eq_, _, (v_Counts___eq__.mono (by decide : 1 ≤ 8)), b_all_Counts__eq_, (mtB_ok b_Counts__eq_).1.at_, (mtB_ok b_Counts__eq_).1.fn⟩⟩ ⟨knB_ok in_Counts kn_Counts, m_Counts⟩ ⟨⟨p_Counts_steps, f_Counts_steps, _, (v_Counts_steps.mono (by decide : 1 ≤ 8)), b_all_Counts_steps, prB_ok b_Counts_steps, CC.cls⟩⟩ ⟨⟨f8, _, (v__law_same.mono (by decide : 5 ≤ 9)), b8, k8, m8⟩⟩ ⟨⟨f15, _, (v__law_refused.mono (by decide : 8 ≤ 9)), b15, k15, m15⟩⟩
  have v__law_right : FnOk l.prog w K mg base CX0 10 f17 _ ["_law_box_here"] (spD g sdRight6) := ok_law_right (k := 9) F17 B rfl ⟨⟨f9, _, (v__law_tags.mono (by decide : 3 ≤ 9)), b9, k9, m9⟩⟩ ⟨⟨f4, _, (v__law_take.mono (by decide : 1 ≤ 9)), b4, k4, m4⟩⟩ ⟨⟨f6, _, (v__law_of.mono (by decide : 2 ≤ 9)), b6, k6, m6⟩⟩ ⟨⟨f10, _, (v__law_strewn.mono (by decide : 3 ≤ 9)), b10, k10, m10⟩⟩ ⟨⟨f14, _, v__law_case_right, b14, k14, m14⟩⟩
  have gR : FnOk l.prog w K mg base CX0 10 f17 _ ["_law_box_here"] spRight := FnOk.imp v__law_right (fun vs H Q E h => right_imp h)
  have gH : FnOk l.prog w K mg base CX0 10 f16 _ [] spHand := FnOk.imp v__law_by_hand_right (fun vs H Q E h => hand_imp h)
  have gE : FnOk l.prog w K mg base CX0 10 f5 _ ["_law_script", "_law_most_so"] (spCells K) := ok_cells F5 y9 y14 y17
  have gB : FnOk l.prog w K mg base CX0 10 f3 _ ["_law_script", "_law_k"] (spBox K) := ok_box F3 y1 y16 y17
  exact ok_law F18 gH b16 k16 m16 gE b5 k5 m5 gR b17 k17 m17 gB b3 k3 m3 y12 y3 y1
theorem walk {l : PySem.W.OpenLaw} {q : Program} {loose : List Str} {XP : (Str → Option Value) → Heap → Prop} {YP : World → Heap → Prop} {d : DefRec} {K : Params → PySem.W.Frag} (hn : l.most = some 63) (hdf : d.params.defaults = [])
    (hY : ∀ (w : World) (h : Heap), YP w h → (K w.params).In h)
    (F : ∀ (w : World) (mg : Str → Option Value) (fa : Addr) (h : Heap), (K w.params).In h → h.Ns mainGlobals mg → mg d.name = some (.ref fa) →
      ∃ fd : FuncData, (∀ (s : Shared) (u : Value), BindsTo s fd ⟨[u], []⟩ [("_law_script", u)]) ∧ ∀ base : Heap, (K w.params).In base → base.Ns mainGlobals mg → FnOk l.prog w (K w.params) mg base CX0 11 fa fd ["_law_script"] (spLaw (K w.params))) :
    PySem.W.WalkO q loose XP YP l.row.toRowW d [] (fun f vs => PySem.call f vs) :=
  L2.walk_of (n := 63) (k := 11) (x := "_law_script") (CX := fun _ => CX0) (sp := fun w => spLaw (K w.params)) hn (by decide) hdf ⟨rfl, by decide, by decide⟩ hY F (fun _ _ a ns hl _ hS => ⟨a, ns, rfl, hS, hl, fun _ => rfl⟩) fun _ _ _ _ _ z => z
end K06
open PySem PySem.W PyProof.Rows in
set_option maxRecDepth 100000 in
set_option maxHeartbeats 0 in
theorem PySem.Challenge.cw_countedsteps_k06_counts_added_and_taken_holds : PySem.Challenge.rw_countedsteps_k06_counts_added_and_taken.Holds := by
  w_on; o_law; k_head; (case hw => w_witness2)
  k_fill
  refine K06.walk (l := PySem.Challenge.rw_countedsteps_k06_counts_added_and_taken) rfl rfl (fun w h Y => PySem.W.kIn_of Y) ?F
  case F =>
    intro w mg fa h KX G hmg
    refine' K06.all_mk KX G hmg ?a1 ?l1 ?c1 ?k1 ?a2 ?l2 ?c2 ?k2 ?a3 ?l3 ?c3 ?k3 ?a4 ?l4 ?c4 ?k4 ?a5 ?l5 ?c5 ?k5 ?a6 ?l6 ?c6 ?k6 ?a7 ?l7 ?c7 ?k7 ?a8 ?l8 ?c8 ?k8 ?a9 ?l9 ?c9 ?k9 ?a10 ?l10 ?c10 ?k10 ?a11 ?l11 ?c11 ?k11 ?a12 ?l12 ?c12 ?k12 ?a13 ?l13 ?c13 ?k13 ?a14 ?l14 ?c14 ?k14 ?a15 ?l15 ?c15 ?k15 ?a16 ?l16 ?c16 ?k16 ?a17 ?l17 ?c17 ?k17 ?a18 ?l18 ?c18 ?k18 ?z1 ?z2 ?z3 ?z4 ?z5 ?z6 ?z7 ?z8 ?z9 ?z10 ?z11 ?z12 ?z13 ?z14 ?z15 ?z16 ?z17 ?z18 ?z19 ?z20 ?z21 ?z22 ?a_Counts ?i_Counts__init_ ?l_Counts__init_ ?c_Counts__init_ ?k_Counts__init_ ?lT_Counts__init_ ?lE_Counts__init_ ?pa_Counts_start ?r_Counts_start ?l_Counts_start ?c_Counts_start ?k_Counts_start ?b_Counts_start ?pa_Counts_steps ?r_Counts_steps ?l_Counts_steps ?c_Counts_steps ?k_Counts_steps ?b_Counts_steps ?i_Counts__getitem_ ?l_Counts__getitem_ ?c_Counts__getitem_ ?k_Counts__getitem_ ?b_Counts__getitem_ ?i_Counts_begun ?l_Counts_begun ?c_Counts_begun ?k_Counts_begun ?b_Counts_begun ?i_Counts__eq_ ?l_Counts__eq_ ?c_Counts__eq_ ?k_Counts__eq_ ?b_Counts__eq_ ?i_Counts__add_ ?l_Counts__add_ ?c_Counts__add_ ?k_Counts__add_ ?b_Counts__add_ ?i_Counts__sub_ ?l_Counts__sub_ ?c_Counts__sub_ ?k_Counts__sub_ ?b_Counts__sub_ ?mk_Counts ?in_Counts ?kn_Counts ?ne_Counts ?no_Counts ?ro_Counts ?sf_Counts ?a_Still ?i_EStill ?l_EStill ?c_EStill ?k_EStill ?xl_Still ?eb_Still ?a_Below ?i_EBelow ?l_EBelow ?c_EBelow ?k_EBelow ?xl_Below ?eb_Below ?a_Short ?i_EShort ?l_EShort ?c_EShort ?k_EShort ?xl_Short ?eb_Short ?erx
    (case a1 => k_is); (case l1 => k_is); (case c1 => k_is); (case k1 => k_is)
    (case a2 => k_is); (case l2 => k_is); (case c2 => k_is); (case k2 => k_is)
    (case a3 => k_is); (case l3 => k_is); (case c3 => k_is); (case k3 => k_is)
    (case a4 => k_is); (case l4 => k_is); (case c4 => k_is); (case k4 => k_is)
    (case a5 => k_is); (case l5 => k_is); (case c5 => k_is); (case k5 => k_is)
    (case a6 => k_is); (case l6 => k_is); (case c6 => k_is); (case k6 => k_is)
    (case a7 => k_is); (case l7 => k_is); (case c7 => k_is); (case k7 => k_is)
    (case a8 => k_is); (case l8 => k_is); (case c8 => k_is); (case k8 => k_is)
    (case a9 => k_is); (case l9 => k_is); (case c9 => k_is); (case k9 => k_is)
    (case a10 => k_is); (case l10 => k_is); (case c10 => k_is); (case k10 => k_is)
    (case a11 => k_is); (case l11 => k_is); (case c11 => k_is); (case k11 => k_is)
    (case a12 => k_is); (case l12 => k_is); (case c12 => k_is); (case k12 => k_is)
    (case a13 => k_is); (case l13 => k_is); (case c13 => k_is); (case k13 => k_is)
    (case a14 => k_is); (case l14 => k_is); (case c14 => k_is); (case k14 => k_is)
    (case a15 => k_is); (case l15 => k_is); (case c15 => k_is); (case k15 => k_is)
    (case a16 => k_is); (case l16 => k_is); (case c16 => k_is); (case k16 => k_is)
    (case a17 => k_is); (case l17 => k_is); (case c17 => k_is); (case k17 => k_is)
    (case a18 => k_is); (case l18 => k_is); (case c18 => k_is); (case k18 => k_is)
    (case z1 => k_is)
    (case z2 => k_is)
    (case z3 => k_is)
    (case z4 => k_is)
    (case z5 => k_is)
    (case z6 => k_is)
    (case z7 => k_is)
    (case z8 => k_is)
    (case z9 => k_is)
    (case z10 => k_is)
    (case z11 => k_is)
    (case z12 => k_is)
    (case z13 => k_is)
    (case z14 => k_is)
    (case z15 => k_is)
    (case z16 => k_is)
    (case z17 => k_is)
    (case z18 => k_is)
    (case z19 => k_is)
    (case z20 => k_is)
    (case z21 => k_is)
    (case z22 => k_is)
    (case a_Counts => k_is)
    (case i_Counts__init_ => k_is)
    (case l_Counts__init_ => k_is)
    (case c_Counts__init_ => k_is)
    (case k_Counts__init_ => k_is)
    (case lT_Counts__init_ => k_is)
    (case lE_Counts__init_ => k_is)
    (case pa_Counts_start => k_is)
    (case r_Counts_start => k_is)
    (case l_Counts_start => k_is)
    (case c_Counts_start => k_is)
    (case k_Counts_start => k_is)
    (case b_Counts_start => kernel_rfl)
    (case pa_Counts_steps => k_is)
    (case r_Counts_steps => k_is)
    (case l_Counts_steps => k_is)
    (case c_Counts_steps => k_is)
    (case k_Counts_steps => k_is)
    (case b_Counts_steps => kernel_rfl)
    (case i_Counts__getitem_ => k_is)
    (case l_Counts__getitem_ => k_is)
    (case c_Counts__getitem_ => k_is)
    (case k_Counts__getitem_ => k_is)
    (case b_Counts__getitem_ => kernel_rfl)
    (case i_Counts_begun => k_is)
    (case l_Counts_begun => k_is)
    (case c_Counts_begun => k_is)
    (case k_Counts_begun => k_is)
    (case b_Counts_begun => kernel_rfl)
    (case i_Counts__eq_ => k_is)
    (case l_Counts__eq_ => k_is)
    (case c_Counts__eq_ => k_is)
    (case k_Counts__eq_ => k_is)
    (case b_Counts__eq_ => kernel_rfl)
    (case i_Counts__add_ => k_is)
    (case l_Counts__add_ => k_is)
    (case c_Counts__add_ => k_is)
    (case k_Counts__add_ => k_is)
    (case b_Counts__add_ => kernel_rfl)
    (case i_Counts__sub_ => k_is)
    (case l_Counts__sub_ => k_is)
    (case c_Counts__sub_ => k_is)
    (case k_Counts__sub_ => k_is)
    (case b_Counts__sub_ => kernel_rfl)
    (case mk_Counts => kernel_rfl)
    (case in_Counts => kernel_rfl)
    (case kn_Counts => kernel_rfl)
    (case ne_Counts => kernel_rfl)
    (case no_Counts => kernel_rfl)
    (case ro_Counts => kernel_rfl)
    (case sf_Counts => first | k_is | kernel_rfl)
    (case a_Still => k_is)
    (case i_EStill => k_is)
    (case l_EStill => k_is)
    (case c_EStill => k_is)
    (case k_EStill => k_is)
    (case xl_Still => k_is)
    (case eb_Still => kernel_rfl)
    (case a_Below => k_is)
    (case i_EBelow => k_is)
    (case l_EBelow => k_is)
    (case c_EBelow => k_is)
    (case k_EBelow => k_is)
    (case xl_Below => k_is)
    (case eb_Below => kernel_rfl)
    (case a_Short => k_is)
    (case i_EShort => k_is)
    (case l_EShort => k_is)
    (case c_EShort => k_is)
    (case k_EShort => k_is)
    (case xl_Short => k_is)
    (case eb_Short => kernel_rfl)
    (case erx => kernel_rfl)
#print axioms PySem.Challenge.cw_countedsteps_k06_counts_added_and_taken_holds
