import PyProof.Rows.All
import Wide.All
import OpenK.AllK
import Wide.FinOn
import HandS.ForMost
import HandS.Zip
import HandS.TupAny
import KE.KRevSl
import KE.GoesNew
import KE.KDictZip
import HandS.Walk
import HandS.Conv
import HandS.Flow
import HandS.IsInst
import HandS.Codes
import PySem.Challenge.RW_countedsteps_k01_what_a_journey_tells
set_option Elab.async false
set_option linter.all false
set_option maxRecDepth 100000
set_option maxHeartbeats 2000000
/-! Rules that the hand layer lacks: the reversed slice, enumerate of a tuple, tuple(zip(..)) -/
namespace CS
open PySem PySem.Spec PyProof.Rows L2
/-! ### x[::-1] -/
theorem adj_back (m : Nat) : Builtin.Slice.sliceAdjust none none (-1) (m : Int) = ((m : Int) - 1, -1) := by
  simp [Builtin.Slice.sliceAdjust]
theorem plc_back (m : Nat) : Builtin.Slice.slicePlaces ((m : Int) - 1) (-1) (-1) = m := by
  unfold Builtin.Slice.slicePlaces
  simp
  omega
theorem fm_same {α β : Type} {f g : α → Option β} : ∀ {l : List α}, (∀ a ∈ l, f a = g a) → l.filterMap f = l.filterMap g
  | [], _ => rfl
  | a :: l, h => by
    have e1 := h a (List.mem_cons_self ..)
    have e2 := fm_same (l := l) fun b hb => h b (List.mem_cons_of_mem _ hb)
    simp only [List.filterMap_cons, e1, e2]
theorem pick_back (its : Array Value) : ((List.range its.size).filterMap fun (j : Nat) => its[((its.size : Int) - 1 + (j : Int) * (-1)).toNat]?) = its.toList.reverse := by
  have q1 : (List.range its.size).filterMap (fun (j : Nat) => its[((its.size : Int) - 1 + (j : Int) * (-1)).toNat]?) = ((List.range its.size).map (fun j => its.size - 1 - j)).filterMap (its[·]?) := by
    rw [List.filterMap_map]
    refine fm_same fun j hj => ?_
    have hj' := List.mem_range.mp hj
    have e : ((its.size : Int) - 1 + (j : Int) * (-1)).toNat = its.size - 1 - j := by omega
    show its[((its.size : Int) - 1 + (j : Int) * (-1)).toNat]? = its[its.size - 1 - j]?
    rw [e]
  rw [q1, PySem.W.krv_range, List.filterMap_reverse, PySem.W.krv_all]
section
variable {prog : Program} {w : World} {A : Around} {E : Value → Shared → Prop} {s : Shared}
theorem app_back {sl : Addr} {k : Tok} {m : Nat} {Q : Int × Int × Nat → Shared → Prop} (hsl : s.heap.IsSliceOf sl .none .none (.int (-1) k)) (hq : Q ((m : Int) - 1, -1, m) s) :
    wpAny (model prog w) A (Builtin.Slice.sliceApplied (.ref sl) (pure (m : Int))) Q E s := by
  obtain ⟨ob, hob, hcl, hdt⟩ := id hsl
  unfold Builtin.Slice.sliceApplied Builtin.Slice.sliceFields
  refine wpAny_bind (wpAny_bind (wpAny_field hob hdt (x := .none) rfl (wpAny_bind (wpAny_field hob hdt (x := .none) rfl (wpAny_bind (wpAny_field hob hdt (x := .int (-1) k) rfl (wpAny_pure ?_)))))))
  refine wpAny_bind (PyProof.Rows.slicePart_int ?_)
  show wpAny _ _ (if ((-1 : Int) == 0) = true then _ else _) _ _ s
  rw [if_neg (by decide)]
  refine wpAny_bind (PyProof.Rows.slicePart_none (wpAny_bind (PyProof.Rows.slicePart_none (wpAny_bind (wpAny_pure ?_)))))
  show wpAny _ _ (match Builtin.Slice.sliceAdjust none none (-1) (m : Int) with | (lo, hi) => pure (lo, (-1 : Int), Builtin.Slice.slicePlaces lo hi (-1))) _ _ s
  rw [adj_back]
  show wpAny _ _ (pure ((m : Int) - 1, (-1 : Int), Builtin.Slice.slicePlaces ((m : Int) - 1) (-1) (-1))) _ _ s
  rw [plc_back]
  exact wpAny_pure hq
theorem tup_back {t sl : Addr} {its : Array Value} {k : Tok} {Q : Value → Shared → Prop} (ht : IsTup s.heap t its) (hsl : s.heap.IsSliceOf sl .none .none (.int (-1) k))
    (hq : Q (.ref s.heap.objs.size) { s with heap := s.heap.push { cls := .type "tuple", data := .seq its.toList.reverse.toArray } }) (hfit : its.size ≤ sizeLine) : wpAny (model prog w) A (getItem (.ref t) (.ref sl)) Q E s := by
  obtain ⟨ob, hob, hcl, hdt⟩ := id hsl
  have hty : s.TypeIs (.ref sl) "slice" := ⟨ob, hob, hcl⟩
  have hfit2 : sizeOk (.seq its.toList.reverse.toArray) := by
    show its.toList.reverse.toArray.size ≤ sizeLine
    rw [List.size_toArray, List.length_reverse, Array.length_toList]
    exact hfit
  unfold getItem
  try with_reducible refine wpAny_holding ?_
  first | refine wpAny_bind (wpAny_pure ?_) | skip
  refine wpAny_bind (wpAny_sequenceKey ht.typeIs (by decide) ?_)
  refine wpAny_bind (wpAny_callSpecial?_slot (name := Str.ofString "__getitem__") ht.typeIs PyProof.Rows.slot_tuple_getitem (wpAny_call_entry PyProof.Rows.slot_tuple_getitem ht.typeIs entry_tuple_getitem ?_ (args_tuple_getitem _ _)))
  show wpAny _ _ (Builtin.Tuple.tupleItemsOf (.ref t) >>= _) _ _ s
  refine wpAny_bind (tupleItemsOf_ ht (wpAny_bind (wpAny_typeOf hty ?_)))
  rw [if_pos (by decide)]
  refine wpAny_bind (app_back hsl ?_)
  have nope : ¬ ((((its.size : Nat) : Int) - 1 == 0 && (-1 : Int) == 1 && its.size == its.size) = true) := by
    intro q
    rw [Bool.and_eq_true, Bool.and_eq_true] at q
    exact absurd (eq_of_beq q.1.2) (by decide)
  show wpAny _ _ (if (((its.size : Nat) : Int) - 1 == 0 && (-1 : Int) == 1 && its.size == its.size) = true then _ else _) _ _ s
  rw [if_neg nope, pick_back]
  first
    | exact wpAny_bind (m := Builtin.Tuple.tupleExact _) (wpAny_newObj_type (wpAny_pure ⟨_, rfl, wpAny_pure hq⟩) hfit2)
    | exact wpAny_bind (m := Builtin.Tuple.tupleExact _) (wpAny_newObj_type (wpAny_bind (wpAny_pure (wpAny_pure ⟨_, rfl, wpAny_pure hq⟩))) hfit2)
    | exact wpAny_bind (wpAny_bind (m := Builtin.Tuple.tupleExact _) (wpAny_newObj_type (wpAny_pure (wpAny_pure ⟨_, rfl, wpAny_pure hq⟩)) hfit2))
    | exact wpAny_bind (wpAny_bind (m := Builtin.Tuple.tupleExact _) (wpAny_newObj_type (wpAny_pure ⟨_, rfl, wpAny_pure hq⟩) hfit2))
end
section
variable {X : Cx} {e st : Expr} {te ts : TE} {p2 pos : Pos}
/-- x[::-1], x a list or a tuple: a new one, turned -/
def tBack (K : PySem.W.Frag) (te ts : TE) : TE := fun σ H Q => te σ H fun x H1 => ts σ H1 fun y H2 => y = .int (-1) ∧ ∃ a xs, x = .ref a ∧ ((SqT K H2 a xs ∧ ∀ p, H2 p = none → Q (.ref p) (upd H2 p (.tup xs.reverse))) ∨ (SqL K H2 a xs ∧ ∀ p, H2 p = none → Q (.ref p) (upd H2 p (.lst xs.reverse))))
theorem vals_rev {xs : List V} {us : List Value} (h : Vals xs us) : Vals xs.reverse us.reverse := by
  induction h with
  | nil => exact .nil
  | cons r t ih =>
    rw [List.reverse_cons, List.reverse_cons]
    exact ih.append (.cons r .nil)
theorem pe_back (he : PE X e te) (hst : PE X st ts) : PE X (.Subscript e (.Slice none none (some st) p2) pos) (tBack X.K te ts) := by
  refine ⟨fun pins s0 σ H0 Q0 I0 hw => ?_⟩
  refine Subscript_ (thn (he.run pins s0 σ H0 _ I0 hw) fun v s1 ⟨x, H1, I1, r1, q1⟩ => ?_)
  refine wpAny_Slice ?_
  rw [evalPart_none]
  refine wpAny_pure (wpAny_pure ?_)
  rw [evalPart_some]
  refine thn (hst.run pins s1 σ H1 _ I1 q1) fun vs s3 ⟨y, H3, I3, r3, q3⟩ => ?_
  obtain ⟨rfl, a, xs, rfl, q⟩ := q3
  obtain ⟨tk, rfl⟩ := r3
  have I4 : Inv X pins σ H3 { s3 with heap := s3.heap.push { cls := .type "slice", data := .fields #[.none, .none, .int (-1) tk] } } := I3.kept (t' := s3.toks) fun b ob z => Heap.get?_push_of_some _ z
  cases r1
  rcases q with ⟨hx, q⟩ | ⟨hx, q⟩
  · obtain ⟨its, rv, pt, hz⟩ := I4.tuple hx
    refine tail_any (ops := [.ref a, .ref s3.heap.objs.size]) pt.typeIs PyProof.Rows.slot_tuple_getitem.lookup (tup_back pt (Heap.IsSliceOf.new ..) ?_ (by rw [List.size_toArray, ← rv.length]; exact hz)) (by with_unfolding_all rfl)
    refine ⟨.ref _, _, I4.laid (t' := s3.toks) (o := .tup xs.reverse) (fun b ob z => Heap.get?_push_of_some _ z) (Nat.le_refl _) ?_, rfl, q _ (I4.hok.fresh (Nat.le_refl _))⟩
    exact ⟨by rw [List.length_reverse]; exact hz, _, vals_rev rv, IsTup.new _ _⟩
  · obtain ⟨its, rv, pt, hz⟩ := I4.list hx
    refine tail_any (ops := [.ref a, .ref s3.heap.objs.size]) pt.isList.typeIs slot_list_getitem.lookup (wpAny_getItem_list_slice pt.isList (Heap.IsSliceOf.new ..) .none .none (.int (-1) tk) (by decide) ?_ (by rw [List.size_toArray, ← rv.length]; exact hz)) (by with_unfolding_all rfl)
    rw [PySem.W.krv_pick]
    refine ⟨.ref _, _, I4.laid (t' := s3.toks) (o := .lst xs.reverse) (fun b ob z => Heap.get?_push_of_some _ z) (Nat.le_refl _) ?_, rfl, q _ (I4.hok.fresh (Nat.le_refl _))⟩
    exact ⟨by rw [List.length_reverse]; exact hz, _, 0, vals_rev rv, Heap.get?_push_size _ rfl⟩
end
end CS
namespace CS
open PySem PySem.Spec PyProof.Rows L2
/-! ### enumerate(x) of anything whose iterator is known -/
theorem enumB_new {v : Value} {ob : Obj} {Hh : Heap → Prop} (B : Begins v ob Hh) :
    Meets (Builtin.«enumerate.__new__» ⟨[.type "enumerate", v], []⟩) (fun _ R s => Hh s.heap ∧ R (.ok (.ret (.ref (s.heap.push ob).objs.size)))
      { s with heap := (s.heap.push ob).push { cls := .type "enumerate", data := .fields #[.none, .bool false, .ref s.heap.objs.size, rawInt 0, .none, .none] } }) :=
  .of_wp fun prog w A R s hst => by
    obtain ⟨hp, gn, dr, tk, os⟩ := s; obtain ⟨hh, hR⟩ := hst
    have subE := sub_enumerate
    have itr : ∀ {A' : Around} {E : Value → Shared → Prop} {Q : Value → Shared → Prop}, Q (.ref hp.objs.size) ⟨hp.push ob, gn, dr, tk, os⟩ → wpAny (model prog w) A' (pyIter v) Q E ⟨hp, gn, dr, tk, os⟩ :=
      fun q => B.iter prog w _ _ ⟨hp, gn, dr, tk, os⟩ _ hh q
    wp_walk using itr
    refine wpAny_stack_any fun st => wpAny_pure ?_
    split
    · rename_i c _ _ _ _ _
      cases (c == Value.type "enumerate")
      · wp_walk using itr
        exact ⟨_, rfl, hR⟩
      · wp_walk using itr
        exact ⟨_, rfl, hR⟩
    · wp_walk using itr
      exact ⟨_, rfl, hR⟩
section
variable {prog : Program} {w : World} {A : Around} {E : Value → Shared → Prop} {s : Shared}
theorem enumB_call {v : Value} {ob : Obj} {Hh : Heap → Prop} {Q : Value → Shared → Prop} (B : Begins v ob Hh) (hh : Hh s.heap)
    (hq : ∀ h', IsEnum h' (s.heap.objs.size + 1) s.heap.objs.size 0 .none → h'.get? s.heap.objs.size = some ob → h'.objs.size = s.heap.objs.size + 2 →
      (∀ c u, s.heap.get? c = some u → h'.get? c = some u) → Q (.ref (s.heap.objs.size + 1)) { s with heap := h' }) :
    wpAny (model prog w) A (call (.type "enumerate") [v]) Q E s := by
  refine callType_new F.called_enumerate (by decide) (F.typeCall_enumerate_1 _) (F.newCall_enumerate_1 _) (fun obj => F.args_object_init_2 obj _) F.entry_enumerate_new (enumB_new B) ⟨hh, ?_⟩
  have sz1 : (s.heap.push ob).objs.size = s.heap.objs.size + 1 := Heap.size_push ..
  show _ ∧ _
  rw [sz1]
  have at1 : IsEnum ((s.heap.push ob).push { cls := .type "enumerate", data := .fields #[.none, .bool false, .ref s.heap.objs.size, rawInt 0, .none, .none] }) (s.heap.objs.size + 1) s.heap.objs.size 0 .none := by
    have q := Heap.get?_push_size (s.heap.push ob) (o := { cls := .type "enumerate", data := .fields #[.none, .bool false, .ref s.heap.objs.size, rawInt 0, .none, .none] }) rfl
    rw [sz1] at q
    exact q
  exact ⟨⟨_, at1, rfl⟩, hq _ at1 (Heap.get?_push_of_some _ (Heap.get?_push_size _ B.free)) (by rw [Heap.size_push, sz1]) fun c u z => Heap.get?_push_of_some _ (Heap.get?_push_of_some _ z)⟩
end
/-- the pairs (0, x), (1, y), .. of the tuple at a -/
def IteT (K : PySem.W.Frag) (a : Addr) : It :=
  ⟨fun i H => ∃ (xs : List V) (x : V), SqT K H a xs ∧ xs[i]? = some x, fun i H v H' => ∃ (T : Addr) (x : V), v = .ref T ∧ H T = none ∧ H' = upd H T (.tup [.int (i : Nat), x]) ∧ ∀ ys, SqT K H a ys → ys[i]? = some x,
   fun i H => ∃ ys : List V, SqT K H a ys ∧ ys.length ≤ i⟩
theorem turn_enumT {P : Program} {w : World} {K : PySem.W.Frag} {elts : List Expr} {kk : Nat} {tpos : Pos} (a e it : Addr) :
    Turn P w K (.Tuple elts kk tpos) (IteT K a) [e, it] e (fun i h => (∃ old, IsEnum h e it ((i : Nat) : Int) old) ∧ h.IsTupleIter it a i ∧ e ≠ it) where
  mem := by simp
  obj := fun i h st b hb => by
    obtain ⟨⟨old, he⟩, ⟨ob, ho, _, hd⟩, _⟩ := st
    have hb' : b = e ∨ b = it := by simpa using hb
    rcases hb' with rfl | rfl
    · exact ⟨_, he, fun v q => nomatch q⟩
    · exact ⟨ob, ho, fun v q => by rw [hd] at q; cases q⟩
  keep := fun i h h' st kp => by
    obtain ⟨⟨old, he⟩, hi, hne⟩ := st
    exact ⟨⟨old, kp e (by simp) _ he⟩, hi.at fun u q => kp it (by simp) u q, hne⟩
  item := by
    intro X eP ew eK cm i pins s σ H E I fpo st gg
    subst eP ew eK
    obtain ⟨⟨old, he⟩, hit, hne⟩ := st
    obtain ⟨xs, x, hsq, hx⟩ := gg
    obtain ⟨its, rv, pt, _⟩ := I.tuple hsq
    obtain ⟨u, hu, ru⟩ := rv.get hx
    have hel : e < s.heap.objs.size := Heap.lt_size he
    have hil : it < s.heap.objs.size := by obtain ⟨_, q, _⟩ := hit; exact Heap.lt_size q
    have eT : e ≠ a := fun z => by
      obtain ⟨ot, hot, hct, _⟩ := pt
      rw [← z, he] at hot
      cases hot
      exact absurd (Value.type.inj hct) (by decide)
    have iT : a ≠ it := fun z => by
      obtain ⟨oi, hoi, hci, _⟩ := hit
      obtain ⟨ot, hot, hct, _⟩ := pt
      rw [z, hoi] at hot
      cases hot
      rw [hci] at hct
      exact absurd (Value.type.inj hct) (by decide)
    have D := Draws.tuple (prog := X.prog) (w := X.w) (A := X.A.in1) (I.ok.hd cm) it a iT its.toArray
    have hlt : i < its.toArray.size := by
      have q := (List.getElem?_eq_some_iff.mp hu).1
      simpa using q
    refine wpAny_pyNext_enum_itemD D he ⟨hit, pt⟩ hlt hne (by simp [hne, eT]) fun y h' tk hP ho sn hT hsz hk => ?_
    have ey : y = u := by
      have q : its[i]? = some y := by simpa using hP
      rw [hu] at q
      exact (Option.some.inj q).symm
    subst ey
    refine ⟨_, rfl, wpAny_letOwnedTupleGo_enum (s := { s with heap := h', toks := tk + 1 }) ho fun h2 he2 sb => ?_⟩
    have hT2 : h2.get? s.heap.objs.size = some { cls := .type "tuple", data := .seq #[.int i tk, y] } := (sb.2 _ (Nat.ne_of_gt hel)).trans hT
    have nw : ObjOk X.prog X.w (upd H s.heap.objs.size (.tup [.int (i : Nat), x])) h2 s.heap.objs.size (.tup [.int (i : Nat), x]) :=
      ⟨by show 2 ≤ sizeLine; decide, [.int i tk, y], .cons ⟨_, rfl⟩ (.cons ru .nil), ⟨_, hT2, rfl, _, rfl⟩⟩
    have I1 : Inv X pins σ (upd H s.heap.objs.size (.tup [.int (i : Nat), x])) { s with heap := h2, toks := tk + 1 } :=
      I.turnedNew (ch := [e, it]) (fun b ob hb q => (sb.2 b (fun z => hb (by simp [z]))).trans (hk b ob (fun z => hb (by simp [z])) (fun z => hb (by simp [z])) q)) fpo (Nat.le_refl _) nw
    refine ⟨.ref s.heap.objs.size, _, I1, rfl, ⟨_, x, rfl, I.hok.fresh (Nat.le_refl _), rfl, fun ys hy => by rw [I.tuple_inj hy hsq]; exact hx⟩, ⟨⟨y, ?_⟩, sn.1.at fun u q => (sb.2 it (Ne.symm hne)).trans q, hne⟩, fun b hb => ?_⟩
    · have e1 : ((i + 1 : Nat) : Int) = (i : Int) + 1 := by omega
      rw [e1]
      exact he2
    · have hb' : b < s.heap.objs.size := by
        have z : b = e ∨ b = it := by simpa using hb
        rcases z with z | z
        · rw [z]; exact hel
        · rw [z]; exact hil
      rw [upd_ne (Nat.ne_of_lt hb')]
      exact (fpo b hb).1
  done := by
    intro X eP ew eK cm i pins s σ H E I fpo st gg
    subst eP ew eK
    obtain ⟨⟨old, he⟩, hit, hne⟩ := st
    obtain ⟨ys, hsq, hle⟩ := gg
    obtain ⟨its, rv, pt, _⟩ := I.tuple hsq
    obtain ⟨f0, f1, f2, f3, f4, f5⟩ := fpo it (by simp)
    have iT : a ≠ it := fun z => by
      obtain ⟨oi, hoi, hci, _⟩ := hit
      obtain ⟨ot, hot, hct, _⟩ := pt
      rw [z, hoi] at hot
      cases hot
      rw [hci] at hct
      exact absurd (Value.type.inj hct) (by decide)
    have hlen := rv.length
    have hnone : its.toArray[i]? = none := by simp; omega
    have hty : s.TypeIs (.ref e) "enumerate" := ⟨_, he, rfl⟩
    unfold pyNext
    refine wpAny_bind (wpAny_attempt (wpAny_callSpecial?_slot (name := Str.ofString "__next__") hty F.slot_enumerate_next (wpAny_call_entry F.slot_enumerate_next hty F.entry_enumerate_next ?_ (F.args_enumerate_next_1 _))))
    show wpAny _ _ (field (.ref e) 2 >>= _) _ _ _
    refine wpAny_bind (wpAny_field he rfl (x := .ref it) rfl (wpAny_bind (RZ.nextOf_tuple_end (I.ok.hd cm) hit pt hnone fun h' xx hk hx' => ?_)))
    obtain ⟨ob, ho, hcl⟩ := hx'
    refine wpAny_bind (wpAny_isInstance (T := "StopIteration") (b := true) ⟨ob, ho, hcl⟩ isSubtype_stop ?_)
    exact wpAny_pure ⟨rfl, I.turned (t' := s.toks) (fun b u hb q => hk b u hb q) f0 f1 f3 f4 f5⟩
  self := fun A i s Q E st hq => by
    obtain ⟨⟨_, he⟩, _⟩ := st
    exact wpAny_pyIter_enum he hq
def iEnumT (K : PySem.W.Frag) (ta : TA) : TI := fun σ H R => ta σ H fun vs H1 => ∃ (a : Addr) (xs : List V), vs = [.ref a] ∧ ((SqT K H1 a xs ∧ R (IteT K a) H1) ∨ (SqL K H1 a xs ∧ R (Ite K a) H1))
theorem pi_enumT {X : Cx} {e : Expr} {ta : TA} {p pos tpos : Pos} {elts : List Expr} {kk : Nat} (gE : Gl X "enumerate") (mE : X.mg "enumerate" = none) (ha : PA X [e] ta) (hs : starEach [e] X.env = [(false, eval e X.env)] := by rfl) :
    PI X (.Tuple elts kk tpos) (.Call (.Name "enumerate" p) [e] [] pos) (iEnumT X.K ta) := by
  refine ⟨fun pins s0 σ H0 R I0 hw => ?_⟩
  refine Call_ (ld_blt I0 gE mE boot_enumerate (PyProof.Rows.callWith_type1 (thn (ha.run pos pins s0 σ H0 _ I0 hw) fun us s1 ⟨vs, H1, I1, r1, q1⟩ => ?_) hs rfl))
  obtain ⟨a, xs, rfl, q⟩ := q1
  obtain ⟨u, rfl, rx⟩ := vals1 r1
  cases rx
  have fr : ∀ b, b ∈ [s1.heap.objs.size + 1, s1.heap.objs.size] → FpOk X pins H1 b := fun b hb => by
    have z : b = s1.heap.objs.size + 1 ∨ b = s1.heap.objs.size := by simpa using hb
    have hle : s1.heap.objs.size ≤ b := by omega
    exact I1.fpOk hle (I1.hok.fresh hle)
  rcases q with ⟨hq, q⟩ | ⟨hq, q⟩
  · obtain ⟨its, rv, pt, _⟩ := I1.tuple hq
    refine enumB_call (begins_tuple a its.toArray) pt fun h' he ho hsz hk => wpAny_pyIter_enum he ?_
    exact ⟨s1.heap.objs.size + 1, [s1.heap.objs.size + 1, s1.heap.objs.size], _, _, H1, rfl, I1.kept (t' := s1.toks) hk, turn_enumT a _ _, ⟨⟨_, he⟩, ⟨_, ho, rfl, rfl⟩, Nat.succ_ne_self _⟩, fr, q⟩
  · obtain ⟨its, rv, pt, _⟩ := I1.list hq
    refine enumB_call (begins_list a its.toArray) pt.isList fun h' he ho hsz hk => wpAny_pyIter_enum he ?_
    exact ⟨s1.heap.objs.size + 1, [s1.heap.objs.size + 1, s1.heap.objs.size], _, _, H1, rfl, I1.kept (t' := s1.toks) hk, turn_enum a _ _, ⟨⟨_, he⟩, ⟨_, ho, rfl, rfl⟩, Nat.succ_ne_self _⟩, fr, q⟩
theorem walk_enumT {K : PySem.W.Frag} {a : Addr} {xs : List V} : Walk (IteT K a) xs.length (fun H => SqT K H a xs) (YPair (fun i => some (.int (i : Nat))) (fun i => xs[i]?)) := by
  refine ⟨fun i _ hi q => ⟨xs, xs[i], q, by simp [hi]⟩, fun _ q => ⟨xs, q, Nat.le_refl _⟩, fun i H v H' _ q y => ?_⟩
  obtain ⟨T, x, e1, e2, e3, e4⟩ := y
  exact ⟨T, .int (i : Nat), x, e1, e2, e3, rfl, e4 xs q⟩
end CS
namespace CS
open PySem PySem.Spec PyProof.Rows L2

section
variable {prog : Program} {w : World} {A : Around} {E : Value → Shared → Prop} {s : Shared} {z TI TO T i1 i2 : Addr} {fp1 fp2 : List Addr} {n1 n2 i : Nat} {P1 P2 : Nat → Value → Prop} {St1 St2 : Nat → Heap → Prop} {f : Bool} {oT : Obj}
/-- one more of a zip whose tuple is still held by somebody -/
theorem held_item {Q : Value → Shared → Prop} (S : ZipSep2 z TI TO i1 i2 fp1 fp2) (D1 : Draws prog w A i1 fp1 n1 P1 St1) (D2 : Draws prog w A i2 fp2 n2 P2 St2)
    (hz : IsZipHeld s.heap z TI TO T f) (hT : s.heap.get? T = some oT) (hTI : IsTupOf2 s.heap TI (.ref i1) (.ref i2)) (st1 : St1 i s.heap) (st2 : St2 i s.heap) (lt1 : i < n1) (lt2 : i < n2)
    (hq : ∀ x y h' tk, P1 i x → P2 i y → IsZipHeld h' z TI TO T true → St1 (i + 1) h' → St2 (i + 1) h' → IsTupOf2 h' s.heap.objs.size x y → h'.objs.size = s.heap.objs.size + 1 →
      (∀ c u, c ≠ z → c ≠ i1 → c ≠ i2 → s.heap.get? c = some u → h'.get? c = some u) → Q (.ref s.heap.objs.size) { s with heap := h', toks := tk }) :
    wpAny (model prog w) A (Builtin.«zip.__next__» ⟨[.ref z], []⟩) (fun fin s' => ∃ v, fin = .done (.ret v) ∧ Q v s') E s := by
  obtain ⟨hp, gn, dr, tk0, os⟩ := s
  show wpAny _ _ (field (.ref z) 2 >>= _) _ _ _
  refine wpAny_bind (wpAny_field hz rfl (x := .bool false) rfl ?_)
  show wpAny _ _ (field (.ref z) 3 >>= _) _ _ _
  refine wpAny_bind (wpAny_field hz rfl (x := .ref TI) rfl (wpAny_bind (wpAny_seqItems hTI rfl ?_)))
  show wpAny _ _ (Builtin.SmallTypes.ownedTupleIsFree (.ref z) >>= _) _ _ _
  refine wpAny_bind (wpAny_tupleHeld_zip hz hT fun g1 hz1 hs1 => ?_)
  replace hs1 : Heap.SameBut z hp g1 := hs1
  simp only [Bool.false_eq_true, if_false]
  refine wpAny_bind ?_
  rw [← Array.forIn_toList]
  simp only [List.forIn_cons, List.forIn_nil]
  refine wpAny_bind (wpAny_bind (wpAny_holding ?_))
  show wpAny _ _ (Builtin.SmallTypes.nextOf (.ref i1) >>= _) _ _ ⟨g1, gn, dr, tk0, os⟩
  refine wpAny_bind (D1.item i _ _ _ lt1 (D1.over st1 hs1 S.zf1) fun x g2 tk1 hx sn1 hs2 => wpAny_pure (wpAny_pure ?_))
  replace hs2 : Heap.SameBut i1 g1 g2 := hs2
  refine wpAny_bind (wpAny_bind (wpAny_holding ?_))
  show wpAny _ _ (Builtin.SmallTypes.nextOf (.ref i2) >>= _) _ _ ⟨g2, gn, dr, tk1, os⟩
  refine wpAny_bind (D2.item i _ _ _ lt2 (D2.over (D2.over st2 hs1 S.zf2) hs2 S.sep1_2) fun y g3 tk2 hy sn2 hs3 => wpAny_pure (wpAny_pure (wpAny_pure ?_)))
  replace hs3 : Heap.SameBut i2 g2 g3 := hs3
  show wpAny _ _ (newTuple [x, y] >>= _) _ _ ⟨g3, gn, dr, tk2, os⟩
  refine wpAny_bind (wpAny_newTuple ?_)
  have esz : g3.objs.size = hp.objs.size := by rw [hs3.1, hs2.1, hs1.1]
  have hz3 : IsZipHeld g3 z TI TO T true := hs3.extBut _ _ S.zi2 (hs2.extBut _ _ S.zi1 hz1)
  have kept : ∀ c u, c ≠ z → c ≠ i1 → c ≠ i2 → hp.get? c = some u → g3.get? c = some u := fun c u c1 c2 c3 q => hs3.extBut _ _ c3 (hs2.extBut _ _ c2 (hs1.extBut _ _ c1 q))
  have j1 : St1 (i + 1) g3 := D1.over sn1 hs3 S.sep2_1
  refine wpAny_pure ⟨_, rfl, ?_⟩
  show Q (.ref g3.objs.size) _
  have tp : IsTupOf2 (g3.push { cls := .type "tuple", data := .seq #[x, y] }) g3.objs.size x y := Heap.get?_push_size _ rfl
  have sz4 : (g3.push { cls := .type "tuple", data := .seq #[x, y] }).objs.size = g3.objs.size + 1 := Heap.size_push ..
  rw [esz] at tp sz4 ⊢
  exact hq x y _ tk2 hx hy (Heap.get?_push_of_some _ hz3) (D1.frame _ _ _ j1 fun b _ u q => Heap.get?_push_of_some _ q) (D2.frame _ _ _ sn2 fun b _ u q => Heap.get?_push_of_some _ q) tp sz4 fun c u c1 c2 c3 q => Heap.get?_push_of_some _ (kept c u c1 c2 c3 q)
theorem held_end {Q : Fin → Shared → Prop} (S : ZipSep2 z TI TO i1 i2 fp1 fp2) (D1 : Draws prog w A i1 fp1 n1 P1 St1) (D2 : Draws prog w A i2 fp2 n2 P2 St2)
    (hz : IsZipHeld s.heap z TI TO T f) (hT : s.heap.get? T = some oT) (hTI : IsTupOf2 s.heap TI (.ref i1) (.ref i2)) (st1 : St1 i s.heap) (st2 : St2 i s.heap) (le1 : i ≤ n1) (le2 : i ≤ n2) (fin : i = n1 ∨ i = n2)
    (he : ∀ h' tk e, (∀ c u, c ≠ z → c ≠ i1 → c ≠ i2 → s.heap.get? c = some u → h'.get? c = some u) → (∃ u, h'.get? e = some u ∧ u.cls = .type "StopIteration") → E (.ref e) { s with heap := h', toks := tk }) :
    wpAny (model prog w) A (Builtin.«zip.__next__» ⟨[.ref z], []⟩) Q E s := by
  obtain ⟨hp, gn, dr, tk0, os⟩ := s
  show wpAny _ _ (field (.ref z) 2 >>= _) _ _ _
  refine wpAny_bind (wpAny_field hz rfl (x := .bool false) rfl ?_)
  show wpAny _ _ (field (.ref z) 3 >>= _) _ _ _
  refine wpAny_bind (wpAny_field hz rfl (x := .ref TI) rfl (wpAny_bind (wpAny_seqItems hTI rfl ?_)))
  show wpAny _ _ (Builtin.SmallTypes.ownedTupleIsFree (.ref z) >>= _) _ _ _
  refine wpAny_bind (wpAny_tupleHeld_zip hz hT fun g1 hz1 hs1 => ?_)
  replace hs1 : Heap.SameBut z hp g1 := hs1
  simp only [Bool.false_eq_true, if_false]
  refine wpAny_bind ?_
  rw [← Array.forIn_toList]
  simp only [List.forIn_cons, List.forIn_nil]
  refine wpAny_bind (wpAny_bind (wpAny_holding ?_))
  show wpAny _ _ (Builtin.SmallTypes.nextOf (.ref i1) >>= _) _ _ ⟨g1, gn, dr, tk0, os⟩
  by_cases lt1 : i < n1
  · refine wpAny_bind (D1.item i _ _ _ lt1 (D1.over st1 hs1 S.zf1) fun x g2 tk1 hx sn1 hs2 => wpAny_pure (wpAny_pure ?_))
    replace hs2 : Heap.SameBut i1 g1 g2 := hs2
    have ei : i = n2 := by omega
    refine wpAny_bind (wpAny_bind (wpAny_holding ?_))
    show wpAny _ _ (Builtin.SmallTypes.nextOf (.ref i2) >>= _) _ _ ⟨g2, gn, dr, tk1, os⟩
    refine wpAny_bind (D2.done ⟨g2, gn, dr, tk1, os⟩ _ _ (by rw [← ei]; exact D2.over (D2.over st2 hs1 S.zf2) hs2 S.sep1_2) fun q e hq hE => ?_)
    replace hq : Heap.ExtBut i2 g2 q := hq
    exact he q tk1 e (fun c u c1 c2 c3 r => hq _ _ c3 (hs2.extBut _ _ c2 (hs1.extBut _ _ c1 r))) hE
  · have ei : i = n1 := by omega
    refine wpAny_bind (D1.done ⟨g1, gn, dr, tk0, os⟩ _ _ (by rw [← ei]; exact D1.over st1 hs1 S.zf1) fun q e hq hE => ?_)
    replace hq : Heap.ExtBut i1 g1 q := hq
    exact he q tk0 e (fun c u c1 c2 c3 r => hq _ _ c2 (hs1.extBut _ _ c1 r)) hE
/-- where a zip stands ahead of its i-th turn, if what it gave is kept -/
def ZAt (z TI TO i1 i2 : Addr) (S : Addr) (St1 St2 : Nat → Heap → Prop) (i : Nat) (h : Heap) : Prop :=
  IsTupOf2 h TI (.ref i1) (.ref i2) ∧ St1 i h ∧ St2 i h ∧ ((IsZip h z TI TO .none ∧ ∃ a b, IsTupOf2 h TO a b) ∨ ∃ T f oT, IsZipHeld h z TI TO T f ∧ h.get? T = some oT ∧ T ≠ z ∧ T ≠ i1 ∧ T ≠ i2 ∧ T ≠ S)
theorem z_item {S0 : Addr} {Q : Option Value → Shared → Prop} (S : ZipSep2 z TI TO i1 i2 fp1 fp2) (D1 : Draws prog w A.in1 i1 fp1 n1 P1 St1) (D2 : Draws prog w A.in1 i2 fp2 n2 P2 St2)
    (hz : ZAt z TI TO i1 i2 S0 St1 St2 i s.heap) (hS : S0 < s.heap.objs.size) (lt1 : i < n1) (lt2 : i < n2)
    (hq : ∀ x y h' tk, P1 i x → P2 i y → ZAt z TI TO i1 i2 S0 St1 St2 (i + 1) h' → IsTupOf2 h' s.heap.objs.size x y → h'.objs.size = s.heap.objs.size + 1 →
      (∀ c u, c ≠ z → c ≠ TO → c ≠ i1 → c ≠ i2 → s.heap.get? c = some u → h'.get? c = some u) → Q (some (.ref s.heap.objs.size)) { s with heap := h', toks := tk }) :
    wpAny (model prog w) A (pyNext (.ref z)) Q E s := by
  obtain ⟨hTI, st1, st2, q⟩ := hz
  have lti1 : i1 < s.heap.objs.size := by obtain ⟨_, q⟩ := D1.live _ _ st1; exact Heap.lt_size q
  have lti2 : i2 < s.heap.objs.size := by obtain ⟨_, q⟩ := D2.live _ _ st2; exact Heap.lt_size q
  rcases q with ⟨hz, a, b, hTO⟩ | ⟨T, f, oT, hz, hT, t1, t2, t3, t4⟩
  · have ltz : z < s.heap.objs.size := Heap.lt_size hz
    refine wpAny_pyNext_zipD2_item S D1 D2 hz hTI hTO st1 st2 lt1 lt2 fun x y h' tk p1 p2 b1 b2 d1 d2 b5 b6 b7 => hq x y h' tk p1 p2 ⟨b7 _ _ S.TIz S.TITO S.TIi1 S.TIi2 hTI, d1, d2, .inr ⟨s.heap.objs.size, false, _, b1, b5, ?_⟩⟩ b5 b6 b7
    exact ⟨Nat.ne_of_gt ltz, Nat.ne_of_gt lti1, Nat.ne_of_gt lti2, Nat.ne_of_gt hS⟩
  · have hty : s.TypeIs (.ref z) "zip" := ⟨_, hz, rfl⟩
    unfold pyNext
    exact wpAny_bind (wpAny_attempt (wpAny_callSpecial?_slot (name := Str.ofString "__next__") hty F.slot_zip_next (wpAny_call_entry F.slot_zip_next hty F.entry_zip_next
      (held_item S D1 D2 hz hT hTI st1 st2 lt1 lt2 fun x y h' tk p1 p2 b1 d1 d2 b5 b6 b7 => wpAny_pure (hq x y h' tk p1 p2
        ⟨b7 _ _ S.TIz S.TIi1 S.TIi2 hTI, d1, d2, .inr ⟨T, true, oT, b1, b7 _ _ t1 t2 t3 hT, t1, t2, t3, t4⟩⟩ b5 b6 fun c u c1 _ c3 c4 q => b7 c u c1 c3 c4 q)) (F.args_zip_next_1 _))))
theorem z_end {S0 : Addr} {Q : Option Value → Shared → Prop} (S : ZipSep2 z TI TO i1 i2 fp1 fp2) (D1 : Draws prog w A.in1 i1 fp1 n1 P1 St1) (D2 : Draws prog w A.in1 i2 fp2 n2 P2 St2)
    (hz : ZAt z TI TO i1 i2 S0 St1 St2 i s.heap) (le1 : i ≤ n1) (le2 : i ≤ n2) (fin : i = n1 ∨ i = n2)
    (hq : ∀ h' tk, (∀ c u, c ≠ z → c ≠ TO → c ≠ i1 → c ≠ i2 → s.heap.get? c = some u → h'.get? c = some u) → Q none { s with heap := h', toks := tk }) : wpAny (model prog w) A (pyNext (.ref z)) Q E s := by
  obtain ⟨hTI, st1, st2, q⟩ := hz
  rcases q with ⟨hz, a, b, hTO⟩ | ⟨T, f, oT, hz, hT, t1, t2, t3, t4⟩
  · exact wpAny_pyNext_zipD2_end S D1 D2 hz hTI hTO st1 st2 le1 le2 fin hq
  · have hty : s.TypeIs (.ref z) "zip" := ⟨_, hz, rfl⟩
    unfold pyNext
    refine wpAny_bind (wpAny_attempt (wpAny_callSpecial?_slot (name := Str.ofString "__next__") hty F.slot_zip_next (wpAny_call_entry F.slot_zip_next hty F.entry_zip_next
      (held_end S D1 D2 hz hT hTI st1 st2 le1 le2 fin fun h' tk e hk hE => ?_) (F.args_zip_next_1 _))))
    obtain ⟨u, hu, hcl⟩ := hE
    exact wpAny_bind (wpAny_isInstance (T := "StopIteration") (b := true) ⟨u, hu, hcl⟩ isSubtype_stop (wpAny_pure (hq _ _ fun c v c1 _ c3 c4 q => hk c v c1 c3 c4 q)))
theorem ZAt.through {S0 : Addr} {h h' : Heap} (S : ZipSep2 z TI TO i1 i2 fp1 fp2) (D1 : Draws prog w A i1 fp1 n1 P1 St1) (D2 : Draws prog w A i2 fp2 n2 P2 St2) (n1' : S0 ∉ fp1) (n2' : S0 ∉ fp2) (nT : TI ≠ S0) (nz : z ≠ S0) (nO : TO ≠ S0)
    (hz : ZAt z TI TO i1 i2 S0 St1 St2 i h) (k : ∀ c u, c ≠ S0 → h.get? c = some u → h'.get? c = some u) : ZAt z TI TO i1 i2 S0 St1 St2 i h' := by
  obtain ⟨hTI, st1, st2, q⟩ := hz
  refine ⟨k _ _ nT hTI, D1.frame _ _ _ st1 fun b hb u e => k _ _ (fun z => n1' (z ▸ hb)) e, D2.frame _ _ _ st2 fun b hb u e => k _ _ (fun z => n2' (z ▸ hb)) e, ?_⟩
  rcases q with ⟨hz, a, b, hTO⟩ | ⟨T, f, oT, hz, hT, t1, t2, t3, t4⟩
  · exact .inl ⟨k _ _ nz hz, a, b, k _ _ nO hTO⟩
  · exact .inr ⟨T, f, oT, k _ _ nz hz, k _ _ t4 hT, t1, t2, t3, t4⟩
end
end CS
namespace CS
open PySem PySem.Spec PyProof.Rows L2
theorem zip_nolen : typeLookup (.type "zip") "__len__" = pure none := am_miss_of_fast (by decide +kernel)
theorem zip_nohint : typeLookup (.type "zip") "__length_hint__" = pure none := am_miss_of_fast (by decide +kernel)
/-- the j-th address of as holds the pair of the j-th of xs and the j-th of ys -/
def PairsAt (xs ys : List V) (as : List Addr) (H : Hp) : Prop := ∀ (j : Nat) (a : Addr) (x y : V), as[j]? = some a → xs[j]? = some x → ys[j]? = some y → H a = some (.tup [x, y])
section
variable {X : Cx} {pins : List (Addr × Obj)} {σ : L2.St} {s : Shared} {A : Around} {z TI TO i1 i2 S0 : Addr} {fp1 fp2 : List Addr} {St1 St2 : Nat → Heap → Prop} {xs ys : List V} {its1 its2 : List Value} {n1 n2 n : Nat} {H0 : Hp}
/-- what the loop that collects a zip has reached -/
structure ZGot (X : Cx) (pins : List (Addr × Obj)) (σ : L2.St) (s : Shared) (z TO i1 i2 S0 : Addr) (xs ys : List V) (H0 : Hp) (i : Nat) (h : Heap) (tk : Nat) (Hc : Hp) (acc : Array Value) (c : Nat) (as : List Addr) : Prop where
  inv : Inv X pins σ Hc { s with heap := h, toks := tk }
  lst : h.get? S0 = some { cls := .type "list", dict := none, data := .seq acc c, slots := #[] }
  acc : acc.toList = as.map Value.ref
  len : as.length = i
  fp : ∀ b ∈ [z, TO, i1, i2, S0], FpOk X pins Hc b
  same : Same H0 Hc
  good : PairsAt xs ys as Hc
theorem z_loop {R : Result → Shared → Prop} (S : ZipSep2 z TI TO i1 i2 fp1 fp2) (rx : Vals xs its1) (ry : Vals ys its2)
    (D1 : Draws X.prog X.w A.in1.in1 i1 fp1 xs.length (fun j v => its1[j]? = some v) St1) (D2 : Draws X.prog X.w A.in1.in1 i2 fp2 ys.length (fun j v => its2[j]? = some v) St2)
    (sf1 : S0 ∉ fp1) (sf2 : S0 ∉ fp2) (nT : TI ≠ S0) (nz : z ≠ S0) (nO : TO ≠ S0) (hn : n = min xs.length ys.length) (hfit : n ≤ sizeLine) (res : Value)
    (hR : ∀ h tk Hc acc c as, ZGot X pins σ s z TO i1 i2 S0 xs ys H0 n h tk Hc acc c as → R (.ok (.ret res)) { s with heap := h, toks := tk }) :
    ∀ (k i : Nat) (h : Heap) (tk : Nat) (Hc : Hp) (acc : Array Value) (c : Nat) (as : List Addr), n - i = k → i ≤ n → ZGot X pins σ s z TO i1 i2 S0 xs ys H0 i h tk Hc acc c as → ZAt z TI TO i1 i2 S0 St1 St2 i h → (∀ b ∈ [z, TO, i1, i2, S0], b < h.objs.size) →
    codeAny (model X.prog X.w) A (.builtin "list.extend.loop" ⟨[.ref S0, .ref z, res], []⟩) R { s with heap := h, toks := tk } := by
  intro k
  induction k with
  | zero =>
    intro i h tk Hc acc c as ek hi G zat low
    have ein : i = n := by omega
    subst ein
    refine codeAny_builtin F.entry_extend_loop ?_
    rw [Around.under_plainId F.plain_extend_loop _]
    show wpAny _ A.in1 (pyNext (.ref z) >>= _) _ _ _
    refine wpAny_bind (z_end S D1 D2 zat (by omega) (by omega) (by omega) fun h' tk' hk => ?_)
    have hS : z ≠ S0 ∧ i1 ≠ S0 ∧ i2 ≠ S0 := ⟨nz, fun q => sf1 (q ▸ S.mem1), fun q => sf2 (q ▸ S.mem2)⟩
    refine wpAny_pure (hR h' tk' Hc acc c as ⟨?_, hk _ _ nz.symm nO.symm hS.2.1.symm hS.2.2.symm G.lst, G.acc, G.len, G.fp, G.same, G.good⟩)
    exact G.inv.turnedL (s := { s with heap := h, toks := tk }) (t' := tk') (ch := [z, TO, i1, i2, S0]) (fun b u hb q => hk b u (fun e => hb (by simp [e])) (fun e => hb (by simp [e])) (fun e => hb (by simp [e])) (fun e => hb (by simp [e])) q) G.fp
  | succ k ih =>
    intro i h tk Hc acc c as ek hi G zat low
    have hS : z ≠ S0 ∧ i1 ≠ S0 ∧ i2 ≠ S0 := ⟨nz, fun q => sf1 (q ▸ S.mem1), fun q => sf2 (q ▸ S.mem2)⟩
    have hSlt : S0 < h.objs.size := Heap.lt_size G.lst
    refine codeAny_builtin F.entry_extend_loop ?_
    rw [Around.under_plainId F.plain_extend_loop _]
    show wpAny _ A.in1 (pyNext (.ref z) >>= _) _ _ _
    refine wpAny_bind (z_item (s := { s with heap := h, toks := tk }) S D1 D2 zat hSlt (by omega) (by omega) fun u v h' tk' hu hv zat' tp hsz hk => ?_)
    obtain ⟨x, hx, rxu⟩ : ∃ x, xs[i]? = some x ∧ RelV x u := by
      have hlt : i < xs.length := by omega
      obtain ⟨u', e1, e2⟩ := rx.get (List.getElem?_eq_getElem hlt)
      rw [e1] at hu
      cases hu
      exact ⟨_, List.getElem?_eq_getElem hlt, e2⟩
    obtain ⟨y, hy, ryv⟩ : ∃ y, ys[i]? = some y ∧ RelV y v := by
      have hlt : i < ys.length := by omega
      obtain ⟨u', e1, e2⟩ := ry.get (List.getElem?_eq_getElem hlt)
      rw [e1] at hv
      cases hv
      exact ⟨_, List.getElem?_eq_getElem hlt, e2⟩
    have hS' := hk _ _ nz.symm nO.symm hS.2.1.symm hS.2.2.symm G.lst
    have hT0 : Hc h.objs.size = none := G.inv.hok.fresh (Nat.le_refl _)
    have nw : ObjOk X.prog X.w (upd Hc h.objs.size (.tup [x, y])) h' h.objs.size (.tup [x, y]) := ⟨by show 2 ≤ sizeLine; decide, [u, v], .cons rxu (.cons ryv .nil), ⟨_, tp, rfl, _, rfl⟩⟩
    have I1 : Inv X pins σ (upd Hc h.objs.size (.tup [x, y])) { s with heap := h', toks := tk' } :=
      G.inv.turnedNew (s := { s with heap := h, toks := tk }) (t' := tk') (ch := [z, TO, i1, i2, S0]) (fun b q hb e => hk b q (fun e => hb (by simp [e])) (fun e => hb (by simp [e])) (fun e => hb (by simp [e])) (fun e => hb (by simp [e])) e) G.fp (Nat.le_refl _) nw
    have fp2' : ∀ b ∈ [z, TO, i1, i2, S0], FpOk X pins (upd Hc h.objs.size (.tup [x, y])) b := fun b hb => by
      obtain ⟨f0, fr⟩ := G.fp b hb
      refine ⟨?_, fr⟩
      have hlt : b ≠ h.objs.size := Nat.ne_of_lt (low b hb)
      rw [upd_ne hlt]
      exact f0
    show wpAny _ A.in1 (updateSeq S0 (·.push (.ref h.objs.size)) >>= _) _ _ _
    have esz : acc.size = i := by rw [← Array.length_toList, G.acc, List.length_map, G.len]
    refine wpAny_bind (wpAny_updateSeq (s := { s with heap := h', toks := tk' }) hS' rfl (wpAny_pure ⟨plainId_quiet F.plain_extend_loop _, ?_⟩) (by rw [esz]; omega) (by show (acc.push _).size ≤ sizeLine + 1; rw [Array.size_push, esz]; omega))
    have oth : ∀ b q, b ≠ S0 → h'.get? b = some q → (h'.update S0 (Obj.mapSeq (·.push (Value.ref h.objs.size)))).get? b = some q := fun b q hb e => (Heap.get?_update_other _ _ (Ne.symm hb)).trans e
    refine ih (i + 1) _ tk' (upd Hc h.objs.size (.tup [x, y])) (acc.push (.ref h.objs.size)) _ (as ++ [h.objs.size]) (by omega) (by omega) ⟨?_, Heap.get?_update_self _ hS' rfl, ?_, ?_, fp2', ?_, ?_⟩ (ZAt.through S D1 D2 sf1 sf2 nT nz nO zat' oth) (fun b hb => by
      have q := low b hb
      rw [(Heap.SameBut.update h' S0 _).1, hsz]
      exact Nat.lt_succ_of_lt q)
    · exact I1.turnedL (s := { s with heap := h', toks := tk' }) (t' := tk') (ch := [z, TO, i1, i2, S0]) (fun b q hb e => oth b q (fun e => hb (by simp [e])) e) fp2'
    · rw [Array.toList_push, G.acc, List.map_append]
      rfl
    · rw [List.length_append, G.len]
      rfl
    · exact fun b q e => by rw [upd_ne (ne_of_none (G.same b q e) hT0)]; exact G.same b q e
    · intro j a x' y' ha hx' hy'
      by_cases hj : j < i
      · have ha' : as[j]? = some a := by rw [List.getElem?_append_left (by rw [G.len]; exact hj)] at ha; exact ha
        have q := G.good j a x' y' ha' hx' hy'
        rw [upd_ne (ne_of_none q hT0)]
        exact q
      · have ej : j = i := by
          have q := (List.getElem?_eq_some_iff.mp ha).1
          rw [List.length_append, G.len, List.length_singleton] at q
          omega
        subst ej
        rw [List.getElem?_append_right (by rw [G.len]; exact Nat.le_refl _), G.len, Nat.sub_self] at ha
        have ea : h.objs.size = a := Option.some.inj ha
        rw [hx] at hx'
        rw [hy] at hy'
        cases hx'
        cases hy'
        rw [← ea]
        exact upd_same
/-- collecting a zip -/
theorem z_collect {Q : List Value → Shared → Prop} {E : Value → Shared → Prop} (S : ZipSep2 z TI TO i1 i2 fp1 fp2) (rx : Vals xs its1) (ry : Vals ys its2)
    (D1 : Draws X.prog X.w A.in1.in1 i1 fp1 xs.length (fun j v => its1[j]? = some v) St1) (D2 : Draws X.prog X.w A.in1.in1 i2 fp2 ys.length (fun j v => its2[j]? = some v) St2)
    (hn : n = min xs.length ys.length) (hfit : n ≤ sizeLine) (I : Inv X pins σ H0 s) (hz : IsZip s.heap z TI TO .none) (hTI : IsTupOf2 s.heap TI (.ref i1) (.ref i2)) (hTO : ∃ a b, IsTupOf2 s.heap TO a b) (st1 : St1 0 s.heap) (st2 : St2 0 s.heap)
    (l1 : ∀ b ∈ fp1, b < s.heap.objs.size) (l2 : ∀ b ∈ fp2, b < s.heap.objs.size) (fp0 : ∀ b ∈ [z, TO, i1, i2], FpOk X pins H0 b)
    (hq : ∀ h tk Hc as, Inv X pins σ Hc { s with heap := h, toks := tk } → as.length = n → Same H0 Hc → PairsAt xs ys as Hc → Q (as.map Value.ref) { s with heap := h, toks := tk }) :
    wpAny (model X.prog X.w) A (collect (.ref z)) Q E s := by
  have zl : z < s.heap.objs.size := Heap.lt_size hz
  have Tl : TI < s.heap.objs.size := Heap.lt_size hTI
  have Ol : TO < s.heap.objs.size := by obtain ⟨_, _, q⟩ := hTO; exact Heap.lt_size q
  have nm : ∀ {l : List Addr}, (∀ b ∈ l, b < s.heap.objs.size) → s.heap.objs.size ∉ l := fun h q => Nat.lt_irrefl _ (h _ q)
  unfold collect
  refine wpAny_bind (wpAny_runValue (codeAny_builtin F.entry_proto_collect ?_))
  rw [Around.under_plainId F.plain_proto_collect _]
  show wpAny _ A.in1 (newList [] >>= fun l => again (.builtin "list.__iadd__" ⟨[l, .ref z], []⟩)) _ _ s
  refine wpAny_bind (wpAny_newObj_type (wpAny_pure ⟨plainId_quiet F.plain_list_iadd _, codeAny_builtin F.entry_list_iadd ?_⟩))
  rw [Around.under_plainId F.plain_list_iadd _]
  have up : ∀ b u, s.heap.get? b = some u → (s.heap.push { cls := .type "list", data := .seq ([] : List Value).toArray }).get? b = some u := fun b u e => Heap.get?_push_of_some _ e
  have hL : (s.heap.push { cls := .type "list", data := .seq ([] : List Value).toArray }).get? s.heap.objs.size = some { cls := .type "list", data := .seq #[] } := Heap.get?_push_size _ rfl
  have zty : ({ s with heap := s.heap.push { cls := .type "list", data := .seq ([] : List Value).toArray } } : Shared).TypeIs (.ref z) "zip" := ⟨_, up _ _ hz, rfl⟩
  have e1 : Builtin.List.listSameRef (.ref s.heap.objs.size) (.ref z) = false := by simp [Builtin.List.listSameRef, Nat.ne_of_gt zl]
  have e2 : (Value.type "zip" == Value.type "list") = false := by decide
  have e3 : (Value.type "zip" == Value.type "tuple") = false := by decide
  show wpAny _ A.in1 (Builtin.List.listExtendWith (.ref s.heap.objs.size) (.ref z) (.ref s.heap.objs.size)) _ _ _
  unfold Builtin.List.listExtendWith
  refine wpAny_bind (wpAny_typeOf zty ?_)
  simp only [e1, e2, e3, Bool.or_false, Bool.false_eq_true, if_false]
  refine wpAny_bind (wpAny_pyIter_zip (up _ _ hz) (wpAny_bind (wpAny_holding ?_)))
  unfold Builtin.List.listLengthHint
  refine wpAny_bind (wpAny_specialOf zty zip_nolen ?_)
  show wpAny _ A.in1 (specialOf (Value.ref z) (Str.ofString "__length_hint__") >>= _) _ _ _
  refine wpAny_bind (wpAny_specialOf zty zip_nohint (wpAny_pure ?_))
  show wpAny _ A.in1 (rule "list.extend.makes-room" >>= fun _ => Builtin.List.listTouch (.ref s.heap.objs.size) >>= fun _ =>
    again (.builtin "list.extend.loop" ⟨[.ref s.heap.objs.size, .ref z, .ref s.heap.objs.size], []⟩)) _ _ _
  refine wpAny_bind (wpAny_rule (wpAny_bind ?_))
  show wpAny _ A.in1 (updateSeq s.heap.objs.size (·.push .none) >>= fun _ => updateSeq s.heap.objs.size (·.pop)) _ _ _
  refine wpAny_bind (wpAny_updateSeq hL rfl ?_)
  have hL2 := Heap.get?_update_self (Obj.mapSeq (·.push Value.none)) hL rfl
  refine wpAny_updateSeq hL2 rfl ?_
  have hL3 := Heap.get?_update_self (Obj.mapSeq (·.pop)) hL2 rfl
  have oth : ∀ b u, b ≠ s.heap.objs.size → (s.heap.push { cls := .type "list", data := .seq ([] : List Value).toArray }).get? b = some u →
      (((s.heap.push { cls := .type "list", data := .seq ([] : List Value).toArray }).update s.heap.objs.size (Obj.mapSeq (·.push Value.none))).update s.heap.objs.size (Obj.mapSeq (·.pop))).get? b = some u :=
    fun b u hb e => (Heap.get?_update_other _ _ (Ne.symm hb)).trans ((Heap.get?_update_other _ _ (Ne.symm hb)).trans e)
  have old : ∀ b u, s.heap.get? b = some u → (((s.heap.push { cls := .type "list", data := .seq ([] : List Value).toArray }).update s.heap.objs.size (Obj.mapSeq (·.push Value.none))).update s.heap.objs.size (Obj.mapSeq (·.pop))).get? b = some u :=
    fun b u e => oth b u (Nat.ne_of_lt (Heap.lt_size e)) (up b u e)
  have esz : (((s.heap.push { cls := .type "list", data := .seq ([] : List Value).toArray }).update s.heap.objs.size (Obj.mapSeq (·.push Value.none))).update s.heap.objs.size (Obj.mapSeq (·.pop))).objs.size = s.heap.objs.size + 1 := by
    rw [(Heap.SameBut.update _ _ _).1, (Heap.SameBut.update _ _ _).1, Heap.size_push]
  refine wpAny_pure ⟨plainId_quiet F.plain_extend_loop _, z_loop (X := X) (pins := pins) (σ := σ) (s := s) (xs := xs) (ys := ys) (H0 := H0) S rx ry D1 D2 (nm l1) (nm l2) (Nat.ne_of_lt Tl) (Nat.ne_of_lt zl) (Nat.ne_of_lt Ol) hn hfit _
    (fun h tk Hc acc c as G => ?_) n 0 _ s.toks H0 #[] _ [] (Nat.sub_zero _) (Nat.zero_le _) ⟨I.kept (t' := s.toks) old, hL3, rfl, rfl, fun b hb => ?_, fun _ _ e => e, fun j a x y ha => by cases ha⟩ ⟨old _ _ hTI, D1.frame _ _ _ st1 fun b _ u e => old b u e, D2.frame _ _ _ st2 fun b _ u e => old b u e, .inl ⟨old _ _ hz, ?_⟩⟩ fun b hb => ?_⟩
  · show wpAny _ A (load s.heap.objs.size >>= _) _ _ _
    refine wpAny_bind (wpAny_load G.lst (wpAny_pure ?_))
    show Q acc.toList _
    rw [G.acc]
    exact hq h tk Hc as G.inv G.len G.same G.good
  · by_cases e : b = s.heap.objs.size
    · rw [e]
      exact I.fpOk (Nat.le_refl _) (I.hok.fresh (Nat.le_refl _))
    · exact fp0 b (by
        have q : b = z ∨ b = TO ∨ b = i1 ∨ b = i2 ∨ b = s.heap.objs.size := by simpa using hb
        rcases q with q | q | q | q | q
        · simp [q]
        · simp [q]
        · simp [q]
        · simp [q]
        · exact absurd q e)
  · obtain ⟨a, b, q⟩ := hTO
    exact ⟨a, b, old _ _ q⟩
  · rw [esz]
    have q : b = z ∨ b = TO ∨ b = i1 ∨ b = i2 ∨ b = s.heap.objs.size := by simpa using hb
    rcases q with q | q | q | q | q
    · rw [q]; exact Nat.lt_succ_of_lt zl
    · rw [q]; exact Nat.lt_succ_of_lt Ol
    · rw [q]; exact Nat.lt_succ_of_lt (l1 _ S.mem1)
    · rw [q]; exact Nat.lt_succ_of_lt (l2 _ S.mem2)
    · rw [q]; exact Nat.lt_succ_self _
end
end CS
namespace CS
open PySem PySem.Spec PyProof.Rows L2
section
variable {prog : Program} {w : World} {A : Around} {E : Value → Shared → Prop} {s : Shared}
/-- what collecting an object gives, as lists of values -/
def Coll (prog : Program) (w : World) (A : Around) (s : Shared) (z : Addr) (G : Heap → Nat → List Value → Prop) : Prop :=
  ∀ (E : Value → Shared → Prop) (Q : List Value → Shared → Prop), (∀ h tk vs, G h tk vs → Q vs { s with heap := h, toks := tk }) → wpAny (model prog w) A (collect (.ref z)) Q E s
theorem tupcoll_code {Q₁ : Value → Shared → Prop} {z : Addr} {G : Heap → Nat → List Value → Prop} (hT : s.TypeIs (.ref z) "zip") (C : Coll prog w A.in1 s z G) (hfit : ∀ h tk vs, G h tk vs → vs.length ≤ sizeLine)
    (hq : ∀ h tk vs, G h tk vs → Q₁ (.ref h.objs.size) { s with heap := h.push { cls := .type "tuple", data := .seq vs.toArray }, toks := tk }) :
    codeAny (model prog w) A (.call (.builtin "tuple.__new__") ⟨[.type "tuple", .ref z], []⟩) (wants Q₁ E) s := by
  refine codeAny_of_tree ?_
  show wpAny _ A.in1 (do checkBuiltinCall "tuple.__new__" ⟨[.type "tuple", .ref z], []⟩; again (.builtin "tuple.__new__" ⟨[.type "tuple", .ref z], []⟩)) _ _ s
  refine wpAny_bind (wpAny_of_eq (F.newCall_tuple_1 _) (wpAny_pure ⟨plainId_quiet F.plain_tuple_new _, codeAny_builtin F.entry_tuple_new ?_⟩))
  rw [Around.under_plainId F.plain_tuple_new _]
  have q1 := sub_tuple_self
  have q2 := init_tuple_lookup
  have q3 := madeHere_tuple
  have cc : ∀ {E : Value → Shared → Prop} {Q : List Value → Shared → Prop}, (∀ h tk vs, G h tk vs → Q vs { s with heap := h, toks := tk }) → wpAny (model prog w) A.in1 (collect (.ref z)) Q E s := fun h => C _ _ h
  wp_walk using wpAny_typeOf hT, cc
  intro h tk vs g
  show wpAny _ _ (Builtin.Tuple.tupleExact vs.toArray >>= fun v => ret v) _ _ _
  unfold Builtin.Tuple.tupleExact
  refine wpAny_bind (wpAny_newObj_type (wpAny_pure ?_) (by show vs.toArray.size ≤ sizeLine; rw [List.size_toArray]; exact hfit h tk vs g))
  exact hq h tk vs g
theorem tupcoll_call {Q : Value → Shared → Prop} {z : Addr} {G : Heap → Nat → List Value → Prop} (hT : s.TypeIs (.ref z) "zip") (C : Coll prog w A.in1.in1 s z G) (hfit : ∀ h tk vs, G h tk vs → vs.length ≤ sizeLine)
    (hq : ∀ h tk vs, G h tk vs → Q (.ref h.objs.size) { s with heap := h.push { cls := .type "tuple", data := .seq vs.toArray }, toks := tk }) :
    wpAny (model prog w) A (call (.type "tuple") [.ref z]) Q E s := by
  refine callType_codes (Q₁ := fun obj s₁ => s₁.TypeIs obj "tuple" ∧ Q obj s₁) F.called_tuple (F.typeCall_tuple_1 _) F.entry_object_init (tupcoll_code (A := A.in1) hT C hfit fun h tk vs g => ⟨⟨_, Heap.get?_push_size _ rfl, rfl⟩, hq h tk vs g⟩) fun obj s₁ h₁ => ?_
  exact ⟨h₁.1, F.args_object_init_2 obj _, object_init_meets F.called_tuple.init.lookup F.called_tuple.made (by decide) prog w A.in1 _ s₁ ⟨h₁.1, rfl, h₁.2⟩⟩
end
section
variable {X : Cx}
/-- tuple(zip(x, y)), x and y both lists or both tuples: a new tuple of new pairs -/
def tTupZip (K : PySem.W.Frag) (ta : TA) : TE := fun σ H Q => ta σ H fun vs H1 => ∃ (a b : Addr) (xs ys : List V), vs = [.ref a, .ref b] ∧ ((SqT K H1 a xs ∧ SqT K H1 b ys) ∨ (SqL K H1 a xs ∧ SqL K H1 b ys)) ∧
  ∀ (Hc : Hp) (p : Addr) (as : List Addr), Same H1 Hc → as.length = min xs.length ys.length → PairsAt xs ys as Hc → Hc p = none → Q (.ref p) (upd Hc p (.tup (as.map V.ref)))
theorem lt_of_tuple {s : Shared} {a : Addr} {its : Array Value} (p : IsTup s.heap a its) : a < s.heap.objs.size := by
  obtain ⟨u, hu, _⟩ := p
  exact Heap.lt_size hu
theorem lt_of_plain {s : Shared} {a : Addr} {its : Array Value} (p : PlainL s.heap a its) : a < s.heap.objs.size := p.lt
theorem pe_tupZip {e e2 : Expr} {ta : TA} {p p2 pos q2 : Pos} (gT : Gl X "tuple") (mT : X.mg "tuple" = none) (gZ : Gl X "zip") (mZ : X.mg "zip" = none) (ha : PA X [e, e2] ta) (hc : X.calm = true := by rfl)
    (na : starEach [.Call (.Name "zip" p2) [e, e2] [] q2] X.env = (false, eval (.Call (.Name "zip" p2) [e, e2] [] q2) X.env) :: starEach [] X.env := by rfl)
    (hs : starEach [e, e2] X.env = (false, eval e X.env) :: starEach [e2] X.env := by rfl) (hpl : (backTo q2 (starEach [e2] X.env)).any (·.1) = false := by rfl) :
    PE X (.Call (.Name "tuple" p) [.Call (.Name "zip" p2) [e, e2] [] q2] [] pos) (tTupZip X.K ta) := by
  refine ⟨fun pins s0 σ H0 Q I0 hw => ?_⟩
  refine Call_ (ld_blt I0 gT mT boot_tuple (PyProof.Rows.callWith_type1 (PyProof.Rows.args_cons ?_ na) na))
  refine Call_ (ld_blt I0 gZ mZ PyProof.Rows.boot_zip (PyProof.Rows.callWith_type1 (thn (ha.run q2 pins s0 σ H0 _ I0 hw) fun us s1 ⟨vs, H1, I1, r1, q1⟩ => ?_) hs hpl))
  obtain ⟨a, b, xs, ys, rfl, hsq, q⟩ := q1
  obtain ⟨u1, u2, rfl, ra, rb⟩ := vals2 r1
  cases ra
  cases rb
  have hh : X.A.handled = none := I1.ok.hd hc
  have key : ∀ (o1 o2 : Obj) (F1 F2 : Heap → Prop) (its1 its2 : List Value) (St1 St2 : Nat → Heap → Prop), Begins (.ref a) o1 F1 → Begins (.ref b) o2 F2 → F1 s1.heap → F2 s1.heap → Vals xs its1 → Vals ys its2 → xs.length ≤ sizeLine → a < s1.heap.objs.size → b < s1.heap.objs.size →
      Draws X.prog X.w X.A.in1.in1.in1.in1 s1.heap.objs.size [s1.heap.objs.size, a] xs.length (fun j v => its1[j]? = some v) St1 → Draws X.prog X.w X.A.in1.in1.in1.in1 (s1.heap.objs.size + 1) [s1.heap.objs.size + 1, b] ys.length (fun j v => its2[j]? = some v) St2 →
      (∀ h', h'.get? s1.heap.objs.size = some o1 → (∀ c u, s1.heap.get? c = some u → h'.get? c = some u) → St1 0 h') → (∀ h', h'.get? (s1.heap.objs.size + 1) = some o2 → (∀ c u, s1.heap.get? c = some u → h'.get? c = some u) → St2 0 h') →
      wpAny (model X.prog X.w) X.A (call (.type "zip") [.ref a, .ref b]) (fun v s' => wpAny (model X.prog X.w) X.A (spliced (backTo pos (starEach [] X.env))) (fun vs s'' => wpAny (model X.prog X.w) X.A (call (.type "tuple") (v :: vs)) (EP X pins σ Q) X.xe s'') X.xe s') X.xe s1 := by
    intro o1 o2 F1 F2 its1 its2 St1 St2 B1 B2 f1 f2 rx ry hz al bl D1 D2 k1 k2
    refine zip_begins2 B1 B2 f1 f2 fun h' hzp hTI hTO g1 g2 hsz hk => ?_
    refine PyProof.Rows.args_nil ?_
    have I2 : Inv X pins σ H1 { s1 with heap := h' } := I1.kept (t' := s1.toks) hk
    have S := zip_sep2 (N := s1.heap.objs.size) (fp1 := [a]) (fp2 := [b]) (fun c hc => by rw [List.mem_singleton.mp hc]; exact al) (fun c hc => by rw [List.mem_singleton.mp hc]; exact bl)
    refine tupcoll_call (s := { s1 with heap := h' }) (G := fun h tk vs => ∃ Hc as, vs = as.map Value.ref ∧ Inv X pins σ Hc { s1 with heap := h, toks := tk } ∧ as.length = min xs.length ys.length ∧ Same H1 Hc ∧ PairsAt xs ys as Hc) ⟨_, hzp, rfl⟩
      (fun E' Q' hQ' => z_collect (A := X.A.in1.in1) (s := { s1 with heap := h' }) (pins := pins) (σ := σ) (n := min xs.length ys.length) S rx ry D1 D2 rfl (by omega) I2 hzp hTI ⟨_, _, hTO⟩ (k1 h' g1 hk) (k2 h' g2 hk) ?_ ?_ ?_ fun h tk Hc as J l sm pr => hQ' h tk _ ⟨Hc, as, rfl, J, l, sm, pr⟩)
      ?_ ?_
    · intro c hc
      have hc' : c = s1.heap.objs.size ∨ c = a := by simpa using hc
      show c < h'.objs.size
      rw [hsz]
      rcases hc' with e | e
      · rw [e]; exact Nat.lt_add_of_pos_right (by decide)
      · rw [e]; exact Nat.lt_of_lt_of_le al (Nat.le_add_right _ _)
    · intro c hc
      have hc' : c = s1.heap.objs.size + 1 ∨ c = b := by simpa using hc
      show c < h'.objs.size
      rw [hsz]
      rcases hc' with e | e
      · rw [e]; exact Nat.add_lt_add_left (by decide) _
      · rw [e]; exact Nat.lt_of_lt_of_le bl (Nat.le_add_right _ _)
    · intro c hc
      have hle : s1.heap.objs.size ≤ c := by
        have hc' : c = s1.heap.objs.size + 4 ∨ c = s1.heap.objs.size + 3 ∨ c = s1.heap.objs.size ∨ c = s1.heap.objs.size + 1 := by simpa using hc
        rcases hc' with e | e | e | e
        · rw [e]; exact Nat.le_add_right _ _
        · rw [e]; exact Nat.le_add_right _ _
        · rw [e]; exact Nat.le_refl _
        · rw [e]; exact Nat.le_add_right _ _
      exact I1.fpOk hle (I1.hok.fresh hle)
    · rintro h tk vs ⟨Hc, as, rfl, _, l, _, _⟩
      rw [List.length_map, l]
      omega
    · rintro h tk vs ⟨Hc, as, rfl, J, l, sm, pr⟩
      have rvs : Vals (as.map V.ref) (as.map Value.ref) := by
        clear l pr
        induction as with
        | nil => exact .nil
        | cons x t ih => exact .cons rfl ih
      refine ⟨.ref h.objs.size, upd Hc h.objs.size (.tup (as.map V.ref)), J.laid (s := { s1 with heap := h, toks := tk }) (t' := tk) (fun c u e => Heap.get?_push_of_some _ e) (Nat.le_refl _) ?_, rfl, q Hc _ as sm l pr (J.hok.fresh (Nat.le_refl _))⟩
      exact ⟨by rw [List.length_map, l]; omega, _, rvs, IsTup.new _ _⟩
  rcases hsq with ⟨hx, hy⟩ | ⟨hx, hy⟩
  · obtain ⟨its1, rx, px, hzx⟩ := I1.tuple hx
    obtain ⟨its2, ry, py, hzy⟩ := I1.tuple hy
    have ax := lt_of_tuple px
    have ay := lt_of_tuple py
    have D1 := Draws.tuple (prog := X.prog) (w := X.w) (A := X.A.in1.in1.in1.in1) hh s1.heap.objs.size a (Nat.ne_of_lt ax) its1.toArray
    have D2 := Draws.tuple (prog := X.prog) (w := X.w) (A := X.A.in1.in1.in1.in1) hh (s1.heap.objs.size + 1) b (Nat.ne_of_lt (Nat.lt_succ_of_lt ay)) its2.toArray
    have e1 : its1.toArray.size = xs.length := by rw [List.size_toArray]; exact rx.length.symm
    have e2 : its2.toArray.size = ys.length := by rw [List.size_toArray]; exact ry.length.symm
    rw [e1] at D1
    rw [e2] at D2
    simp only [List.getElem?_toArray] at D1 D2
    exact key _ _ _ _ its1 its2 _ _ (begins_tuple a its1.toArray) (begins_tuple b its2.toArray) px py rx ry hzx ax ay D1 D2 (fun h' g k => ⟨⟨_, g, rfl, rfl⟩, (show s1.heap.IsTuple a its1.toArray from px).at fun u e => k _ u e⟩) (fun h' g k => ⟨⟨_, g, rfl, rfl⟩, (show s1.heap.IsTuple b its2.toArray from py).at fun u e => k _ u e⟩)
  · obtain ⟨its1, rx, px, hzx⟩ := I1.list hx
    obtain ⟨its2, ry, py, hzy⟩ := I1.list hy
    have ax := lt_of_plain px
    have ay := lt_of_plain py
    have D1 := Draws.list (prog := X.prog) (w := X.w) (A := X.A.in1.in1.in1.in1) hh s1.heap.objs.size a (Nat.ne_of_lt ax) its1.toArray
    have D2 := Draws.list (prog := X.prog) (w := X.w) (A := X.A.in1.in1.in1.in1) hh (s1.heap.objs.size + 1) b (Nat.ne_of_lt (Nat.lt_succ_of_lt ay)) its2.toArray
    have e1 : its1.toArray.size = xs.length := by rw [List.size_toArray]; exact rx.length.symm
    have e2 : its2.toArray.size = ys.length := by rw [List.size_toArray]; exact ry.length.symm
    rw [e1] at D1
    rw [e2] at D2
    simp only [List.getElem?_toArray] at D1 D2
    exact key _ _ _ _ its1 its2 _ _ (begins_list a its1.toArray) (begins_list b its2.toArray) px.isList py.isList rx ry hzx ax ay D1 D2 (fun h' g k => ⟨⟨_, g, rfl, rfl⟩, px.isList.at fun u e => k _ u e⟩) (fun h' g k => ⟨⟨_, g, rfl, rfl⟩, py.isList.at fun u e => k _ u e⟩)
end
end CS
namespace K01
open PySem PySem.Spec PyProof.Rows L2 CS
def top (i : Nat) : Stmt := PySem.Challenge.pw_countedsteps_k01_what_a_journey_tells.main.body.getD i (.Pass ⟨0, 0, 0, 0⟩)
abbrev sSteps : Stmt := top 1
abbrev sVisits : Stmt := top 2
abbrev sExits : Stmt := top 3
abbrev sEntries : Stmt := top 4
abbrev sTurned : Stmt := top 5
abbrev sBox : Stmt := top 7
abbrev sTake : Stmt := top 8
abbrev sCells : Stmt := top 9
abbrev sOf : Stmt := top 10
abbrev sPick : Stmt := top 11
abbrev sSame : Stmt := top 12
abbrev sTags : Stmt := top 13
abbrev sWalk : Stmt := top 14
abbrev sCase : Stmt := top 15
abbrev sHand : Stmt := top 16
abbrev sRight : Stmt := top 17
abbrev sLaw : Stmt := top 18

/-! ### heaps and lists -/
theorem same_upd {H : Hp} {p : Addr} {o : HO} (h : H p = none) : Same H (upd H p o) := fun b x e => by
  rw [upd_ne (ne_of_none e h)]
  exact e
theorem cut1 (xs : List V) : cutV xs (some 1) none = xs.drop 1 := by
  unfold cutV
  rw [show HT.sIx xs.length 0 (some 1) = min 1 xs.length from HT.sIx_nat xs.length 0 1, HT.sIx_none]
  cases xs with
  | nil => rfl
  | cons x r =>
    rw [show min 1 (x :: r).length = 1 by
      rw [List.length_cons]
      omega]
    show (List.take ((x :: r).length - 1) r) = r
    rw [List.length_cons, Nat.add_sub_cancel]
    exact List.take_length
theorem sIx_one {n : Nat} (h : 0 < n) : HT.sIx n 0 (some 1) = 1 := by
  rw [show HT.sIx n 0 (some 1) = min 1 n from HT.sIx_nat n 0 1]
  omega
theorem sqT_same {K : PySem.W.Frag} {H H' : Hp} {a : Addr} {xs : List V} (e : Same H H') (h : SqT K H a xs) : SqT K H' a xs := by
  rcases h with (h | ⟨o, h⟩) | h
  · exact .inl (.inl (e _ _ h))
  · exact .inl (.inr ⟨o, e _ _ h⟩)
  · exact .inr h
/-- a tuple or a list of texts -/
def Jr (K : PySem.W.Frag) (H : Hp) (a : Addr) (ss : List Str) : Prop := SqT K H a (ss.map V.str) ∨ SqL K H a (ss.map V.str)
theorem Jr.keep {K : PySem.W.Frag} {H H' : Hp} {a : Addr} {ss : List Str} (h : Jr K H a ss) (s : Same H H') : Jr K H' a ss := by
  rcases h with h | h
  · exact .inl (sqT_same s h)
  · exact .inr (s.seq h)
section
variable {P : Program} {w : World} {K : PySem.W.Frag} {mg : Str → Option Value} {base : Heap}
/-! ### steps_of -/
def spSteps (K : PySem.W.Frag) : Sp := fun vs H Q _ => ∃ (a : Addr) (ss : List Str), vs = [.ref a] ∧ Jr K H a ss ∧ 0 < ss.length ∧
  ∀ (H' : Hp) (p : Addr) (as : List Addr), Same H H' → H p = none → H' p = some (.tup (as.map V.ref)) → as.length = ss.length - 1 → PairsAt (ss.map V.str) (ss.tail.map V.str) as H' → Q (.ref p) H'
theorem scSteps : FnScope ["journey"] ["journey"] (defScope sSteps) := ⟨rfl, rfl, rfl, by decide +kernel, rfl, by decide +kernel, by decide +kernel⟩
theorem ok_steps {f : Addr} {fd : FuncData} {k : Nat} (F : Fun K "steps_of" "steps_of" sSteps f fd) (mt : mg "tuple" = none) (mz : mg "zip" = none) : FnOk P w K mg base CX0 (k + 1) f fd ["journey"] (spSteps K) := by
  refine F.ok scSteps (fun vs H Q E h => ?_) (fun cdv A outer s H vs Q E hr h => ?_)
  · obtain ⟨a, ss, rfl, _⟩ := h
    rfl
  · obtain ⟨a, ss, rfl, hJ, h0, q⟩ := h
    refine ⟨_, pss_one (ps_ret (pe_tupZip (by rfl) mt (by rfl) mz (pa_cons (pv 0) (pa_cons (pe_slice (SlR.or sl_tup sl_list) (pv 0) (po_some pe_int) po_none) pa_nil)))), ?_⟩
    have hne : ¬ (HT.sIx (ss.map V.str).length 0 (some 1) = 0 ∧ HT.sIx (ss.map V.str).length (ss.map V.str).length none = (ss.map V.str).length) := fun z => by
      rw [sIx_one (by rw [List.length_map]; exact h0)] at z
      exact absurd z.1 (by decide)
    have fin : ∀ (H1 Hc : Hp) (p : Addr) (as : List Addr), Same H H1 → Same H1 Hc → as.length = min (ss.map V.str).length (cutV (ss.map V.str) (some 1) none).length → PairsAt (ss.map V.str) (cutV (ss.map V.str) (some 1) none) as Hc → Hc p = none → Q (.ref p) (upd Hc p (.tup (as.map V.ref))) := fun H1 Hc p as s1 s2 l pr np => by
      rw [cut1, ← List.map_drop, List.drop_one] at pr l
      have s3 : Same H Hc := s1.trans s2
      refine q _ p as (s3.trans (same_upd np)) (s3.free np) upd_same ?_ ?_
      · rw [l, List.length_map, List.length_map, List.length_tail]
        omega
      · exact fun j a x y e1 e2 e3 => by rw [upd_ne (ne_of_none (pr j a x y e1 e2 e3) np)]; exact pr j a x y e1 e2 e3
    refine ⟨.ref a, rfl, .ref a, rfl, 1, rfl, ?_⟩
    rcases hJ with hJ | hJ
    · refine .inl ⟨a, _, rfl, hJ, hne, fun c nc => ⟨a, c, _, _, rfl, .inl ⟨sqT_same (same_upd nc) hJ, .inl (.inl upd_same)⟩, fun Hc p as s2 l pr np => fin _ Hc p as (same_upd nc) s2 l pr np⟩⟩
    · refine .inr ⟨a, _, rfl, hJ, fun c nc => ⟨a, c, _, _, rfl, .inr ⟨(same_upd nc).seq hJ, .inl (.inl upd_same)⟩, fun Hc p as s2 l pr np => fin _ Hc p as (same_upd nc) s2 l pr np⟩⟩
/-! ### exits, entries -/
def prs (ss : List Str) : List (Str × Str) := ss.zip ss.tail
theorem prs_len (ss : List Str) : (prs ss).length = ss.length - 1 := by
  unfold prs
  rw [List.length_zip, List.length_tail]
  omega
theorem prs_at {H : Hp} {ss : List Str} {as : List Addr} (h : PairsAt (ss.map V.str) (ss.tail.map V.str) as H) (hl : as.length = ss.length - 1) {j : Nat} {v : V} (hv : (as.map V.ref)[j]? = some v) :
    ∃ (T : Addr) (x y : Str), v = .ref T ∧ (prs ss)[j]? = some (x, y) ∧ H T = some (.tup [.str x, .str y]) := by
  rw [List.getElem?_map] at hv
  have hj : j < ss.length - 1 := by
    rw [← hl]
    refine Classical.byContradiction fun z => ?_
    rw [List.getElem?_eq_none (by omega)] at hv
    cases hv
  have h1 : j < as.length := by omega
  have h2 : j < ss.length := by omega
  have h3 : j < ss.tail.length := by rw [List.length_tail]; exact hj
  rw [List.getElem?_eq_getElem h1] at hv
  refine ⟨as[j], ss[j], ss.tail[j], (Option.some.inj hv).symm, ?_, h j _ _ _ (List.getElem?_eq_getElem h1) ?_ ?_⟩
  · unfold prs
    rw [List.getElem?_zip_eq_some]
    exact ⟨List.getElem?_eq_getElem h2, List.getElem?_eq_getElem h3⟩
  · rw [List.getElem?_map, List.getElem?_eq_getElem h2]
    rfl
  · rw [List.getElem?_map, List.getElem?_eq_getElem h3]
    rfl
def exL (pl : Str) (l : List (Str × Str)) : List Str := (l.filter fun p => p.1 == pl).map (·.2)
def enL (pl : Str) (l : List (Str × Str)) : List Str := (l.filter fun p => p.2 == pl).map (·.1)
theorem take_snoc {α : Type} {l : List α} {i : Nat} {x : α} (h : l[i]? = some x) : l.take (i + 1) = l.take i ++ [x] := by
  rw [List.take_add_one, h]
  rfl
theorem exL_snoc (pl : Str) (l : List (Str × Str)) (x y : Str) : exL pl (l ++ [(x, y)]) = exL pl l ++ if x = pl then [y] else [] := by
  unfold exL
  rw [List.filter_append, List.map_append]
  by_cases h : x = pl
  · simp [h]
  · simp [h]
theorem enL_snoc (pl : Str) (l : List (Str × Str)) (x y : Str) : enL pl (l ++ [(x, y)]) = enL pl l ++ if y = pl then [x] else [] := by
  unfold enL
  rw [List.filter_append, List.map_append]
  by_cases h : y = pl
  · simp [h]
  · simp [h]
theorem exL_len (pl : Str) (l : List (Str × Str)) : (exL pl l).length ≤ l.length := by
  unfold exL
  rw [List.length_map]
  exact List.length_filter_le _ _
theorem enL_len (pl : Str) (l : List (Str × Str)) : (enL pl l).length ≤ l.length := by
  unfold enL
  rw [List.length_map]
  exact List.length_filter_le _ _
def spPl (K : PySem.W.Frag) (g : List Str → Str → List V) : Sp := fun vs H Q _ => ∃ (a : Addr) (ss : List Str) (pl : Str), vs = [.ref a, .str pl] ∧ Jr K H a ss ∧ 0 < ss.length ∧ ss.length ≤ 1000 ∧
  ∀ (H' : Hp) (p : Addr), Same H H' → H p = none → H' p = some (.tup (g ss pl)) → Q (.ref p) H'
def gEx (ss : List Str) (pl : Str) : List V := (exL pl (prs ss)).map V.str
def gEn (ss : List Str) (pl : Str) : List V := (enL pl (prs ss)).map V.str
theorem scExits : FnScope ["journey", "place", "one", "other"] ["journey", "place"] (defScope sExits) := ⟨rfl, rfl, rfl, by decide +kernel, rfl, by decide +kernel, by decide +kernel⟩
theorem ok_exits {f g : Addr} {fd gd : FuncData} {k : Nat} (F : Fun K "exits" "exits" sExits f fd) (G : FnOk P w K mg base CX0 k g gd ["journey"] (spSteps K)) (bG : Binds K gd ["journey"] []) (kG : PySem.W.keepIn K (.ref g) = true) (mG : mg "steps_of" = some (.ref g)) (mt : mg "tuple" = none) :
    FnOk P w K mg base CX0 (k + 1) f fd ["journey", "place"] (spPl K gEx) := by
  refine F.ok scExits (fun vs H Q E h => ?_) (fun cdv A outer s H vs Q E hr h => ?_)
  · obtain ⟨a, ss, pl, rfl, _⟩ := h
    rfl
  · obtain ⟨a, ss, pl, rfl, hJ, h0, h1, q⟩ := h
    refine ⟨_, pss_one (ps_ret (pe_tupleOf (by rfl) mt (pe_lc (own := [("one", 2), ("other", 3)]) (g := gTup K 2 (gCons (gName 2) (gCons (gName 3) gNil))) (by rfl) scExits.nd (pi_tup (pe_call G hr (by rfl) mG kG bG .nil pass0 (pa_cons (pv 0) pa_nil)))
      (blkOk_by (own := [("one", 2), ("other", 3)]) (N := ["journey", "place", "one", "other"]) (sc := defScope sExits) (by decide +kernel))
      (fun _ _ _ _ _ => pg_tup rfl (pgs_cons (pg_name (i := 2) scExits.nd rfl (Or.inl rfl) (.inr rfl)) (pgs_cons (pg_name (i := 3) scExits.nd rfl (Or.inl rfl) (.inr rfl)) pgs_nil)))
      (fun _ _ _ _ _ => pts_one (pt_cmpR op_eq (pv 2) (pv 1) (nomark _))) (fun _ _ _ _ _ => pv 3)))), ?_⟩
    refine ⟨.ref a, rfl, a, ss, rfl, hJ, h0, fun H1 p0 as s1 n0 e0 hl hp => ?_⟩
    have hT : SqT K H1 p0 (as.map V.ref) := SqT.of e0
    refine ⟨p0, rfl, ⟨_, hT⟩, fun D nD => lc_tup (K := K) (a := p0) (xs := as.map V.ref) (fun i H' => Same H1 H' ∧ H' D = some (.lst ((exL pl ((prs ss).take i)).map V.str))) ⟨same_upd nD, upd_same⟩ (fun i H' _ z => sqT_same z.1 hT) ?_ ?_⟩
    · rintro i x H2 hx ⟨s2, eD⟩
      obtain ⟨T, x1, y1, rfl, hij, hT2⟩ := prs_at hp hl hx
      refine ⟨T, [.str x1, .str y1], rfl, SqT.of (s2 _ _ hT2), rfl, .str x1, [.str y1], rfl, .str y1, [], rfl, rfl, ?_⟩
      refine ⟨rfl, .str x1, rfl, .str pl, rfl, rfl, _, rfl, ?_⟩
      rw [take_snoc hij, exL_snoc]
      refine ite2 (fun c => ?_) (fun c => ?_)
      · have c' : x1 = pl := V.str.inj (of_decide_eq_true c)
        rw [if_pos c', List.map_append]
        refine ⟨.str y1, rfl, _, eD, ?_, fun b o e => ?_, upd_same⟩
        · rw [List.length_map]
          exact Nat.lt_of_le_of_lt (Nat.le_trans (exL_len _ _) (by rw [List.length_take, prs_len]; omega)) (small1000 h1)
        · rw [upd_ne (ne_of_none e nD)]
          exact s2 _ _ e
      · have c' : ¬ x1 = pl := fun z => c (decide_eq_true (congrArg V.str z))
        rw [if_neg c', List.append_nil]
        exact ⟨s2, eD⟩
    · rintro H2 ⟨s2, eD⟩
      have e3 : (as.map V.ref).length = (prs ss).length := by rw [List.length_map, hl, prs_len]
      rw [e3, List.take_length] at eD
      refine .inl ⟨D, _, rfl, SqL.of eD, fun p np => ?_⟩
      exact q _ p (s1.trans (s2.trans (same_upd np))) (s1.free (s2.free np)) upd_same
theorem scEntries : FnScope ["journey", "place", "one", "other"] ["journey", "place"] (defScope sEntries) := ⟨rfl, rfl, rfl, by decide +kernel, rfl, by decide +kernel, by decide +kernel⟩
theorem ok_entries {f g : Addr} {fd gd : FuncData} {k : Nat} (F : Fun K "entries" "entries" sEntries f fd) (G : FnOk P w K mg base CX0 k g gd ["journey"] (spSteps K)) (bG : Binds K gd ["journey"] []) (kG : PySem.W.keepIn K (.ref g) = true) (mG : mg "steps_of" = some (.ref g)) (mt : mg "tuple" = none) :
    FnOk P w K mg base CX0 (k + 1) f fd ["journey", "place"] (spPl K gEn) := by
  refine F.ok scEntries (fun vs H Q E h => ?_) (fun cdv A outer s H vs Q E hr h => ?_)
  · obtain ⟨a, ss, pl, rfl, _⟩ := h
    rfl
  · obtain ⟨a, ss, pl, rfl, hJ, h0, h1, q⟩ := h
    refine ⟨_, pss_one (ps_ret (pe_tupleOf (by rfl) mt (pe_lc (own := [("one", 2), ("other", 3)]) (g := gTup K 2 (gCons (gName 2) (gCons (gName 3) gNil))) (by rfl) scEntries.nd (pi_tup (pe_call G hr (by rfl) mG kG bG .nil pass0 (pa_cons (pv 0) pa_nil)))
      (blkOk_by (own := [("one", 2), ("other", 3)]) (N := ["journey", "place", "one", "other"]) (sc := defScope sEntries) (by decide +kernel))
      (fun _ _ _ _ _ => pg_tup rfl (pgs_cons (pg_name (i := 2) scEntries.nd rfl (Or.inl rfl) (.inr rfl)) (pgs_cons (pg_name (i := 3) scEntries.nd rfl (Or.inl rfl) (.inr rfl)) pgs_nil)))
      (fun _ _ _ _ _ => pts_one (pt_cmpR op_eq (pv 3) (pv 1) (nomark _))) (fun _ _ _ _ _ => pv 2)))), ?_⟩
    refine ⟨.ref a, rfl, a, ss, rfl, hJ, h0, fun H1 p0 as s1 n0 e0 hl hp => ?_⟩
    have hT : SqT K H1 p0 (as.map V.ref) := SqT.of e0
    refine ⟨p0, rfl, ⟨_, hT⟩, fun D nD => lc_tup (K := K) (a := p0) (xs := as.map V.ref) (fun i H' => Same H1 H' ∧ H' D = some (.lst ((enL pl ((prs ss).take i)).map V.str))) ⟨same_upd nD, upd_same⟩ (fun i H' _ z => sqT_same z.1 hT) ?_ ?_⟩
    · rintro i x H2 hx ⟨s2, eD⟩
      obtain ⟨T, x1, y1, rfl, hij, hT2⟩ := prs_at hp hl hx
      refine ⟨T, [.str x1, .str y1], rfl, SqT.of (s2 _ _ hT2), rfl, .str x1, [.str y1], rfl, .str y1, [], rfl, rfl, ?_⟩
      refine ⟨rfl, .str y1, rfl, .str pl, rfl, rfl, _, rfl, ?_⟩
      rw [take_snoc hij, enL_snoc]
      refine ite2 (fun c => ?_) (fun c => ?_)
      · have c' : y1 = pl := V.str.inj (of_decide_eq_true c)
        rw [if_pos c', List.map_append]
        refine ⟨.str x1, rfl, _, eD, ?_, fun b o e => ?_, upd_same⟩
        · rw [List.length_map]
          exact Nat.lt_of_le_of_lt (Nat.le_trans (enL_len _ _) (by rw [List.length_take, prs_len]; omega)) (small1000 h1)
        · rw [upd_ne (ne_of_none e nD)]
          exact s2 _ _ e
      · have c' : ¬ y1 = pl := fun z => c (decide_eq_true (congrArg V.str z))
        rw [if_neg c', List.append_nil]
        exact ⟨s2, eD⟩
    · rintro H2 ⟨s2, eD⟩
      have e3 : (as.map V.ref).length = (prs ss).length := by rw [List.length_map, hl, prs_len]
      rw [e3, List.take_length] at eD
      refine .inl ⟨D, _, rfl, SqL.of eD, fun p np => ?_⟩
      exact q _ p (s1.trans (s2.trans (same_upd np))) (s1.free (s2.free np)) upd_same
/-! ### turned -/
def spTurned (K : PySem.W.Frag) : Sp := fun vs H Q _ => ∃ (a : Addr) (ss : List Str), vs = [.ref a] ∧ Jr K H a ss ∧ ∀ (H' : Hp) (p : Addr), Same H H' → H p = none → H' p = some (.tup (ss.reverse.map V.str)) → Q (.ref p) H'
theorem scTurned : FnScope ["journey"] ["journey"] (defScope sTurned) := ⟨rfl, rfl, rfl, by decide +kernel, rfl, by decide +kernel, by decide +kernel⟩
theorem ok_turned {f : Addr} {fd : FuncData} {k : Nat} (F : Fun K "turned" "turned" sTurned f fd) (mt : mg "tuple" = none) : FnOk P w K mg base CX0 (k + 1) f fd ["journey"] (spTurned K) := by
  refine F.ok scTurned (fun vs H Q E h => ?_) (fun cdv A outer s H vs Q E hr h => ?_)
  · obtain ⟨a, ss, rfl, _⟩ := h
    rfl
  · obtain ⟨a, ss, rfl, hJ, q⟩ := h
    refine ⟨_, pss_one (ps_ret (pe_tupleOf (by rfl) mt (pe_back (pv 0) (pe_un un_neg pe_int)))), ?_⟩
    refine ⟨.ref a, rfl, 1, rfl, rfl, a, ss.map V.str, rfl, ?_⟩
    rcases hJ with hJ | hJ
    · refine .inl ⟨hJ, fun p np => .inr ⟨p, _, rfl, SqT.of upd_same, q _ p (same_upd np) np ?_⟩⟩
      rw [upd_same, List.map_reverse]
    · refine .inr ⟨hJ, fun l nl => .inl ⟨l, _, rfl, SqL.of upd_same, fun p np => q _ p ((same_upd nl).trans (same_upd np)) ((same_upd nl).free np) ?_⟩⟩
      rw [upd_same, List.map_reverse]
/-! ### visits -/
def viL (pl : Str) : Nat → List Str → List Int
  | _, [] => []
  | n, s :: r => if s = pl then (n : Int) :: viL pl (n + 1) r else viL pl (n + 1) r
theorem viL_snoc (pl : Str) (x : Str) : ∀ (n : Nat) (l : List Str), viL pl n (l ++ [x]) = viL pl n l ++ if x = pl then [((n + l.length : Nat) : Int)] else []
  | n, [] => by
    show (if x = pl then (n : Int) :: viL pl (n + 1) [] else viL pl (n + 1) []) = [] ++ if x = pl then [((n + 0 : Nat) : Int)] else []
    rfl
  | n, s :: r => by
    have ih := viL_snoc pl x (n + 1) r
    have e : n + 1 + r.length = n + (s :: r).length := by rw [List.length_cons]; omega
    rw [e] at ih
    show (if s = pl then (n : Int) :: viL pl (n + 1) (r ++ [x]) else viL pl (n + 1) (r ++ [x])) = (if s = pl then (n : Int) :: viL pl (n + 1) r else viL pl (n + 1) r) ++ _
    rw [ih]
    by_cases c : s = pl
    · rw [if_pos c, if_pos c]
      rfl
    · rw [if_neg c, if_neg c]
theorem viL_len (pl : Str) : ∀ (n : Nat) (l : List Str), (viL pl n l).length ≤ l.length
  | _, [] => Nat.le_refl _
  | n, s :: r => by
    have ih := viL_len pl (n + 1) r
    show (if s = pl then (n : Int) :: viL pl (n + 1) r else viL pl (n + 1) r).length ≤ r.length + 1
    by_cases c : s = pl
    · rw [if_pos c]
      exact Nat.succ_le_succ ih
    · rw [if_neg c]
      exact Nat.le_succ_of_le ih
def gVi (ss : List Str) (pl : Str) : List V := (viL pl 0 ss).map V.int
theorem scVisits : FnScope ["journey", "place", "at", "here"] ["journey", "place"] (defScope sVisits) := ⟨rfl, rfl, rfl, by decide +kernel, rfl, by decide +kernel, by decide +kernel⟩
theorem ok_visits {f : Addr} {fd : FuncData} {k : Nat} (F : Fun K "visits" "visits" sVisits f fd) (me : mg "enumerate" = none) (mt : mg "tuple" = none) :
    FnOk P w K mg base CX0 (k + 1) f fd ["journey", "place"] (spPl K gVi) := by
  refine F.ok scVisits (fun vs H Q E h => ?_) (fun cdv A outer s H vs Q E hr h => ?_)
  · obtain ⟨a, ss, pl, rfl, _⟩ := h
    rfl
  · obtain ⟨a, ss, pl, rfl, hJ, h0, h1, q⟩ := h
    refine ⟨_, pss_one (ps_ret (pe_tupleOf (by rfl) mt (pe_lc (own := [("at", 2), ("here", 3)]) (g := gTup K 2 (gCons (gName 2) (gCons (gName 3) gNil))) (by rfl) scVisits.nd (pi_enumT (by rfl) me (pa_cons (pv 0) pa_nil))
      (blkOk_by (own := [("at", 2), ("here", 3)]) (N := ["journey", "place", "at", "here"]) (sc := defScope sVisits) (by decide +kernel))
      (fun _ _ _ _ _ => pg_tup rfl (pgs_cons (pg_name (i := 2) scVisits.nd rfl (Or.inl rfl) (.inr rfl)) (pgs_cons (pg_name (i := 3) scVisits.nd rfl (Or.inl rfl) (.inr rfl)) pgs_nil)))
      (fun _ _ _ _ _ => pts_one (pt_cmpR op_eq (pv 3) (pv 1) (nomark _))) (fun _ _ _ _ _ => pv 2)))), ?_⟩
    have turn : ∀ (D : Addr) (i : Nat) (v : V) (H2 H3 : Hp), H D = none → i < (ss.map V.str).length → (Same H H2 ∧ H2 D = some (.lst ((viL pl 0 (ss.take i)).map V.int))) → YPair (fun i => some (.int (i : Nat))) (fun i => (ss.map V.str)[i]?) i H2 v H3 →
        ∃ (T : Addr) (x : Str), v = .ref T ∧ H3 T = some (.tup [.int (i : Nat), .str x]) ∧ ss[i]? = some x ∧ Same H H3 ∧ H3 D = some (.lst ((viL pl 0 (ss.take i)).map V.int)) := by
      rintro D i v H2 H3 nD hi ⟨s2, eD⟩ ⟨T, x, y, rfl, nT, rfl, hx, hy⟩
      cases hx
      replace hy : (ss.map V.str)[i]? = some y := hy
      rw [List.getElem?_map] at hy
      cases e : ss[i]? with
      | none =>
        rw [e] at hy
        cases hy
      | some z =>
        rw [e] at hy
        cases hy
        exact ⟨T, z, rfl, upd_same, rfl, s2.trans (same_upd nT), by rw [upd_ne (ne_of_none eD nT)]; exact eD⟩
    refine ⟨.ref a, rfl, a, ss.map V.str, rfl, ?_⟩
    rcases hJ with hJ | hJ
    · refine .inl ⟨hJ, fun D nD => lc_it (walk_enumT (K := K) (a := a) (xs := ss.map V.str)) (fun i H' => Same H H' ∧ H' D = some (.lst ((viL pl 0 (ss.take i)).map V.int))) ⟨same_upd nD, upd_same⟩ (fun i H' _ z => sqT_same z.1 hJ) ?_ ?_⟩
      · intro i v H2 H3 hi hP hY
        obtain ⟨T, x, rfl, hT, hx, s3, eD⟩ := turn D i v H2 H3 nD hi hP hY
        have hil : i ≤ ss.length := by rw [List.length_map] at hi; omega
        refine ⟨T, [.int (i : Nat), .str x], rfl, SqT.of hT, rfl, .int (i : Nat), [.str x], rfl, .str x, [], rfl, rfl, ?_⟩
        refine ⟨rfl, .str x, rfl, .str pl, rfl, rfl, _, rfl, ?_⟩
        rw [take_snoc hx, viL_snoc]
        refine ite2 (fun c => ?_) (fun c => ?_)
        · have c' : x = pl := V.str.inj (of_decide_eq_true c)
          rw [if_pos c', List.map_append]
          refine ⟨.int (i : Nat), rfl, _, eD, ?_, fun b o e => ?_, ?_⟩
          · rw [List.length_map]
            exact Nat.lt_of_le_of_lt (Nat.le_trans (viL_len _ _ _) (by rw [List.length_take]; omega)) (small1000 h1)
          · rw [upd_ne (ne_of_none e nD)]
            exact s3 _ _ e
          · rw [upd_same, List.length_take, Nat.zero_add, Nat.min_eq_left hil]
            rfl
        · have c' : ¬ x = pl := fun z => c (decide_eq_true (congrArg V.str z))
          rw [if_neg c', List.append_nil]
          exact ⟨s3, eD⟩
      · rintro H2 ⟨s2, eD⟩
        rw [List.length_map, List.take_length] at eD
        refine .inl ⟨D, _, rfl, SqL.of eD, fun p np => ?_⟩
        exact q _ p (s2.trans (same_upd np)) (s2.free np) upd_same
    · refine .inr ⟨hJ, fun D nD => lc_it (walk_enum (K := K) (a := a) (xs := ss.map V.str)) (fun i H' => Same H H' ∧ H' D = some (.lst ((viL pl 0 (ss.take i)).map V.int))) ⟨same_upd nD, upd_same⟩ (fun i H' _ z => z.1.seq hJ) ?_ ?_⟩
      · intro i v H2 H3 hi hP hY
        obtain ⟨T, x, rfl, hT, hx, s3, eD⟩ := turn D i v H2 H3 nD hi hP hY
        have hil : i ≤ ss.length := by rw [List.length_map] at hi; omega
        refine ⟨T, [.int (i : Nat), .str x], rfl, SqT.of hT, rfl, .int (i : Nat), [.str x], rfl, .str x, [], rfl, rfl, ?_⟩
        refine ⟨rfl, .str x, rfl, .str pl, rfl, rfl, _, rfl, ?_⟩
        rw [take_snoc hx, viL_snoc]
        refine ite2 (fun c => ?_) (fun c => ?_)
        · have c' : x = pl := V.str.inj (of_decide_eq_true c)
          rw [if_pos c', List.map_append]
          refine ⟨.int (i : Nat), rfl, _, eD, ?_, fun b o e => ?_, ?_⟩
          · rw [List.length_map]
            exact Nat.lt_of_le_of_lt (Nat.le_trans (viL_len _ _ _) (by rw [List.length_take]; omega)) (small1000 h1)
          · rw [upd_ne (ne_of_none e nD)]
            exact s3 _ _ e
          · rw [upd_same, List.length_take, Nat.zero_add, Nat.min_eq_left hil]
            rfl
        · have c' : ¬ x = pl := fun z => c (decide_eq_true (congrArg V.str z))
          rw [if_neg c', List.append_nil]
          exact ⟨s3, eD⟩
      · rintro H2 ⟨s2, eD⟩
        rw [List.length_map, List.take_length] at eD
        refine .inl ⟨D, _, rfl, SqL.of eD, fun p np => ?_⟩
        exact q _ p (s2.trans (same_upd np)) (s2.free np) upd_same
end
end K01
namespace K01
open PySem PySem.Spec PyProof.Rows L2 CS
/-- all but b is as it was -/
def Keep (b : Addr) (H H' : Hp) : Prop := ∀ c o, c ≠ b → H c = some o → H' c = some o
theorem Keep.refl (b : Addr) (H : Hp) : Keep b H H := fun _ _ _ e => e
theorem Keep.trans {b : Addr} {H H1 H2 : Hp} (x : Keep b H H1) (y : Keep b H1 H2) : Keep b H H2 := fun c o n e => y c o n (x c o n e)
theorem Keep.of_same {b : Addr} {H H1 : Hp} (x : Same H H1) : Keep b H H1 := fun c o _ e => x c o e
theorem Keep.upd {b : Addr} (H : Hp) (o : HO) : Keep b H (L2.upd H b o) := fun c u n e => by rw [upd_ne n]; exact e
theorem Keep.sqL {K : PySem.W.Frag} {b a : Addr} {H H' : Hp} {xs : List V} (x : Keep b H H') (n : a ≠ b) (h : SqL K H a xs) : SqL K H' a xs := by
  rcases h with (h | ⟨o, h⟩) | h
  · exact .inl (.inl (x _ _ n h))
  · exact .inl (.inr ⟨o, x _ _ n h⟩)
  · exact .inr h
theorem Keep.sqT {K : PySem.W.Frag} {b a : Addr} {H H' : Hp} {xs : List V} (x : Keep b H H') (n : a ≠ b) (h : SqT K H a xs) : SqT K H' a xs := by
  rcases h with (h | ⟨o, h⟩) | h
  · exact .inl (.inl (x _ _ n h))
  · exact .inl (.inr ⟨o, x _ _ n h⟩)
  · exact .inr h
theorem b01 (c : Bool) : 0 ≤ (if c = true then (1 : Int) else 0) ∧ (if c = true then (1 : Int) else 0) ≤ 1 := by cases c <;> decide
theorem abs0 (i : Int) : 0 ≤ (if i < 0 then -i else i) := by split <;> omega
theorem mul01 (i : Int) (c : Bool) : CMul i (if c = true then (1 : Int) else 0) := by
  have q := b01 c
  exact .inr ⟨by omega, by omega⟩
theorem dv64 (i : Int) : CDivN i 64 := ⟨by decide, by decide⟩
theorem dvM (i : Int) : CDivN i 1000003 := ⟨by decide, by decide⟩
section
variable {P : Program} {w : World} {K : PySem.W.Frag} {mg : Str → Option Value} {base : Heap}
/-! ### the box of draws -/
/-- a box at b: what is left of the number, the seed, how often it was asked -/
def BoxAt (H : Hp) (b : Addr) (n : Nat) : Prop := ∃ A B C : Int, H b = some (.lst [.int A, .int B, .int C]) ∧ 0 ≤ A ∧ 0 ≤ B ∧ B < 2 ^ 62 ∧ 0 ≤ C ∧ C ≤ n
def spBox (K : PySem.W.Frag) : Sp := fun vs H Q _ => ∃ (a : Addr) (ns : List Int) (k : Nat), vs = [.ref a, .int (k : Nat)] ∧ SqL K H a (ns.map V.int) ∧ k < ns.length ∧ ns.length ≤ 1000 ∧ ∀ (H' : Hp) (p : Addr), Same H H' → H p = none → BoxAt H' p 0 → Q (.ref p) H'
theorem scBox : FnScope ["_law_script", "_law_k", "_law_cell"] ["_law_script", "_law_k"] (defScope sBox) := ⟨rfl, rfl, rfl, by decide +kernel, rfl, by decide +kernel, by decide +kernel⟩
theorem ok_box {f : Addr} {fd : FuncData} {k : Nat} (F : Fun K "_law_box" "_law_box" sBox f fd) (ml : mg "len" = none) (ma : mg "abs" = none) (mi : mg "int" = none) : FnOk P w K mg base CX0 (k + 1) f fd ["_law_script", "_law_k"] (spBox K) := by
  refine F.ok scBox (fun vs H Q E h => ?_) (fun cdv A outer s H vs Q E hr h => ?_)
  · obtain ⟨a, ns, k, rfl, _⟩ := h
    rfl
  · obtain ⟨a, ns, k, rfl, hS, hk, h1, q⟩ := h
    refine ⟨_, pss_cons (ps_set (i := 2) scBox.nd rfl (.inl rfl) (pe_ifExp (pt_cmpR op_lt (pv 1) (pe_callB call_len_seq (by rfl) ml PySem.boot_len (pa_cons (pv 0) pa_nil)) (nomark _)) (pe_ix ix_list (pv 0) (pv 1) (fun _ _ => rfl)) pe_int))
      (pss_one (ps_ret (pe_lst (pa_cons (pe_op op_mul (pe_callB call_abs (by rfl) ma (by decide +kernel) (pa_cons (pv 2) pa_nil)) (pe_callTy call_int1 (by rfl) mi (by decide +kernel) (pa_cons (pe_cmpR op_ge (pe_callB call_abs (by rfl) ma (by decide +kernel) (pa_cons (pv 2) pa_nil)) (pe_op op_pow pe_int pe_int) (nomark _)) pa_nil)))
        (pa_cons (pe_op op_add (pe_op op_add (pe_op op_modN (pe_callTy call_int1 (by rfl) mi (by decide +kernel) (pa_cons (pv 2) pa_nil)) pe_int) (pe_op op_mul pe_int (pv 1))) pe_int) (pa_cons pe_int pa_nil)))))), ?_⟩
    have hx : (ns.map V.int)[k]? = some (.int ns[k]) := by rw [List.getElem?_map, List.getElem?_eq_getElem hk]; rfl
    have hd : decide ((k : Int) < ((ns.map V.int).length : Nat)) = true := decide_eq_true (by rw [List.length_map]; omega)
    refine ⟨.int (k : Nat), rfl, .ref a, rfl, a, _, rfl, .inl hS, _, _, rfl, rfl, _, rfl, ?_⟩
    rw [hd]
    refine ⟨.ref a, rfl, .int (k : Nat), rfl, a, _, _, _, rfl, rfl, hS, atI_nat hx, ?_⟩
    have e1 := Int.fmod_nonneg_of_pos ns[k] (b := 2305843009213693951) (by decide)
    have e2 := Int.fmod_lt_of_pos ns[k] (b := 2305843009213693951) (by decide)
    refine ⟨.int ns[k], rfl, _, rfl, .int ns[k], rfl, _, rfl, 10, 18, rfl, rfl, ⟨by decide, by decide, by decide⟩, _, _, rfl, rfl, .inr ⟨_, rfl, _, _, rfl, rfl, mul01 _ _, ?_⟩⟩
    refine ⟨.int ns[k], rfl, .inl ⟨_, rfl, _, _, rfl, rfl, (by show (2305843009213693951 : Int) ≠ 0; decide), _, rfl, _, _, rfl, rfl, .inl (by decide), _, _, rfl, rfl, _, _, rfl, rfl, ?_⟩⟩
    refine ⟨by show 3 ≤ sizeLine; decide, fun p np => q _ p (same_upd np) np ?_⟩
    refine ⟨_, _, 0, upd_same, Int.mul_nonneg (abs0 _) (b01 _).1, ?_, ?_, Int.le_refl 0, Int.le_refl 0⟩
    · have : (0 : Int) ≤ k := Int.natCast_nonneg k
      omega
    · have : (k : Int) < 1000 := by omega
      omega
/-! ### a draw -/
def spTake : Sp := fun vs H Q _ => ∃ (b : Addr) (n : Nat) (m : Int), vs = [.ref b, .int m] ∧ BoxAt H b n ∧ n ≤ 1000000 ∧ 0 < m ∧ m < 1000000 ∧ ∀ (H' : Hp) (r : Int), Keep b H H' → BoxAt H' b (n + 1) → 0 ≤ r → r < m → Q (.int r) H'
theorem scTake : FnScope ["_law_box_here", "_law_below", "_law_digit_so", "_law_once", "_law_odd", "_law_twice"] ["_law_box_here", "_law_below"] (defScope sTake) := ⟨rfl, rfl, rfl, by decide +kernel, rfl, by decide +kernel, by decide +kernel⟩
theorem ok_take {f : Addr} {fd : FuncData} {k : Nat} (F : Fun K "_law_take" "_law_take" sTake f fd) (mi : mg "int" = none) : FnOk P w K mg base CX0 (k + 1) f fd ["_law_box_here", "_law_below"] spTake := by
  refine F.ok scTake (fun vs H Q E h => ?_) (fun cdv A outer s H vs Q E hr h => ?_)
  · obtain ⟨b, n, m, rfl, _⟩ := h
    rfl
  · obtain ⟨b, n, m, rfl, ⟨A, B, C, hb, hA, hB, hB2, hC, hC2⟩, hn, hm, hm2, q⟩ := h
    refine ⟨_, pss_cons (ps_if (pt_cmpR op_gt (pe_ix ix_list (pv 0) pe_int (fun _ _ => rfl)) pe_int (nomark _))
        (pss_cons (ps_set (i := 2) scTake.nd rfl (.inl rfl) (pe_op op_modN (pe_callTy call_int1 (by rfl) mi (by decide +kernel) (pa_cons (pe_ix ix_list (pv 0) pe_int (fun _ _ => rfl)) pa_nil)) (pv 1)))
          (pss_cons (ps_asg (pe_op op_fdivN (pe_ix ix_list (pv 0) pe_int (fun _ _ => rfl)) (pv 1)) (pg_sub (pv 0) pe_int set_list)) (pss_one (ps_ret (pv 2))))) pss_nil)
      (pss_cons (ps_asg (pe_op op_add (pe_ix ix_list (pv 0) pe_int (fun _ _ => rfl)) pe_int) (pg_sub (pv 0) pe_int set_list))
      (pss_cons (ps_set (i := 3) scTake.nd rfl (.inl rfl) (pe_op op_modN (pe_callTy call_int1 (by rfl) mi (by decide +kernel) (pa_cons (pe_op op_mul (pe_op op_add (pe_ix ix_list (pv 0) pe_int (fun _ _ => rfl)) (pe_op op_mul pe_int (pe_ix ix_list (pv 0) pe_int (fun _ _ => rfl)))) (pe_op op_add pe_int (pe_ix ix_list (pv 0) pe_int (fun _ _ => rfl)))) pa_nil)) pe_int))
      (pss_cons (ps_set (i := 4) scTake.nd rfl (.inl rfl) (pe_op op_add (pe_op op_modN (pe_callTy call_int1 (by rfl) mi (by decide +kernel) (pa_cons (pv 3) pa_nil)) pe_int) pe_int))
      (pss_cons (ps_set (i := 5) scTake.nd rfl (.inl rfl) (pe_op op_modN (pe_callTy call_int1 (by rfl) mi (by decide +kernel) (pa_cons (pe_op op_mul (pe_op op_add (pe_op op_add (pv 3) (pe_ix ix_list (pv 0) pe_int (fun _ _ => rfl))) (pe_op op_fdivN (pe_ix ix_list (pv 0) pe_int (fun _ _ => rfl)) pe_int)) (pv 4)) pa_nil)) pe_int))
      (pss_one (ps_ret (pe_op op_modN (pe_callTy call_int1 (by rfl) mi (by decide +kernel) (pa_cons (pe_op op_fdivN (pe_op op_modN (pe_callTy call_int1 (by rfl) mi (by decide +kernel) (pa_cons (pe_op op_add (pe_op op_mul (pv 5) pe_int) (pv 3)) pa_nil)) pe_int) pe_int) pa_nil)) (pv 1)))))))), ?_⟩
    refine ⟨.ref b, rfl, b, _, 0, .int A, rfl, rfl, SqL.of hb, atI_nat (j := 0) rfl, _, _, rfl, rfl, _, rfl, ?_⟩
    refine ite2 (fun c => ?_) (fun c => ?_)
    · have hg : 0 < A := of_decide_eq_true c
      have r0 := Int.fmod_nonneg_of_pos A hm
      have r1 := Int.fmod_lt_of_pos A hm
      have d0 := Int.fdiv_nonneg hA (Int.le_of_lt hm)
      refine ⟨.ref b, rfl, b, _, 0, .int A, rfl, rfl, SqL.of hb, atI_nat (j := 0) rfl, .inl ⟨A, rfl, .int m, rfl, A, m, rfl, rfl, by omega, ?_⟩⟩
      refine ⟨.ref b, rfl, b, _, 0, .int A, rfl, rfl, SqL.of hb, atI_nat (j := 0) rfl, .int m, rfl, A, m, rfl, rfl, ⟨by omega, by omega⟩, ?_⟩
      refine ⟨.ref b, rfl, b, _, 0, 0, rfl, rfl, hb, rfl, ?_⟩
      refine ⟨_, rfl, ?_⟩
      exact q _ _ (Keep.upd H _) ⟨_, B, C, upd_same, d0, hB, hB2, hC, by omega⟩ r0 r1
    · refine ⟨.ref b, rfl, b, _, 2, .int C, rfl, rfl, SqL.of hb, atI_nat (j := 2) rfl, _, _, rfl, rfl, ?_⟩
      refine ⟨.ref b, rfl, b, _, 2, 2, rfl, rfl, hb, rfl, ?_⟩
      have hb2 : SqL K (upd H b (.lst [.int A, .int B, .int (C + 1)])) b [.int A, .int B, .int (C + 1)] := SqL.of upd_same
      have i1 : atI [V.int A, V.int B, V.int (C + 1)] 1 = some (V.int B) := atI_nat (j := 1) rfl
      have i2 : atI [V.int A, V.int B, V.int (C + 1)] 2 = some (V.int (C + 1)) := atI_nat (j := 2) rfl
      refine ⟨.ref b, rfl, b, _, 1, .int B, rfl, rfl, hb2, i1, .ref b, rfl, b, _, 2, .int (C + 1), rfl, rfl, hb2, i2, _, _, rfl, rfl, .inl (by decide), _, _, rfl, rfl, .ref b, rfl, b, _, 2, .int (C + 1), rfl, rfl, hb2, i2, _, _, rfl, rfl,
        _, _, rfl, rfl, .inr (by omega), .inl ⟨_, rfl, _, _, rfl, rfl, (by show (2147483647 : Int) ≠ 0; decide), ?_⟩⟩
      have o0 := Int.fmod_nonneg_of_pos ((B + 48271 * (C + 1)) * (39373 + (C + 1))) (b := 2147483647) (by decide)
      have o1 := Int.fmod_lt_of_pos ((B + 48271 * (C + 1)) * (39373 + (C + 1))) (b := 2147483647) (by decide)
      dsimp only
      revert o0 o1
      generalize Int.fmod ((B + 48271 * (C + 1)) * (39373 + (C + 1))) 2147483647 = o
      intro o0 o1
      refine ⟨.int o, rfl, .inl ⟨_, rfl, _, _, rfl, rfl, (by show (40009 : Int) ≠ 0; decide), _, _, rfl, rfl, ?_⟩⟩
      have v0 := Int.fmod_nonneg_of_pos o (b := 40009) (by decide)
      have v1 := Int.fmod_lt_of_pos o (b := 40009) (by decide)
      dsimp only
      revert v0 v1
      generalize Int.fmod o 40009 = v
      intro v0 v1
      refine ⟨.int o, rfl, .ref b, rfl, b, _, 2, .int (C + 1), rfl, rfl, hb2, i2, _, _, rfl, rfl, .ref b, rfl, b, _, 1, .int B, rfl, rfl, hb2, i1, _, _, rfl, rfl, dvM _, _, _, rfl, rfl, .int (v + 7), rfl, _, _, rfl, rfl, .inr (by omega),
        .inl ⟨_, rfl, _, _, rfl, rfl, (by show (2147483629 : Int) ≠ 0; decide), ?_⟩⟩
      refine ⟨.int _, rfl, _, _, rfl, rfl, .inr (by decide), .int o, rfl, _, _, rfl, rfl, .inl ⟨_, rfl, _, _, rfl, rfl, (by show (2147483587 : Int) ≠ 0; decide), _, _, rfl, rfl, dv64 _, .inl ⟨_, rfl, .int m, rfl, _, _, rfl, rfl, (by omega), ?_⟩⟩⟩
      exact q _ _ (Keep.upd H _) ⟨A, B, C + 1, upd_same, hA, hB, hB2, by omega, by omega⟩ (Int.fmod_nonneg_of_pos _ hm) (Int.fmod_lt_of_pos _ hm)
end
end K01
namespace K01
open PySem PySem.Spec PyProof.Rows L2 CS
theorem BoxAt.same {H H' : Hp} {b : Addr} {n : Nat} (h : BoxAt H b n) (s : Same H H') : BoxAt H' b n := by
  obtain ⟨A, B, C, e, r⟩ := h
  exact ⟨A, B, C, s _ _ e, r⟩
theorem BoxAt.up {H : Hp} {b : Addr} {n m : Nat} (h : BoxAt H b n) (l : n ≤ m) : BoxAt H b m := by
  obtain ⟨A, B, C, e, a1, a2, a3, a4, a5⟩ := h
  exact ⟨A, B, C, e, a1, a2, a3, a4, by omega⟩
theorem drop_map {α β : Type} (f : α → β) : ∀ (l : List α) (i : Nat), (l.map f).eraseIdx i = (l.eraseIdx i).map f
  | [], _ => rfl
  | _ :: _, 0 => rfl
  | x :: l, i + 1 => by
    show f x :: (l.map f).eraseIdx i = f x :: (l.eraseIdx i).map f
    rw [drop_map f l i]
theorem out_perm {α : Type} : ∀ {l : List α} {i : Nat} (h : i < l.length), List.Perm (l[i] :: l.eraseIdx i) l
  | [], _, h => absurd h (Nat.not_lt_zero _)
  | _ :: _, 0, _ => List.Perm.refl _
  | x :: l, i + 1, h => (List.Perm.swap x _ _).trans ((out_perm (l := l) (i := i) (Nat.lt_of_succ_lt_succ h)).cons x)
/-- the signs of a text -/
def signs (z : Str) : List Str := z.cps.toList.map fun c => ⟨#[c]⟩
section
variable {X : Cx}
theorem vals_signs : ∀ (l : List Nat) (us : List Value), us.length = l.length → (∀ (j : Nat) (u : Value), us[j]? = some u → ∃ (c : Nat) (t : Tok), l[j]? = some c ∧ u = Value.str ⟨#[c]⟩ t) → Vals (l.map fun c => V.str ⟨#[c]⟩) us
  | [], [], _, _ => .nil
  | [], _ :: _, h, _ => by cases h
  | _ :: _, [], h, _ => by cases h
  | c :: l, u :: us, h, q => by
    obtain ⟨c', t, e1, e2⟩ := q 0 u rfl
    cases e1
    refine .cons ⟨t, e2⟩ (vals_signs l us (Nat.succ.inj h) fun j v e => q (j + 1) v e)
theorem call_list_txt (hc : X.calm = true) : CallR X (.type "list") (fun xs H Q => ∃ z : Str, xs = [.str z] ∧ z.cps.size ≤ 1000 ∧ ∀ l, H l = none → Q (.ref l) (upd H l (.lst ((signs z).map V.str)))) := by
  intro pins s σ H xs us Q I r h
  obtain ⟨z, rfl, hz, q⟩ := h
  obtain ⟨u, rfl, rx⟩ := vals1 r
  obtain ⟨t, rfl⟩ := rx
  have hfit : z.cps.size ≤ sizeLine := Nat.le_of_lt (small1000 hz)
  refine call_list_str (I.ok.hd hc) z t (fun h' tk acc c' hk hS it => ?_) hfit
  have rv : Vals ((signs z).map V.str) acc.toList := by
    unfold signs
    rw [List.map_map]
    refine vals_signs z.cps.toList acc.toList (by rw [Array.length_toList, Array.length_toList]; exact it.1) fun j u e => ?_
    rw [Array.getElem?_toList] at e
    obtain ⟨c, u', e1, e2⟩ := it.2 j u e
    exact ⟨c, u', by rw [Array.getElem?_toList]; exact e1, e2⟩
  refine ⟨.ref s.heap.objs.size, _, I.laid (t' := tk) hk (Nat.le_refl _) (show ObjOk X.prog X.w _ h' _ (.lst _) from ⟨?_, acc.toList, c', rv, ?_⟩), rfl, q _ (I.hok.fresh (Nat.le_refl _))⟩
  · unfold signs
    rw [List.length_map, List.length_map, Array.length_toList]
    exact hfit
  · simpa using hS
end
section
variable {P : Program} {w : World} {K : PySem.W.Frag} {mg : Str → Option Value} {base : Heap}
/-! ### of -/
def spOf (K : PySem.W.Frag) : Sp := fun vs H Q _ => ∃ (b t : Addr) (n : Nat) (xs : List V), vs = [.ref b, .ref t] ∧ BoxAt H b n ∧ n ≤ 1000000 ∧ t ≠ b ∧ SqL K H t xs ∧ 0 < xs.length ∧ xs.length < 1000000 ∧
  ∀ (H' : Hp) (i : Nat) (x : V), Keep b H H' → BoxAt H' b (n + 1) → xs[i]? = some x → Q x H'
theorem scOf : FnScope ["_law_box_here", "_law_some"] ["_law_box_here", "_law_some"] (defScope sOf) := ⟨rfl, rfl, rfl, by decide +kernel, rfl, by decide +kernel, by decide +kernel⟩
theorem ok_of {f g : Addr} {fd gd : FuncData} {k : Nat} (F : Fun K "_law_of" "_law_of" sOf f fd) (G : FnOk P w K mg base CX0 k g gd ["_law_box_here", "_law_below"] spTake) (bG : Binds K gd ["_law_box_here", "_law_below"] []) (kG : PySem.W.keepIn K (.ref g) = true) (mG : mg "_law_take" = some (.ref g)) (ml : mg "len" = none) :
    FnOk P w K mg base CX0 (k + 1) f fd ["_law_box_here", "_law_some"] (spOf K) := by
  refine F.ok scOf (fun vs H Q E h => ?_) (fun cdv A outer s H vs Q E hr h => ?_)
  · obtain ⟨b, t, n, xs, rfl, _⟩ := h
    rfl
  · obtain ⟨b, t, n, xs, rfl, hb, hn, ntb, hS, h0, h1, q⟩ := h
    refine ⟨_, pss_one (ps_ret (pe_ix ix_list (pv 1) (pe_call G hr (by rfl) mG kG bG .nil pass0 (pa_cons (pv 0) (pa_cons (pe_callB call_len_seq (by rfl) ml PySem.boot_len (pa_cons (pv 1) pa_nil)) pa_nil))) (fun _ _ => rfl))), ?_⟩
    refine ⟨.ref t, rfl, .ref b, rfl, .ref t, rfl, t, _, rfl, .inl hS, ?_⟩
    refine ⟨b, n, _, rfl, hb, hn, (by omega), (by omega), fun H' r k1 b1 r0 r1 => ?_⟩
    have hlt : r.toNat < xs.length := by omega
    have hx : xs[r.toNat]? = some xs[r.toNat] := List.getElem?_eq_getElem hlt
    refine ⟨t, xs, r, xs[r.toNat], rfl, rfl, k1.sqL ntb hS, ?_, q H' r.toNat _ k1 b1 hx⟩
    have za := atI_nat hx
    rw [show ((r.toNat : Nat) : Int) = r by omega] at za
    exact za
/-! ### pick -/
def spPick (K : PySem.W.Frag) : Sp := fun vs H Q _ => ∃ (b : Addr) (v : V) (m : Int) (n : Nat) (ss : List Str), vs = [.ref b, v, .int m] ∧ BoxAt H b n ∧ n ≤ 900000 ∧ 0 ≤ m ∧ ss.length ≤ 100 ∧
  ((∃ t, v = .ref t ∧ t ≠ b ∧ SqL K H t (ss.map V.str)) ∨ ∃ z, v = .str z ∧ signs z = ss) ∧
  ∀ (H' : Hp) (p : Addr) (fs rs : List Str), Keep b H H' → BoxAt H' b (n + 100) → (H p = none) → p ≠ b → H' p = some (.lst (fs.map V.str)) → (fs.length : Int) = min m ss.length → List.Perm (fs ++ rs) ss → Q (.ref p) H'
theorem scPick : FnScope ["_law_box_here", "_law_pool_so", "_law_many_so", "_law_rest", "_law_found", "_law_turn"] ["_law_box_here", "_law_pool_so", "_law_many_so"] (defScope sPick) := ⟨rfl, rfl, rfl, by decide +kernel, rfl, by decide +kernel, by decide +kernel⟩
theorem ok_pick {f g : Addr} {fd gd : FuncData} {k : Nat} (F : Fun K "_law_pick" "_law_pick" sPick f fd) (G : FnOk P w K mg base CX0 k g gd ["_law_box_here", "_law_below"] spTake) (bG : Binds K gd ["_law_box_here", "_law_below"] []) (kG : PySem.W.keepIn K (.ref g) = true) (mG : mg "_law_take" = some (.ref g)) (ml : mg "len" = none) (mL : mg "list" = none) (mr : mg "range" = none) (mm : mg "min" = none) :
    FnOk P w K mg base CX0 (k + 1) f fd ["_law_box_here", "_law_pool_so", "_law_many_so"] (spPick K) := by
  refine F.ok scPick (fun vs H Q E h => ?_) (fun cdv A outer s H vs Q E hr h => ?_)
  · obtain ⟨b, v, m, n, ss, rfl, _⟩ := h
    rfl
  · obtain ⟨b, v, m, n, ss, rfl, hb, hn, hm, h1, hv, q⟩ := h
    refine ⟨_, pss_cons (ps_par (i := 3) (j := 4) (by rfl) scPick.nd rfl rfl (by decide) rfl rfl (pa_cons (pe_callTy (CallR.or call_list_of (call_list_txt (by rfl))) (by rfl) mL (by decide +kernel) (pa_cons (pv 1) pa_nil)) (pa_cons (pe_lst pa_nil) pa_nil)) (by rfl))
      (pss_cons (ps_for PassesOwn.never rfl (pi_range1 (by rfl) mr (pa_cons (pe_callB (call_min2 rfl) (by rfl) mm (by decide +kernel) (pa_cons (pv 2) (pa_cons (pe_callB call_len_seq (by rfl) ml PySem.boot_len (pa_cons (pv 3) pa_nil)) pa_nil))) pa_nil)) (pg_name (i := 5) scPick.nd rfl (.inl rfl))
        (pss_one (ps_expr (pe_bm PySem.F.plainAttrs_list PySem.F.slot_list_append PySem.F.type_list_append mt_append (pv 4)
          (pa_cons (pe_bm PySem.F.plainAttrs_list PySem.F.slot_list_pop PySem.F.type_list_pop mt_popAt (pv 3) (pa_cons (pe_call G hr (by rfl) mG kG bG .nil pass0 (pa_cons (pv 0) (pa_cons (pe_callB call_len_seq (by rfl) ml PySem.boot_len (pa_cons (pv 3) pa_nil)) pa_nil))) pa_nil)) pa_nil)))))
      (pss_one (ps_ret (pv 4)))), ?_⟩
    have hz0 : ∀ z : Str, signs z = ss → z.cps.size ≤ 1000 := fun z e => by
      rw [← e] at h1
      unfold signs at h1
      rw [List.length_map, Array.length_toList] at h1
      omega
    rcases hv with ⟨t, hv1, _, hS⟩ | ⟨z, hv1, hv2⟩
    · refine ⟨v, rfl, .inl ⟨t, _, (by rw [hv1]), .inl hS, fun l nl => ?_⟩⟩
      refine ⟨Nat.zero_le _, fun o no => ⟨_, _, rfl, ?_⟩⟩
      have nbl : b ≠ l := fun z => by
        obtain ⟨_, _, _, e, _⟩ := hb
        rw [z, nl] at e
        cases e
      have nlo : l ≠ o := fun z => by
        rw [← z, upd_same] at no
        cases no
      have nbo : b ≠ o := fun z => by
        obtain ⟨_, _, _, e, _⟩ := hb
        rw [← z, upd_ne nbl, e] at no
        cases no
      have hL : SqL K (upd (upd H l (.lst (ss.map V.str))) o (.lst [])) l (ss.map V.str) := by
        refine SqL.of ?_
        rw [upd_ne nlo]
        exact upd_same
      have s0 : Same H (upd (upd H l (.lst (ss.map V.str))) o (.lst [])) := (same_upd nl).trans (same_upd no)
      have noH : H o = none := by
        rw [upd_ne nlo.symm] at no
        exact no
      have hmn : (if (((ss.map V.str).length : Nat) : Int) < m then (((ss.map V.str).length : Nat) : Int) else m) = min m ss.length := by
        rw [List.length_map]
        split <;> omega
      refine ⟨.int m, rfl, .ref l, rfl, l, _, rfl, .inl hL, _, _, rfl, ?_⟩
      rw [hmn]
      refine ⟨_, rfl, by omega, by omega, for_range (fun i σ H' => ∃ (y5 : Option V) (fs rs : List Str), σ = [some (.ref b), some v, some (.int m), some (.ref l), some (.ref o), y5] ∧ Keep b H H' ∧ BoxAt H' b (n + i) ∧ H' l = some (.lst (rs.map V.str)) ∧ H' o = some (.lst (fs.map V.str)) ∧ fs.length = i ∧ List.Perm (fs ++ rs) ss)
        ⟨none, [], ss, rfl, Keep.of_same s0, hb.same s0, (by rw [upd_ne nlo]; exact upd_same), upd_same, rfl, List.Perm.refl _⟩ ?_ ?_⟩
      · rintro i σ H' hi ⟨y5, fs, rs, rfl, k1, b1, eL, eO, hfl, hp⟩
        have hrl : fs.length + rs.length = ss.length := by
          have z := hp.length_eq
          rw [List.length_append] at z
          exact z
        have hil : i < ss.length := by omega
        refine ⟨.ref o, rfl, .inl ⟨rfl, _, SqL.of eO⟩, .ref l, rfl, .inl ⟨rfl, _, SqL.of eL⟩, .ref b, rfl, .ref l, rfl, l, _, rfl, .inl (SqL.of eL), b, n + i, _, rfl, b1, by omega, (by rw [List.length_map]; omega), (by rw [List.length_map]; omega), fun H2 r k2 b2 r0 r1 => ?_⟩
        rw [List.length_map] at r1
        have hlt : r.toNat < rs.length := by omega
        have eL2 : H2 l = some (.lst (rs.map V.str)) := k2 _ _ nbl.symm eL
        have eO2 : H2 o = some (.lst (fs.map V.str)) := k2 _ _ nbo.symm eO
        have hx : (rs.map V.str)[r.toNat]? = some (.str rs[r.toNat]) := by
          rw [List.getElem?_map, List.getElem?_eq_getElem hlt]
          rfl
        refine ⟨l, _, r, r.toNat, _, rfl, rfl, eL2, by omega, by omega, ?_, hx, ?_⟩
        · unfold seqIndex?
          rw [List.length_map, if_neg (show ¬ r < 0 by omega)]
          simp only [Bool.and_eq_true, decide_eq_true_eq]
          rw [if_pos ⟨r0, r1⟩]
        · refine ⟨o, _, _, rfl, rfl, (by rw [upd_ne nlo.symm]; exact eO2), ?_, ?_⟩
          · rw [List.length_map]
            exact Nat.lt_of_le_of_lt (show fs.length ≤ 1000 by omega) (small1000 (Nat.le_refl _))
          · refine ⟨_, fs ++ [rs[r.toNat]], rs.eraseIdx r.toNat, rfl, fun c u nc e => ?_, ?_, ?_, ?_, ?_, ?_⟩
            · have e2 := k2 c u nc (k1 c u nc e)
              have ncl : c ≠ l := ne_of_none e nl
              have nco : c ≠ o := ne_of_none e noH
              rw [upd_ne nco, upd_ne ncl]
              exact e2
            · obtain ⟨A1, B1, C1, eb, rr⟩ := b2
              exact ⟨A1, B1, C1, by rw [upd_ne nbo, upd_ne nbl]; exact eb, rr⟩
            · rw [upd_ne nlo, upd_same, drop_map]
            · rw [upd_same, List.map_append]
              rfl
            · rw [List.length_append, hfl]
              rfl
            · rw [List.append_assoc]
              exact (List.Perm.append_left fs (out_perm hlt)).trans hp
      · rintro σ H' ⟨y5, fs, rs, rfl, k1, b1, eL, eO, hfl, hp⟩
        exact ⟨.ref o, rfl, q H' o fs rs k1 (b1.up (by omega)) noH nbo.symm eO (by rw [hfl]; omega) hp⟩
    · refine ⟨v, rfl, .inr ⟨z, (by rw [hv1]), hz0 z hv2, fun l nl => ?_⟩⟩
      rw [hv2]
      refine ⟨Nat.zero_le _, fun o no => ⟨_, _, rfl, ?_⟩⟩
      have nbl : b ≠ l := fun z => by
        obtain ⟨_, _, _, e, _⟩ := hb
        rw [z, nl] at e
        cases e
      have nlo : l ≠ o := fun z => by
        rw [← z, upd_same] at no
        cases no
      have nbo : b ≠ o := fun z => by
        obtain ⟨_, _, _, e, _⟩ := hb
        rw [← z, upd_ne nbl, e] at no
        cases no
      have hL : SqL K (upd (upd H l (.lst (ss.map V.str))) o (.lst [])) l (ss.map V.str) := by
        refine SqL.of ?_
        rw [upd_ne nlo]
        exact upd_same
      have s0 : Same H (upd (upd H l (.lst (ss.map V.str))) o (.lst [])) := (same_upd nl).trans (same_upd no)
      have noH : H o = none := by
        rw [upd_ne nlo.symm] at no
        exact no
      have hmn : (if (((ss.map V.str).length : Nat) : Int) < m then (((ss.map V.str).length : Nat) : Int) else m) = min m ss.length := by
        rw [List.length_map]
        split <;> omega
      refine ⟨.int m, rfl, .ref l, rfl, l, _, rfl, .inl hL, _, _, rfl, ?_⟩
      rw [hmn]
      refine ⟨_, rfl, by omega, by omega, for_range (fun i σ H' => ∃ (y5 : Option V) (fs rs : List Str), σ = [some (.ref b), some v, some (.int m), some (.ref l), some (.ref o), y5] ∧ Keep b H H' ∧ BoxAt H' b (n + i) ∧ H' l = some (.lst (rs.map V.str)) ∧ H' o = some (.lst (fs.map V.str)) ∧ fs.length = i ∧ List.Perm (fs ++ rs) ss)
        ⟨none, [], ss, rfl, Keep.of_same s0, hb.same s0, (by rw [upd_ne nlo]; exact upd_same), upd_same, rfl, List.Perm.refl _⟩ ?_ ?_⟩
      · rintro i σ H' hi ⟨y5, fs, rs, rfl, k1, b1, eL, eO, hfl, hp⟩
        have hrl : fs.length + rs.length = ss.length := by
          have z := hp.length_eq
          rw [List.length_append] at z
          exact z
        have hil : i < ss.length := by omega
        refine ⟨.ref o, rfl, .inl ⟨rfl, _, SqL.of eO⟩, .ref l, rfl, .inl ⟨rfl, _, SqL.of eL⟩, .ref b, rfl, .ref l, rfl, l, _, rfl, .inl (SqL.of eL), b, n + i, _, rfl, b1, by omega, (by rw [List.length_map]; omega), (by rw [List.length_map]; omega), fun H2 r k2 b2 r0 r1 => ?_⟩
        rw [List.length_map] at r1
        have hlt : r.toNat < rs.length := by omega
        have eL2 : H2 l = some (.lst (rs.map V.str)) := k2 _ _ nbl.symm eL
        have eO2 : H2 o = some (.lst (fs.map V.str)) := k2 _ _ nbo.symm eO
        have hx : (rs.map V.str)[r.toNat]? = some (.str rs[r.toNat]) := by
          rw [List.getElem?_map, List.getElem?_eq_getElem hlt]
          rfl
        refine ⟨l, _, r, r.toNat, _, rfl, rfl, eL2, by omega, by omega, ?_, hx, ?_⟩
        · unfold seqIndex?
          rw [List.length_map, if_neg (show ¬ r < 0 by omega)]
          simp only [Bool.and_eq_true, decide_eq_true_eq]
          rw [if_pos ⟨r0, r1⟩]
        · refine ⟨o, _, _, rfl, rfl, (by rw [upd_ne nlo.symm]; exact eO2), ?_, ?_⟩
          · rw [List.length_map]
            exact Nat.lt_of_le_of_lt (show fs.length ≤ 1000 by omega) (small1000 (Nat.le_refl _))
          · refine ⟨_, fs ++ [rs[r.toNat]], rs.eraseIdx r.toNat, rfl, fun c u nc e => ?_, ?_, ?_, ?_, ?_, ?_⟩
            · have e2 := k2 c u nc (k1 c u nc e)
              have ncl : c ≠ l := ne_of_none e nl
              have nco : c ≠ o := ne_of_none e noH
              rw [upd_ne nco, upd_ne ncl]
              exact e2
            · obtain ⟨A1, B1, C1, eb, rr⟩ := b2
              exact ⟨A1, B1, C1, by rw [upd_ne nbo, upd_ne nbl]; exact eb, rr⟩
            · rw [upd_ne nlo, upd_same, drop_map]
            · rw [upd_same, List.map_append]
              rfl
            · rw [List.length_append, hfl]
              rfl
            · rw [List.append_assoc]
              exact (List.Perm.append_left fs (out_perm hlt)).trans hp
      · rintro σ H' ⟨y5, fs, rs, rfl, k1, b1, eL, eO, hfl, hp⟩
        exact ⟨.ref o, rfl, q H' o fs rs k1 (b1.up (by omega)) noH nbo.symm eO (by rw [hfl]; omega) hp⟩
end
end K01
namespace K01
open PySem PySem.Spec PyProof.Rows L2 CS
theorem Keep.free {b p : Addr} {H H' : Hp} (k : Keep b H H') (n : p ≠ b) (h : H' p = none) : H p = none := by
  cases e : H p with
  | none => rfl
  | some o =>
    rw [k _ _ n e] at h
    cases h
section
variable {P : Program} {w : World} {K : PySem.W.Frag} {mg : Str → Option Value} {base : Heap}
/-! ### tags -/
def spTags (K : PySem.W.Frag) : Sp := fun vs H Q _ => ∃ (b : Addr) (m : Int) (n : Nat), vs = [.ref b, .int m] ∧ BoxAt H b n ∧ n ≤ 800000 ∧ 0 ≤ m ∧ m ≤ 8 ∧
  ∀ (H' : Hp) (p : Addr) (fs : List Str), Keep b H H' → BoxAt H' b (n + 101) → H p = none → p ≠ b → H' p = some (.lst (fs.map V.str)) → (fs.length : Int) = m → fs.Nodup → (∀ z ∈ fs, PyData.strOk z = true) → Q (.ref p) H'
def pool0 : List Str := ["a", "b", "c", "d", "e", "f", "g", "h"]
def pool1 : List Str := ["a", "ab", "abc", "b", "ba", "z", "zzzzzzzz", "y"]
def pool2 : List Str := ["hall", "hal", "desk", "shop", "yard", "gate", "inn", "ford"]
theorem part_nodup {fs rs ss : List Str} (h : List.Perm (fs ++ rs) ss) (n : ss.Nodup) : fs.Nodup := by
  have q := h.nodup_iff.mpr n
  exact (List.nodup_append.mp q).1
theorem scTags : FnScope ["_law_box_here", "_law_many_so", "_law_kind_so"] ["_law_box_here", "_law_many_so"] (defScope sTags) := ⟨rfl, rfl, rfl, by decide +kernel, rfl, by decide +kernel, by decide +kernel⟩
theorem ok_tags {f g g2 : Addr} {fd gd gd2 : FuncData} {k : Nat} (F : Fun K "_law_tags" "_law_tags" sTags f fd) (G : FnOk P w K mg base CX0 k g gd ["_law_box_here", "_law_below"] spTake) (bG : Binds K gd ["_law_box_here", "_law_below"] []) (kG : PySem.W.keepIn K (.ref g) = true) (mG : mg "_law_take" = some (.ref g))
    (G2 : FnOk P w K mg base CX0 (k + 1) g2 gd2 ["_law_box_here", "_law_pool_so", "_law_many_so"] (spPick K)) (bG2 : Binds K gd2 ["_law_box_here", "_law_pool_so", "_law_many_so"] []) (kG2 : PySem.W.keepIn K (.ref g2) = true) (mG2 : mg "_law_pick" = some (.ref g2)) :
    FnOk P w K mg base CX0 (k + 2) f fd ["_law_box_here", "_law_many_so"] (spTags K) := by
  refine F.ok scTags (fun vs H Q E h => ?_) (fun cdv A outer s H vs Q E hr h => ?_)
  · obtain ⟨b, m, n, rfl, _⟩ := h
    rfl
  · obtain ⟨b, m, n, rfl, hb, hn, hm, hm2, q⟩ := h
    have hr1 : Room k _ := hr.mono (by omega)
    refine ⟨_, pss_cons (ps_set (i := 2) scTags.nd rfl (.inl rfl) (pe_call G hr1 (by rfl) mG kG bG .nil pass0 (pa_cons (pv 0) (pa_cons pe_int pa_nil))))
      (pss_cons (ps_if (pt_cmpR op_eq (pv 2) pe_int (nomark _)) (pss_one (ps_ret (pe_call G2 hr (by rfl) mG2 kG2 bG2 .nil pass0 (pa_cons (pv 0) (pa_cons pe_str (pa_cons (pv 1) pa_nil)))))) pss_nil)
      (pss_cons (ps_if (pt_cmpR op_eq (pv 2) pe_int (nomark _)) (pss_one (ps_ret (pe_call G2 hr (by rfl) mG2 kG2 bG2 .nil pass0 (pa_cons (pv 0) (pa_cons (pe_lst (pa_cons pe_str (pa_cons pe_str (pa_cons pe_str (pa_cons pe_str (pa_cons pe_str (pa_cons pe_str (pa_cons pe_str (pa_cons pe_str pa_nil))))))))) (pa_cons (pv 1) pa_nil)))))) pss_nil)
      (pss_one (ps_ret (pe_call G2 hr (by rfl) mG2 kG2 bG2 .nil pass0 (pa_cons (pv 0) (pa_cons (pe_lst (pa_cons pe_str (pa_cons pe_str (pa_cons pe_str (pa_cons pe_str (pa_cons pe_str (pa_cons pe_str (pa_cons pe_str (pa_cons pe_str pa_nil))))))))) (pa_cons (pv 1) pa_nil)))))))), ?_⟩
    refine ⟨.ref b, rfl, b, n, 3, rfl, hb, by omega, by decide, by decide, fun H1 r k1 b1 r0 r1 => ?_⟩
    have tail : ∀ (H2 : Hp) (ss : List Str), Keep b H H2 → BoxAt H2 b (n + 1) → ss.length = 8 → ss.Nodup → ss.all PyData.strOk = true → ∀ (H' : Hp) (p : Addr) (fs rs : List Str), Keep b H2 H' → BoxAt H' b (n + 1 + 100) → H2 p = none → p ≠ b → H' p = some (.lst (fs.map V.str)) → (fs.length : Int) = min m ss.length → List.Perm (fs ++ rs) ss → Q (.ref p) H' := by
      intro H2 ss k2 b2 hl hnd hok H' p fs rs k3 b3 np npb ep el hp
      refine q H' p fs (k2.trans k3) (b3.up (by omega)) (k2.free npb np) npb ep ?_ (part_nodup hp hnd) fun z hz => List.all_eq_true.mp hok z (hp.mem_iff.mp (List.mem_append_left _ hz))
      rw [el, hl]
      omega
    refine ⟨.int r, rfl, rfl, _, rfl, ?_⟩
    refine ite2 (fun c => ?_) (fun c => ?_)
    · refine ⟨.ref b, rfl, .int m, rfl, b, _, m, n + 1, pool0, rfl, b1, by omega, hm, by decide, .inr ⟨_, rfl, by decide +kernel⟩, ?_⟩
      exact tail H1 pool0 k1 b1 rfl (by decide +kernel) (by decide +kernel)
    · refine ⟨.int r, rfl, rfl, _, rfl, ?_⟩
      refine ite2 (fun c => ?_) (fun c => ?_)
      · refine ⟨.ref b, rfl, (by show 8 ≤ sizeLine; decide), fun t nt => ?_⟩
        have ntb : t ≠ b := fun z => by
          obtain ⟨_, _, _, e, _⟩ := b1
          rw [← z, nt] at e
          cases e
        refine ⟨.int m, rfl, b, _, m, n + 1, pool1, rfl, b1.same (same_upd nt), by omega, hm, by decide, .inl ⟨t, rfl, ntb, SqL.of upd_same⟩, ?_⟩
        exact tail _ pool1 (k1.trans (Keep.of_same (same_upd nt))) (b1.same (same_upd nt)) rfl (by decide +kernel) (by decide +kernel)
      · refine ⟨.ref b, rfl, (by show 8 ≤ sizeLine; decide), fun t nt => ?_⟩
        have ntb : t ≠ b := fun z => by
          obtain ⟨_, _, _, e, _⟩ := b1
          rw [← z, nt] at e
          cases e
        refine ⟨.int m, rfl, b, _, m, n + 1, pool2, rfl, b1.same (same_upd nt), by omega, hm, by decide, .inl ⟨t, rfl, ntb, SqL.of upd_same⟩, ?_⟩
        exact tail _ pool2 (k1.trans (Keep.of_same (same_upd nt))) (b1.same (same_upd nt)) rfl (by decide +kernel) (by decide +kernel)
end
end K01
namespace K01
open PySem PySem.Spec PyProof.Rows L2 CS
section
variable {P : Program} {w : World} {K : PySem.W.Frag} {mg : Str → Option Value} {base : Heap}
/-! ### walk -/
def spWalk (K : PySem.W.Frag) : Sp := fun vs H Q _ => ∃ (b t : Addr) (m : Int) (n : Nat) (ss : List Str), vs = [.ref b, .ref t, .int m] ∧ BoxAt H b n ∧ n ≤ 700000 ∧ t ≠ b ∧ SqL K H t (ss.map V.str) ∧ 2 ≤ ss.length ∧ ss.length ≤ 100 ∧ ss.Nodup ∧ 0 ≤ m ∧ m ≤ 100 ∧
  ∀ (H' : Hp) (p : Addr) (rs : List Str), Keep b H H' → BoxAt H' b (n + 1000) → H p = none → p ≠ b → H' p = some (.tup (rs.map V.str)) → 0 < rs.length → (rs.length : Int) ≤ m + 2 → (∀ r ∈ rs, r ∈ ss) → Q (.ref p) H'
abbrev nWalk : List Str := ["_law_box_here", "_law_tags_here", "_law_most_so", "_law_row_so", "_law_turn", "_law_near", "_law_back_so", "_law_tag"]
theorem scWalk : FnScope nWalk ["_law_box_here", "_law_tags_here", "_law_most_so"] (defScope sWalk) := ⟨rfl, rfl, rfl, by decide +kernel, rfl, by decide +kernel, by decide +kernel⟩
theorem some_other {ss : List Str} (h : 2 ≤ ss.length) (n : ss.Nodup) (x : Str) : 0 < (ss.filter fun y => !decide (V.str y = V.str x)).length := by
  match ss, h, n with
  | a :: c :: r, _, n =>
    have hac : a ≠ c := fun e => by
      have q := (List.nodup_cons.mp n).1
      rw [e] at q
      exact q (List.mem_cons_self ..)
    refine List.length_pos_of_mem (a := if a = x then c else a) ?_
    by_cases e : a = x
    · rw [if_pos e]
      refine List.mem_filter.mpr ⟨List.mem_cons_of_mem _ (List.mem_cons_self ..), ?_⟩
      simp only [Bool.not_eq_true', decide_eq_false_iff_not, V.str.injEq]
      exact fun z => hac (e.trans z.symm)
    · rw [if_neg e]
      refine List.mem_filter.mpr ⟨List.mem_cons_self .., ?_⟩
      simp only [Bool.not_eq_true', decide_eq_false_iff_not, V.str.injEq]
      exact e
theorem atI_neg {xs : List V} {x : V} {j : Nat} (h : xs[xs.length - j]? = some x) (h0 : 0 < j) (hj : j ≤ xs.length) : atI xs (-(j : Int)) = some x := by
  have e : ixN xs.length (-(j : Int)) = some (xs.length - j) := by
    unfold ixN
    rw [if_neg (by omega), if_pos (by omega)]
    congr 1
    omega
  unfold atI
  rw [e]
  exact h
theorem ok_walk {f g g2 : Addr} {fd gd gd2 : FuncData} {k : Nat} (F : Fun K "_law_walk" "_law_walk" sWalk f fd) (G : FnOk P w K mg base CX0 k g gd ["_law_box_here", "_law_below"] spTake) (bG : Binds K gd ["_law_box_here", "_law_below"] []) (kG : PySem.W.keepIn K (.ref g) = true) (mG : mg "_law_take" = some (.ref g))
    (G2 : FnOk P w K mg base CX0 (k + 1) g2 gd2 ["_law_box_here", "_law_some"] (spOf K)) (bG2 : Binds K gd2 ["_law_box_here", "_law_some"] []) (kG2 : PySem.W.keepIn K (.ref g2) = true) (mG2 : mg "_law_of" = some (.ref g2)) (mr : mg "range" = none) (ml : mg "len" = none) (mt : mg "tuple" = none) :
    FnOk P w K mg base CX0 (k + 2) f fd ["_law_box_here", "_law_tags_here", "_law_most_so"] (spWalk K) := by
  refine F.ok scWalk (fun vs H Q E h => ?_) (fun cdv A outer s H vs Q E hr h => ?_)
  · obtain ⟨b, t, m, n, ss, rfl, _⟩ := h
    rfl
  · obtain ⟨b, t, m, n, ss, rfl, hb, hn, ntb, hS, hl, hl2, hnd, hm, hm2, q⟩ := h
    have hr1 : Room k _ := hr.mono (by omega)
    refine ⟨_, pss_cons (ps_set (i := 3) scWalk.nd rfl (.inr rfl) (pe_lst (pa_cons (pe_call G2 hr (by rfl) mG2 kG2 bG2 .nil pass0 (pa_cons (pv 0) (pa_cons (pv 1) pa_nil))) pa_nil)))
      (pss_cons (ps_for PassesOwn.never rfl (pi_range1 (by rfl) mr (pa_cons (pe_call G hr1 (by rfl) mG kG bG .nil pass0 (pa_cons (pv 0) (pa_cons (pe_op op_add (pv 2) pe_int) pa_nil))) pa_nil)) (pg_name (i := 4) scWalk.nd rfl (.inl rfl))
        (pss_cons (ps_setLc (i := 5) (own := [("_law_tag", 7)]) (g := gName 7) rfl scWalk.nd rfl rfl (sw_true rfl rfl rfl (by decide +kernel)) (pi_list (pv 1)) (blkOk_by (own := [("_law_tag", 7)]) (N := nWalk) (sc := defScope sWalk) (by decide +kernel))
            (fun _ _ _ _ _ => pg_name (i := 7) scWalk.nd rfl (Or.inl rfl) (.inr rfl)) (fun _ _ _ _ _ => pts_one (pt_cmpR op_ne (pv 7) (pe_ix (r := rIxL K) ix_list (pv 3) (pe_un un_neg pe_int) (fun _ _ => rfl)) (nomark _))) (fun _ _ _ _ _ => pv 7))
        (pss_cons (ps_set (i := 6) scWalk.nd rfl (.inl rfl) (pe_and (pe_cmpR op_gt (pe_callB call_len_seq (by rfl) ml PySem.boot_len (pa_cons (pv 3) pa_nil)) pe_int (nomark _)) (pe_one (pe_cmpR op_eq (pe_call G hr1 (by rfl) mG kG bG .nil pass0 (pa_cons (pv 0) (pa_cons pe_int pa_nil))) pe_int (nomark _)))))
        (pss_one (ps_expr (pe_bm PySem.F.plainAttrs_list PySem.F.slot_list_append PySem.F.type_list_append mt_append (pv 3)
          (pa_cons (pe_ifExp (pt_val (pv 6)) (pe_ix ix_list (pv 3) (pe_un un_neg pe_int) (fun _ _ => rfl)) (pe_call G2 hr (by rfl) mG2 kG2 bG2 .nil pass0 (pa_cons (pv 0) (pa_cons (pv 5) pa_nil)))) pa_nil)))))))
      (pss_cons (ps_if (PW.pt (pw_and (pt_cmpR op_ne (pe_ix ix_list (pv 3) (pe_un un_neg pe_int) (fun _ _ => rfl)) (pe_ix ix_list (pv 3) pe_int (fun _ _ => rfl)) (nomark _))
          (pw_and (pt_cmpR op_le (pe_callB call_len_seq (by rfl) ml PySem.boot_len (pa_cons (pv 3) pa_nil)) (pv 2) (nomark _)) (pw_and1 (pt_cmpR op_eq (pe_call G hr1 (by rfl) mG kG bG .nil pass0 (pa_cons (pv 0) (pa_cons pe_int pa_nil))) pe_int (nomark _))))))
        (pss_one (ps_expr (pe_bm PySem.F.plainAttrs_list PySem.F.slot_list_append PySem.F.type_list_append mt_append (pv 3) (pa_cons (pe_ix ix_list (pv 3) pe_int (fun _ _ => rfl)) pa_nil)))) pss_nil)
      (pss_one (ps_ret (pe_callTy call_tuple_of (by rfl) mt (by decide +kernel) (pa_cons (pv 3) pa_nil)))))), ?_⟩
    have strOf : ∀ (i : Nat) (x : V) (l : List Str), (l.map V.str)[i]? = some x → ∃ z, x = .str z ∧ l[i]? = some z := fun i x l e => by
      rw [List.getElem?_map] at e
      cases e2 : l[i]? with
      | none =>
        rw [e2] at e
        cases e
      | some z =>
        rw [e2] at e
        exact ⟨z, (Option.some.inj e).symm, rfl⟩
    refine ⟨.ref b, rfl, .ref t, rfl, b, t, n, _, rfl, hb, by omega, ntb, hS, (by rw [List.length_map]; omega), (by rw [List.length_map]; omega), fun H1 i0 x0 k1 b1 hx0 => ?_⟩
    obtain ⟨z0, rfl, hz0⟩ := strOf _ _ _ hx0
    refine ⟨(by show 1 ≤ sizeLine; decide), fun l nl => ?_⟩
    have nbl : b ≠ l := fun z => by
      obtain ⟨_, _, _, e, _⟩ := b1
      rw [z, nl] at e
      cases e
    have noH : H l = none := k1.free nbl.symm nl
    -- how many turns
    refine ⟨.ref b, rfl, .int m, rfl, _, _, rfl, rfl, b, n + 1, _, rfl, b1.same (same_upd nl), by omega, by omega, by omega, fun H2 tn k2 b2 t0 t1 => ?_⟩
    have eL2 : H2 l = some (.lst ([z0].map V.str)) := k2 _ _ nbl.symm upd_same
    have k02 : Keep b H H2 := (k1.trans (Keep.of_same (same_upd nl))).trans k2
    refine ⟨tn, rfl, by omega, by omega, for_range (fun i σ H' => ∃ (y4 y5 y6 y7 : Option V) (rs : List Str), σ = [some (.ref b), some (.ref t), some (.int m), some (.ref l), y4, y5, y6, y7] ∧ Keep b H H' ∧ BoxAt H' b (n + 2 + 2 * i) ∧ H' l = some (.lst (rs.map V.str)) ∧ rs.length = i + 1 ∧ ∀ r ∈ rs, r ∈ ss)
      ⟨none, none, none, none, [z0], rfl, k02, b2, eL2, rfl, fun r hr => by rw [List.mem_singleton.mp hr]; exact List.mem_of_getElem? hz0⟩ ?_ ?_⟩
    · rintro i σ H3 hi ⟨y4, y5, y6, y7, rs, rfl, k3, b3, e3, hrl, hin⟩
      have hil : (i : Int) < tn := by omega
      have hS3 : SqL K H3 t (ss.map V.str) := k3.sqL ntb hS
      obtain ⟨la, hla⟩ : ∃ la, rs[rs.length - 1]? = some la := ⟨rs[rs.length - 1]'(by omega), List.getElem?_eq_getElem (by omega)⟩
      have hlaV : (rs.map V.str)[(rs.map V.str).length - 1]? = some (.str la) := by
        rw [List.length_map, List.getElem?_map, hla]
        rfl
      have atla : atI (rs.map V.str) (-1) = some (.str la) := atI_neg (j := 1) hlaV (by decide) (by rw [List.length_map]; omega)
      refine ⟨.ref t, rfl, t, rfl, ⟨_, hS3⟩, fun D nD => lc_list (K := K) (a := t) (xs := ss.map V.str) (fun j H4 => Same H3 H4 ∧ H4 D = some (.lst (((ss.take j).filter fun y => !decide (V.str y = V.str la)).map V.str))) ⟨same_upd nD, upd_same⟩ (fun j H4 _ z => z.1.seq hS3) ?_ ?_⟩
      · rintro j x H4 hx ⟨s4, eD⟩
        obtain ⟨y, rfl, hy⟩ := strOf _ _ _ hx
        refine ⟨rfl, .str y, rfl, .ref l, rfl, 1, rfl, l, _, -1, .str la, rfl, rfl, SqL.of (s4 _ _ e3), atla, rfl, _, rfl, ?_⟩
        have hj : j < ss.length := (List.getElem?_eq_some_iff.mp hy).1
        rw [take_snoc hy, List.filter_append]
        refine ite2 (fun c => ?_) (fun c => ?_)
        · refine ⟨.str y, rfl, _, eD, ?_, fun c2 o e => ?_, ?_⟩
          · rw [List.length_map]
            refine Nat.lt_of_le_of_lt (Nat.le_trans (List.length_filter_le _ _) ?_) (small1000 (n := 100) (by decide))
            rw [List.length_take]
            omega
          · rw [upd_ne (ne_of_none e nD)]
            exact s4 _ _ e
          · rw [upd_same, List.filter_cons, if_pos c, List.filter_nil, List.map_append]
            rfl
        · rw [List.filter_cons, if_neg c, List.filter_nil, List.append_nil]
          exact ⟨s4, eD⟩
      · rintro H4 ⟨s4, eD⟩
        rw [List.length_map, List.take_length] at eD
        have npos := some_other hl hnd la
        have nle := List.length_filter_le (fun y => !decide (V.str y = V.str la)) ss
        have nin : ∀ y ∈ ss.filter (fun y => !decide (V.str y = V.str la)), y ∈ ss := fun y hy => (List.mem_filter.mp hy).1
        generalize (ss.filter fun y => !decide (V.str y = V.str la)) = near at eD npos nle nin
        have k4 : Keep b H H4 := k3.trans (Keep.of_same s4)
        have b4 := b3.same s4
        have e4 := s4 _ _ e3
        have nDb : D ≠ b := fun z => by
          obtain ⟨_, _, _, e, _⟩ := b3
          rw [← z, nD] at e
          cases e
        have nDl : D ≠ l := fun z => by
          rw [← z, nD] at e3
          cases e3
        have sz : (rs.map V.str).length < sizeLine := by
          rw [List.length_map]
          exact small1000 (n := rs.length) (by omega)
        refine ⟨.ref l, rfl, l, _, rfl, .inl (SqL.of e4), _, _, rfl, rfl, _, rfl, ?_⟩
        refine ite2 (fun c => ?_) (fun c => ?_)
        · have c' : (1 : Int) < ((rs.map V.str).length : Nat) := of_decide_eq_true c
          rw [List.length_map] at c'
          refine ⟨.ref b, rfl, b, _, 3, rfl, b4, by omega, by decide, by decide, fun H5 r k5 b5 r0 r1 => ⟨rfl, ?_⟩⟩
          have e5 := k5 _ _ nbl.symm e4
          refine ⟨.ref l, rfl, .inl ⟨rfl, _, SqL.of e5⟩, .bl _, rfl, _, rfl, ?_⟩
          refine ite2 (fun _ => ?_) (fun _ => ?_)
          · obtain ⟨z, hz2⟩ : ∃ z, rs[rs.length - 2]? = some z := ⟨rs[rs.length - 2]'(by omega), List.getElem?_eq_getElem (by omega)⟩
            have hz : z ∈ ss := hin z (List.mem_of_getElem? hz2)
            have hzV : (rs.map V.str)[(rs.map V.str).length - 2]? = some (.str z) := by
              rw [List.length_map, List.getElem?_map, hz2]
              rfl
            refine ⟨.ref l, rfl, 2, rfl, l, _, -2, .str z, rfl, rfl, SqL.of e5, atI_neg (j := 2) hzV (by decide) (by rw [List.length_map]; omega), ?_⟩
            refine ⟨l, _, _, rfl, rfl, e5, sz, _, _, _, _, rs ++ [z], rfl, fun c2 o nc e => ?_, ?_, ?_, ?_, fun r hr => (List.mem_append.mp hr).elim (hin r) fun hr => by rw [List.mem_singleton.mp hr]; exact hz⟩
            · rw [upd_ne (ne_of_none e noH)]
              exact k5 _ _ nc (k4 _ _ nc e)
            · obtain ⟨A1, B1, C1, eb, q1, q2, q3, q4, q5⟩ := b5
              exact ⟨A1, B1, C1, by rw [upd_ne nbl]; exact eb, q1, q2, q3, q4, by omega⟩
            · rw [upd_same, List.map_append]
              rfl
            · rw [List.length_append, hrl]
              rfl
          · refine ⟨.ref b, rfl, .ref D, rfl, b, D, _, near.map V.str, rfl, b5, by omega, nDb, SqL.of (k5 _ _ nDb eD), (by rw [List.length_map]; omega), (by rw [List.length_map]; omega), fun H6 i6 x6 k6 b6 hx6 => ?_⟩
            obtain ⟨z, rfl, hz6⟩ := strOf _ _ _ hx6
            have hz : z ∈ ss := nin z (List.mem_of_getElem? hz6)
            have e6 := k6 _ _ nbl.symm e5
            refine ⟨l, _, _, rfl, rfl, e6, sz, _, _, _, _, rs ++ [z], rfl, fun c2 o nc e => ?_, ?_, ?_, ?_, fun r hr => (List.mem_append.mp hr).elim (hin r) fun hr => by rw [List.mem_singleton.mp hr]; exact hz⟩
            · rw [upd_ne (ne_of_none e noH)]
              exact k6 _ _ nc (k5 _ _ nc (k4 _ _ nc e))
            · obtain ⟨A1, B1, C1, eb, q1, q2, q3, q4, q5⟩ := b6
              exact ⟨A1, B1, C1, by rw [upd_ne nbl]; exact eb, q1, q2, q3, q4, by omega⟩
            · rw [upd_same, List.map_append]
              rfl
            · rw [List.length_append, hrl]
              rfl
        · refine ⟨.ref l, rfl, .inl ⟨rfl, _, SqL.of e4⟩, .bl _, rfl, _, rfl, ?_⟩
          refine ite2 (fun z => absurd z Bool.false_ne_true) (fun _ => ?_)
          refine ⟨.ref b, rfl, .ref D, rfl, b, D, _, near.map V.str, rfl, b4, by omega, nDb, SqL.of eD, (by rw [List.length_map]; omega), (by rw [List.length_map]; omega), fun H6 i6 x6 k6 b6 hx6 => ?_⟩
          obtain ⟨z, rfl, hz6⟩ := strOf _ _ _ hx6
          have hz : z ∈ ss := nin z (List.mem_of_getElem? hz6)
          have e6 := k6 _ _ nbl.symm e4
          refine ⟨l, _, _, rfl, rfl, e6, sz, _, _, _, _, rs ++ [z], rfl, fun c2 o nc e => ?_, ?_, ?_, ?_, fun r hr => (List.mem_append.mp hr).elim (hin r) fun hr => by rw [List.mem_singleton.mp hr]; exact hz⟩
          · rw [upd_ne (ne_of_none e noH)]
            exact k6 _ _ nc (k4 _ _ nc e)
          · obtain ⟨A1, B1, C1, eb, q1, q2, q3, q4, q5⟩ := b6
            exact ⟨A1, B1, C1, by rw [upd_ne nbl]; exact eb, q1, q2, q3, q4, by omega⟩
          · rw [upd_same, List.map_append]
            rfl
          · rw [List.length_append, hrl]
            rfl
    · rintro σ H3 ⟨y4, y5, y6, y7, rs, rfl, k3, b3, e3, hrl, hin⟩
      obtain ⟨la, hla⟩ : ∃ la, rs[rs.length - 1]? = some la := ⟨rs[rs.length - 1]'(by omega), List.getElem?_eq_getElem (by omega)⟩
      have hlaV : (rs.map V.str)[(rs.map V.str).length - 1]? = some (.str la) := by
        rw [List.length_map, List.getElem?_map, hla]
        rfl
      have atla : atI (rs.map V.str) (-1) = some (.str la) := atI_neg (j := 1) hlaV (by decide) (by rw [List.length_map]; omega)
      obtain ⟨fi, hfi⟩ : ∃ fi, rs[0]? = some fi := ⟨rs[0]'(by omega), List.getElem?_eq_getElem (by omega)⟩
      have hfiV : (rs.map V.str)[0]? = some (.str fi) := by
        rw [List.getElem?_map, hfi]
        rfl
      have atfi : atI (rs.map V.str) 0 = some (.str fi) := atI_nat (j := 0) hfiV
      have sz : (rs.map V.str).length < sizeLine := by
        rw [List.length_map]
        exact small1000 (n := rs.length) (by omega)
      refine ⟨.ref l, rfl, 1, rfl, l, _, -1, .str la, rfl, rfl, SqL.of e3, atla, .ref l, rfl, l, _, 0, .str fi, rfl, rfl, SqL.of e3, atfi, rfl, _, rfl, ?_⟩
      refine ite2 (fun c => ?_) (fun c => ?_)
      · refine ⟨.ref l, rfl, l, _, rfl, .inl (SqL.of e3), .int m, rfl, _, _, rfl, rfl, _, rfl, ?_⟩
        refine ite2 (fun c => ?_) (fun c => ?_)
        · have c' : (((rs.map V.str).length : Nat) : Int) ≤ m := of_decide_eq_true c
          rw [List.length_map] at c'
          refine ⟨.ref b, rfl, b, _, 3, rfl, b3, by omega, by decide, by decide, fun H5 r k5 b5 r0 r1 => ⟨rfl, _, rfl, ?_⟩⟩
          have e5 := k5 _ _ nbl.symm e3
          refine ite2 (fun c => ?_) (fun c => ?_)
          · refine ⟨.ref l, rfl, .inl ⟨rfl, _, SqL.of e5⟩, .ref l, rfl, l, _, 0, .str fi, rfl, rfl, SqL.of e5, atfi, ?_⟩
            refine ⟨l, _, _, rfl, rfl, e5, sz, ?_⟩
            have kR : Keep b H (upd H5 l (.lst (rs.map V.str ++ [.str fi]))) := fun c2 o nc e => by
              rw [upd_ne (ne_of_none e noH)]
              exact k5 _ _ nc (k3 _ _ nc e)
            have bR : BoxAt (upd H5 l (.lst (rs.map V.str ++ [.str fi]))) b (n + 2 + 2 * tn.toNat + 1) := by
              obtain ⟨A1, B1, C1, eb, q1⟩ := b5
              exact ⟨A1, B1, C1, by rw [upd_ne nbl]; exact eb, q1⟩
            have eR : upd H5 l (.lst (rs.map V.str ++ [.str fi])) l = some (.lst ((rs ++ [fi]).map V.str)) := by
              rw [upd_same, List.map_append]
              rfl
            have hpos : 0 < (rs ++ [fi]).length := by rw [List.length_append, List.length_singleton]; omega
            have hle : (((rs ++ [fi]).length : Nat) : Int) ≤ m + 2 := by rw [List.length_append, List.length_singleton]; omega
            have hmem : ∀ r ∈ rs ++ [fi], r ∈ ss := fun r hr => (List.mem_append.mp hr).elim (hin r) fun hr => by rw [List.mem_singleton.mp hr]; exact hin _ (List.mem_of_getElem? hfi)
            generalize rs ++ [fi] = rr at eR hpos hle hmem
            exact ⟨.ref l, rfl, l, _, rfl, .inl ⟨SqL.of eR, fun p np => q _ p rr (kR.trans (Keep.of_same (same_upd np))) ((bR.up (by omega)).same (same_upd np)) (kR.free (fun z => by rw [z] at np; obtain ⟨_, _, _, e, _⟩ := bR; rw [np] at e; cases e) np) (fun z => by rw [z] at np; obtain ⟨_, _, _, e, _⟩ := bR; rw [np] at e; cases e) upd_same hpos (by omega) hmem⟩⟩
          · have kR := k3.trans k5
            have bR := b5
            have eR := e5
            have hpos : 0 < rs.length := by omega
            have hle : ((rs.length : Nat) : Int) ≤ m + 2 := by omega
            have hmem := hin
            generalize rs = rr at eR hpos hle hmem
            exact ⟨.ref l, rfl, l, _, rfl, .inl ⟨SqL.of eR, fun p np => q _ p rr (kR.trans (Keep.of_same (same_upd np))) ((bR.up (by omega)).same (same_upd np)) (kR.free (fun z => by rw [z] at np; obtain ⟨_, _, _, e, _⟩ := bR; rw [np] at e; cases e) np) (fun z => by rw [z] at np; obtain ⟨_, _, _, e, _⟩ := bR; rw [np] at e; cases e) upd_same hpos (by omega) hmem⟩⟩
        · have kR := k3
          have bR := b3
          have eR := e3
          have hpos : 0 < rs.length := by omega
          have hle : ((rs.length : Nat) : Int) ≤ m + 2 := by omega
          have hmem := hin
          generalize rs = rr at eR hpos hle hmem
          exact ⟨.ref l, rfl, l, _, rfl, .inl ⟨SqL.of eR, fun p np => q _ p rr (kR.trans (Keep.of_same (same_upd np))) ((bR.up (by omega)).same (same_upd np)) (kR.free (fun z => by rw [z] at np; obtain ⟨_, _, _, e, _⟩ := bR; rw [np] at e; cases e) np) (fun z => by rw [z] at np; obtain ⟨_, _, _, e, _⟩ := bR; rw [np] at e; cases e) upd_same hpos (by omega) hmem⟩⟩
      · have kR := k3
        have bR := b3
        have eR := e3
        have hpos : 0 < rs.length := by omega
        have hle : ((rs.length : Nat) : Int) ≤ m + 2 := by omega
        have hmem := hin
        generalize rs = rr at eR hpos hle hmem
        exact ⟨.ref l, rfl, l, _, rfl, .inl ⟨SqL.of eR, fun p np => q _ p rr (kR.trans (Keep.of_same (same_upd np))) ((bR.up (by omega)).same (same_upd np)) (kR.free (fun z => by rw [z] at np; obtain ⟨_, _, _, e, _⟩ := bR; rw [np] at e; cases e) np) (fun z => by rw [z] at np; obtain ⟨_, _, _, e, _⟩ := bR; rw [np] at e; cases e) upd_same hpos (by omega) hmem⟩⟩
end
end K01
namespace K01
open PySem PySem.Spec PyProof.Rows L2 CS RZ
/-! ### same -/
def okD : Nat → PyData → Prop
  | 0, _ => False
  | _ + 1, .int _ => True
  | _ + 1, .str _ => True
  | n + 1, .list ds => ds.length ≤ 1000 ∧ ∀ d ∈ ds, okD n d
  | n + 1, .tuple ds => ds.length ≤ 1000 ∧ ∀ d ∈ ds, okD n d
  | _ + 1, _ => False
mutual
theorem dp_same {K : PySem.W.Frag} {H H' : Hp} (s : Same H H') : ∀ {v : V} {d : PyData}, Dp K H v d → Dp K H' v d
  | _, _, .non => .non
  | _, _, .bl b => .bl b
  | _, _, .int i => .int i
  | _, _, .str x => .str x
  | _, _, .lst q r => .lst (s.seq q) (dp_sameAll s r)
  | _, _, .tup q r => .tup (sqT_same s q) (dp_sameAll s r)
theorem dp_sameAll {K : PySem.W.Frag} {H H' : Hp} (s : Same H H') : ∀ {vs : List V} {ds : List PyData}, DpAll K H vs ds → DpAll K H' vs ds
  | _, _, .nil => .nil
  | _, _, .cons q r => .cons (dp_same s q) (dp_sameAll s r)
end
theorem dpAll_len {K : PySem.W.Frag} {H : Hp} : ∀ {ds : List PyData} {vs : List V}, DpAll K H vs ds → vs.length = ds.length
  | _, _, .nil => rfl
  | _, _, .cons _ r => congrArg (· + 1) (dpAll_len r)
theorem dpAll_at {K : PySem.W.Frag} {H : Hp} : ∀ {ds : List PyData} {vs : List V}, DpAll K H vs ds → ∀ {i : Nat} {v : V}, vs[i]? = some v → ∃ d, ds[i]? = some d ∧ Dp K H v d
  | _, _, .nil, i, _, h => by cases h
  | _, _, .cons q r, 0, _, h => by cases h; exact ⟨_, rfl, q⟩
  | _, _, .cons q r, i + 1, v, h => dpAll_at r (i := i) h
theorem tyL {K : PySem.W.Frag} {H : Hp} {a : Addr} {xs : List V} (h : SqL K H a xs) : TyX K H (.ref a) (.type "list") := by
  rcases h with (h | ⟨o, h⟩) | ⟨o, its, n, h, c, _⟩
  · exact .base (.lst h)
  · exact .base (.frz h)
  · exact .kList h c
theorem tyT {K : PySem.W.Frag} {H : Hp} {a : Addr} {xs : List V} (h : SqT K H a xs) : TyX K H (.ref a) (.type "tuple") := by
  rcases h with (h | ⟨o, h⟩) | ⟨o, its, n, h, c, _⟩
  · exact .base (.tup h)
  · exact .fTuple h
  · exact .kTuple h c
theorem walk_zipT {K : PySem.W.Frag} {a b : Addr} {xs ys : List V} {n : Nat} (hn : n = min xs.length ys.length) : Walk (ItzT K a b) n (fun H => SqT K H a xs ∧ SqT K H b ys) (YPair (fun i => xs[i]?) (fun i => ys[i]?)) := by
  subst hn
  refine ⟨fun i H hi q => ?_, fun H q => ⟨xs, ys, q.1, q.2, by omega⟩, fun i H v H' hi q y => ?_⟩
  · have l1 : i < xs.length := by omega
    have l2 : i < ys.length := by omega
    exact ⟨xs, ys, xs[i], ys[i], q.1, q.2, by simp [l1], by simp [l2]⟩
  · obtain ⟨T, x, z, e1, e2, e3, e4, e5⟩ := y
    exact ⟨T, x, z, e1, e2, e3, e4 xs q.1, e5 ys q.2⟩
section
variable {P : Program} {w : World} {K : PySem.W.Frag} {mg : Str → Option Value} {base : Heap}
def spSame (K : PySem.W.Frag) (n : Nat) : Sp := fun vs H Q _ => ∃ (x y : V) (d : PyData), vs = [x, y] ∧ Dp K H x d ∧ Dp K H y d ∧ okD n d ∧ ∀ H' : Hp, Same H H' → Q (.bl true) H'
/-- what the top says of the built-ins that same asks -/
structure SmT (mg : Str → Option Value) : Prop where
  is : mg "isinstance" = none
  li : mg "list" = none
  tu : mg "tuple" = none
  le : mg "len" = none
  al : mg "all" = none
  zi : mg "zip" = none
  bo : mg "bool" = none
  st : mg "str" = none
  int : mg "int" = none
abbrev nSame : List Str := ["_law_got", "_law_due", "_law_mine", "_law_its"]
theorem scSame : FnScope nSame ["_law_got", "_law_due"] (defScope sSame) := ⟨rfl, rfl, rfl, by decide +kernel, rfl, by decide +kernel, by decide +kernel⟩
theorem same_none {f : Addr} {fd : FuncData} : FnOk P w K mg base CX0 0 f fd ["_law_got", "_law_due"] (spSame K 0) := by
  have no : ∀ vs H Q E, ¬ spSame K 0 vs H Q E := fun vs H Q E h => by
    obtain ⟨_, _, d, _, _, _, h, _⟩ := h
    cases d <;> exact h
  exact ⟨fun vs H Q E h => absurd h (no vs H Q E), fun A outer s H args us vs Q E _ _ _ _ h => absurd h (no vs H Q E)⟩
theorem isi_one {t c : String} {b : Bool} (h : kitB t c = some b) : PySem.W.kitOne K (.type t) (.type c) = some b := kit_ty h
theorem any_ff {t a b : String} (h1 : kitB t a = some false) (h2 : kitB t b = some false) : PySem.W.kitAny K (.type t) [.type a, .type b] = some false :=
  kitAny_cons (kit_ty h1) (fun _ => kitAny_cons (kit_ty h2) (fun _ => kitAny_nil) fun z => nomatch z) fun z => nomatch z
theorem any_t {t a b : String} (h1 : kitB t a = some true) : PySem.W.kitAny K (.type t) [.type a, .type b] = some true := kitAny_cons (kit_ty h1) (fun z => nomatch z) fun _ => rfl
theorem any_ft {t a b : String} (h1 : kitB t a = some false) (h2 : kitB t b = some true) : PySem.W.kitAny K (.type t) [.type a, .type b] = some true :=
  kitAny_cons (kit_ty h1) (fun _ => kitAny_cons (kit_ty h2) (fun z => nomatch z) fun _ => rfl) fun _ => rfl
theorem all_yes : ∀ n : Nat, (List.replicate n true).all id = true
  | 0 => rfl
  | n + 1 => by
    rw [List.replicate_succ, List.all_cons, all_yes n]
    rfl
theorem ok_same {n : Nat} {f : Addr} {fd : FuncData} (F : Fun K "_law_same" "_law_same" sSame f fd) (G : FnOk P w K mg base CX0 n f fd ["_law_got", "_law_due"] (spSame K n)) (bG : Binds K fd ["_law_got", "_law_due"] []) (mG : mg "_law_same" = some (.ref f)) (T : SmT mg) :
    FnOk P w K mg base CX0 (n + 1) f fd ["_law_got", "_law_due"] (spSame K (n + 1)) := by
  refine F.ok scSame (fun vs H Q E h => ?_) (fun cdv A outer s H vs Q E hr h => ?_)
  · obtain ⟨x, y, d, rfl, _⟩ := h
    rfl
  · obtain ⟨x, y, d, rfl, hx, hy, hd, q⟩ := h
    refine ⟨_, pss_cons (ps_if (pt_val (pe_callB call_isiT (by rfl) T.is (by decide +kernel) (pa_cons (pv 1) (pa_cons (pe_tup (pa_cons (pe_bltn (v := .ty "list") (by rfl) T.li (by decide +kernel) rfl) (pa_cons (pe_bltn (v := .ty "tuple") (by rfl) T.tu (by decide +kernel) rfl) pa_nil))) pa_nil))))
        (pss_cons (ps_if (PW.pt (pw_or (pt_cmpR op_ne (pe_callB call_isi (by rfl) T.is (by decide +kernel) (pa_cons (pv 0) (pa_cons (pe_bltn (v := .ty "list") (by rfl) T.li (by decide +kernel) rfl) pa_nil))) (pe_callB call_isi (by rfl) T.is (by decide +kernel) (pa_cons (pv 1) (pa_cons (pe_bltn (v := .ty "list") (by rfl) T.li (by decide +kernel) rfl) pa_nil))) (nomark _))
            (pw_or1 (pt_cmpR op_ne (pe_callB call_isi (by rfl) T.is (by decide +kernel) (pa_cons (pv 0) (pa_cons (pe_bltn (v := .ty "tuple") (by rfl) T.tu (by decide +kernel) rfl) pa_nil))) (pe_callB call_isi (by rfl) T.is (by decide +kernel) (pa_cons (pv 1) (pa_cons (pe_bltn (v := .ty "tuple") (by rfl) T.tu (by decide +kernel) rfl) pa_nil))) (nomark _)))))
          (pss_one (ps_ret (pe_bl))) pss_nil)
        (pss_one (ps_ret (pe_and (pe_cmpR op_eq (pe_callB call_len_seq (by rfl) T.le PySem.boot_len (pa_cons (pv 0) pa_nil)) (pe_callB call_len_seq (by rfl) T.le PySem.boot_len (pa_cons (pv 1) pa_nil)) (nomark _))
          (pe_one (pe_callB (cr_all rfl) (by rfl) T.al (by decide +kernel) (pa_cons (pe_lc (own := [("_law_mine", 2), ("_law_its", 3)]) (g := gTup K 2 (gCons (gName 2) (gCons (gName 3) gNil))) (by rfl) scSame.nd (pi_zipA (by rfl) T.zi (pa_cons (pv 0) (pa_cons (pv 1) pa_nil)))
            (blkOk_by (own := [("_law_mine", 2), ("_law_its", 3)]) (N := nSame) (sc := defScope sSame) (by decide +kernel))
            (fun _ _ _ _ _ => pg_tup rfl (pgs_cons (pg_name (i := 2) scSame.nd rfl (Or.inl rfl) (.inr rfl)) (pgs_cons (pg_name (i := 3) scSame.nd rfl (Or.inl rfl) (.inr rfl)) pgs_nil))) (fun _ _ _ _ _ => pts_nil)
            (fun _ _ _ _ _ => pe_call G hr (by rfl) mG F.kp bG .nil pass0 (pa_cons (pv 2) (pa_cons (pv 3) pa_nil)))) pa_nil))))))) pss_nil)
      (pss_cons (ps_if (PW.pt (pw_or (pt_cmpR op_isN (pv 1) pe_non (nomark _)) (pw_or1 (pt_val (pe_callB call_isiT (by rfl) T.is (by decide +kernel) (pa_cons (pv 1) (pa_cons (pe_tup (pa_cons (pe_bltn (v := .ty "bool") (by rfl) T.bo (by decide +kernel) rfl) (pa_cons (pe_bltn (v := .ty "str") (by rfl) T.st (by decide +kernel) rfl) pa_nil))) pa_nil)))))))
        (pss_one (ps_ret (pe_and (pe_cmpR op_eq (pv 0) (pv 1) (nomark _)) (pe_and (pe_cmpR op_eq (pe_callB call_isi (by rfl) T.is (by decide +kernel) (pa_cons (pv 0) (pa_cons (pe_bltn (v := .ty "bool") (by rfl) T.bo (by decide +kernel) rfl) pa_nil))) (pe_callB call_isi (by rfl) T.is (by decide +kernel) (pa_cons (pv 1) (pa_cons (pe_bltn (v := .ty "bool") (by rfl) T.bo (by decide +kernel) rfl) pa_nil))) (nomark _))
          (pe_one (pe_cmpR op_eq (pe_cmpR op_isN (pv 0) pe_non (nomark _)) (pe_cmpR op_isN (pv 1) pe_non (nomark _)) (nomark _))))))) pss_nil)
      (pss_one (ps_ret (pe_and (pe_callB call_isi (by rfl) T.is (by decide +kernel) (pa_cons (pv 0) (pa_cons (pe_bltn (v := .ty "int") (by rfl) T.int (by decide +kernel) rfl) pa_nil)))
        (pe_and (pe_not (pe_callB call_isi (by rfl) T.is (by decide +kernel) (pa_cons (pv 0) (pa_cons (pe_bltn (v := .ty "bool") (by rfl) T.bo (by decide +kernel) rfl) pa_nil)))) (pe_one (pe_cmpR op_eq (pv 0) (pv 1) (nomark _)))))))), ?_⟩
    have two : 2 ≤ sizeLine := by decide
    cases d with
    | int i =>
      cases hx
      cases hy
      refine ⟨.int i, rfl, two, fun p np => ⟨_, p, _, _, _, false, rfl, upd_same, .cons (.ty _) (.cons (.ty _) .nil), .base (.int i), any_ff (by decide +kernel) (by decide +kernel), _, rfl, ?_⟩⟩
      refine ite2 (fun z => absurd z Bool.false_ne_true) (fun _ => ?_)
      refine ⟨.int i, rfl, rfl, _, rfl, ?_⟩
      refine ite2 (fun z => absurd (of_decide_eq_true z) (fun e => by cases e)) (fun _ => ?_)
      refine ⟨.int i, rfl, two, fun p2 np2 => ⟨_, p2, _, _, _, false, rfl, upd_same, .cons (.ty _) (.cons (.ty _) .nil), .base (.int i), any_ff (by decide +kernel) (by decide +kernel), _, rfl, ?_⟩⟩
      refine ite2 (fun z => absurd z Bool.false_ne_true) (fun _ => ?_)
      refine ⟨.int i, rfl, _, _, _, _, true, rfl, .ty _, .base (.int i), isi_one (by decide +kernel), _, rfl, ?_⟩
      refine ite2 (fun _ => ?_) (fun z => absurd rfl z)
      refine ⟨.int i, rfl, _, _, _, _, false, rfl, .ty _, .base (.int i), isi_one (by decide +kernel), _, rfl, _, rfl, ?_⟩
      refine ite2 (fun _ => ?_) (fun z => absurd rfl z)
      refine ⟨.int i, rfl, .int i, rfl, rfl, ?_⟩
      have e : decide (V.int i = V.int i) = true := decide_eq_true rfl
      rw [e]
      exact q _ ((same_upd np).trans (same_upd np2))
    | str z =>
      cases hx
      cases hy
      refine ⟨.str z, rfl, two, fun p np => ⟨_, p, _, _, _, false, rfl, upd_same, .cons (.ty _) (.cons (.ty _) .nil), .base (.str z), any_ff (by decide +kernel) (by decide +kernel), _, rfl, ?_⟩⟩
      refine ite2 (fun z => absurd z Bool.false_ne_true) (fun _ => ?_)
      refine ⟨.str z, rfl, rfl, _, rfl, ?_⟩
      refine ite2 (fun z => absurd (of_decide_eq_true z) (fun e => by cases e)) (fun _ => ?_)
      refine ⟨.str z, rfl, two, fun p2 np2 => ⟨_, p2, _, _, _, true, rfl, upd_same, .cons (.ty _) (.cons (.ty _) .nil), .base (.str z), any_ft (by decide +kernel) (by decide +kernel), _, rfl, ?_⟩⟩
      refine ite2 (fun _ => ?_) (fun z => absurd rfl z)
      refine ⟨.str z, rfl, .str z, rfl, rfl, _, rfl, ?_⟩
      refine ite2 (fun _ => ?_) (fun e => absurd (decide_eq_true rfl) e)
      refine ⟨.str z, rfl, _, _, _, _, false, rfl, .ty _, .base (.str z), isi_one (by decide +kernel), .str z, rfl, _, _, _, _, false, rfl, .ty _, .base (.str z), isi_one (by decide +kernel), rfl, _, rfl, ?_⟩
      refine ite2 (fun _ => ?_) (fun e => absurd rfl e)
      refine ⟨.str z, rfl, rfl, .str z, rfl, rfl, rfl, ?_⟩
      have e : decide (V.bl (decide (V.str z = V.non)) = V.bl (decide (V.str z = V.non))) = true := decide_eq_true rfl
      rw [e]
      exact q _ ((same_upd np).trans (same_upd np2))
    | list ds =>
      obtain ⟨hlen, hds⟩ := hd
      cases hx with
      | lst hxs hxa =>
      cases hy with
      | lst hys hya =>
      rename_i a xs b ys
      have lx := dpAll_len hxa
      have ly := dpAll_len hya
      refine ⟨.ref b, rfl, two, fun p np => ⟨_, p, _, _, _, true, rfl, upd_same, .cons (.ty _) (.cons (.ty _) .nil), tyL ((same_upd np).seq hys), any_t (by decide +kernel), _, rfl, ?_⟩⟩
      refine ite2 (fun _ => ?_) (fun z => absurd rfl z)
      have s1 : Same H (upd H p (.tup [.ty "list", .ty "tuple"])) := same_upd np
      have hxs1 := (s1).seq hxs
      have hys1 := (s1).seq hys
      refine ⟨.ref a, rfl, _, _, _, _, true, rfl, .ty _, tyL hxs1, isi_one (by decide +kernel), .ref b, rfl, _, _, _, _, true, rfl, .ty _, tyL hys1, isi_one (by decide +kernel), rfl, _, rfl, ?_⟩
      refine ite2 (fun c => by rw [decide_eq_true rfl] at c; cases c) (fun _ => ?_)
      refine ⟨.ref a, rfl, _, _, _, _, false, rfl, .ty _, tyL hxs1, isi_one (by decide +kernel), .ref b, rfl, _, _, _, _, false, rfl, .ty _, tyL hys1, isi_one (by decide +kernel), rfl, _, rfl, ?_⟩
      refine ite2 (fun c => by rw [decide_eq_true rfl] at c; cases c) (fun _ => ?_)
      refine ⟨.ref a, rfl, a, _, rfl, .inl hxs1, .ref b, rfl, b, _, rfl, .inl hys1, rfl, _, rfl, ?_⟩
      refine ite2 (fun _ => ?_) (fun z => absurd (decide_eq_true (congrArg V.int (by rw [lx, ly]))) z)
      refine ⟨.ref a, rfl, .ref b, rfl, a, b, xs, ys, rfl, .inl ⟨hxs1, hys1, fun D nD => lc_it (walk_zip (K := K) (a := a) (b := b) (xs := xs) (ys := ys) rfl)
        (fun i H' => Same (upd H p (.tup [.ty "list", .ty "tuple"])) H' ∧ H' D = some (.lst ((List.replicate i true).map V.bl))) ⟨same_upd nD, upd_same⟩ (fun i H' _ z => ⟨(z.1).seq hxs1, (z.1).seq hys1⟩) ?_ ?_⟩⟩
      · rintro i v H2 H3 hi ⟨s2, eD⟩ ⟨T1, x1, y1, rfl, nT, rfl, hx1, hy1⟩
        obtain ⟨d1, e1, r1⟩ := dpAll_at hxa hx1
        obtain ⟨d2, e2, r2⟩ := dpAll_at hya hy1
        have ed : d1 = d2 := by
          rw [e1] at e2
          exact Option.some.inj e2
        subst ed
        have s3 : Same (upd H p (.tup [.ty "list", .ty "tuple"])) (upd H2 T1 (.tup [x1, y1])) := s2.trans (same_upd nT)
        have hi' : i < 1000 := by omega
        refine ⟨T1, [x1, y1], rfl, SqT.of upd_same, rfl, x1, [y1], rfl, y1, [], rfl, rfl, ?_⟩
        refine ⟨rfl, ?_⟩
        unfold tYes
        refine ite2 (fun _ => ?_) (fun z => absurd rfl z)
        refine ⟨x1, rfl, y1, rfl, x1, y1, d1, rfl, dp_same (s1.trans s3) r1, dp_same (s1.trans s3) r2, hds d1 (List.mem_of_getElem? e1), fun H4 s4 => ?_⟩
        have eD4 : H4 D = some (.lst ((List.replicate i true).map V.bl)) := s4 _ _ (by rw [upd_ne (ne_of_none eD nT)]; exact eD)
        refine ⟨_, eD4, ?_, fun c o e => ?_, ?_⟩
        · rw [List.length_map, List.length_replicate]
          exact small1000 (Nat.le_of_lt hi')
        · rw [upd_ne (ne_of_none e nD)]
          exact s4 _ _ (s3 _ _ e)
        · rw [upd_same, List.replicate_succ', List.map_append]
          rfl
      · rintro H2 ⟨s2, eD⟩
        refine ⟨D, _, rfl, SqL.of eD, ?_⟩
        rw [all_yes]
        exact q _ (s1.trans s2)
    | tuple ds =>
      obtain ⟨hlen, hds⟩ := hd
      cases hx with
      | tup hxs hxa =>
      cases hy with
      | tup hys hya =>
      rename_i a xs b ys
      have lx := dpAll_len hxa
      have ly := dpAll_len hya
      refine ⟨.ref b, rfl, two, fun p np => ⟨_, p, _, _, _, true, rfl, upd_same, .cons (.ty _) (.cons (.ty _) .nil), tyT (sqT_same (same_upd np) hys), any_ft (by decide +kernel) (by decide +kernel), _, rfl, ?_⟩⟩
      refine ite2 (fun _ => ?_) (fun z => absurd rfl z)
      have s1 : Same H (upd H p (.tup [.ty "list", .ty "tuple"])) := same_upd np
      have hxs1 := sqT_same (s1) hxs
      have hys1 := sqT_same (s1) hys
      refine ⟨.ref a, rfl, _, _, _, _, false, rfl, .ty _, tyT hxs1, isi_one (by decide +kernel), .ref b, rfl, _, _, _, _, false, rfl, .ty _, tyT hys1, isi_one (by decide +kernel), rfl, _, rfl, ?_⟩
      refine ite2 (fun c => by rw [decide_eq_true rfl] at c; cases c) (fun _ => ?_)
      refine ⟨.ref a, rfl, _, _, _, _, true, rfl, .ty _, tyT hxs1, isi_one (by decide +kernel), .ref b, rfl, _, _, _, _, true, rfl, .ty _, tyT hys1, isi_one (by decide +kernel), rfl, _, rfl, ?_⟩
      refine ite2 (fun c => by rw [decide_eq_true rfl] at c; cases c) (fun _ => ?_)
      refine ⟨.ref a, rfl, a, _, rfl, .inr hxs1, .ref b, rfl, b, _, rfl, .inr hys1, rfl, _, rfl, ?_⟩
      refine ite2 (fun _ => ?_) (fun z => absurd (decide_eq_true (congrArg V.int (by rw [lx, ly]))) z)
      refine ⟨.ref a, rfl, .ref b, rfl, a, b, xs, ys, rfl, .inr ⟨hxs1, hys1, fun D nD => lc_it (walk_zipT (K := K) (a := a) (b := b) (xs := xs) (ys := ys) rfl)
        (fun i H' => Same (upd H p (.tup [.ty "list", .ty "tuple"])) H' ∧ H' D = some (.lst ((List.replicate i true).map V.bl))) ⟨same_upd nD, upd_same⟩ (fun i H' _ z => ⟨sqT_same (z.1) hxs1, sqT_same (z.1) hys1⟩) ?_ ?_⟩⟩
      · rintro i v H2 H3 hi ⟨s2, eD⟩ ⟨T1, x1, y1, rfl, nT, rfl, hx1, hy1⟩
        obtain ⟨d1, e1, r1⟩ := dpAll_at hxa hx1
        obtain ⟨d2, e2, r2⟩ := dpAll_at hya hy1
        have ed : d1 = d2 := by
          rw [e1] at e2
          exact Option.some.inj e2
        subst ed
        have s3 : Same (upd H p (.tup [.ty "list", .ty "tuple"])) (upd H2 T1 (.tup [x1, y1])) := s2.trans (same_upd nT)
        have hi' : i < 1000 := by omega
        refine ⟨T1, [x1, y1], rfl, SqT.of upd_same, rfl, x1, [y1], rfl, y1, [], rfl, rfl, ?_⟩
        refine ⟨rfl, ?_⟩
        unfold tYes
        refine ite2 (fun _ => ?_) (fun z => absurd rfl z)
        refine ⟨x1, rfl, y1, rfl, x1, y1, d1, rfl, dp_same (s1.trans s3) r1, dp_same (s1.trans s3) r2, hds d1 (List.mem_of_getElem? e1), fun H4 s4 => ?_⟩
        have eD4 : H4 D = some (.lst ((List.replicate i true).map V.bl)) := s4 _ _ (by rw [upd_ne (ne_of_none eD nT)]; exact eD)
        refine ⟨_, eD4, ?_, fun c o e => ?_, ?_⟩
        · rw [List.length_map, List.length_replicate]
          exact small1000 (Nat.le_of_lt hi')
        · rw [upd_ne (ne_of_none e nD)]
          exact s4 _ _ (s3 _ _ e)
        · rw [upd_same, List.replicate_succ', List.map_append]
          rfl
      · rintro H2 ⟨s2, eD⟩
        refine ⟨D, _, rfl, SqL.of eD, ?_⟩
        rw [all_yes]
        exact q _ (s1.trans s2)
    | _ => exact absurd hd id
end
end K01
namespace K01
open PySem PySem.Spec PyProof.Rows L2 CS
/-- what stood at first stands, and all of H2 but l -/
def KeepTo (H H2 : Hp) (l : Addr) (H' : Hp) : Prop := Same H H' ∧ Keep l H2 H'
theorem cut3 (ns : List Int) : cutV (ns.map V.int) (some 3) (some 63) = ((ns.drop (min 3 ns.length)).take (min 63 ns.length - min 3 ns.length)).map V.int := by
  unfold cutV
  rw [show HT.sIx (ns.map V.int).length 0 (some 3) = min 3 (ns.map V.int).length from HT.sIx_nat _ 0 3, show HT.sIx (ns.map V.int).length (ns.map V.int).length (some 63) = min 63 (ns.map V.int).length from HT.sIx_nat _ _ 63, List.length_map, List.map_take, List.map_drop]
theorem cut0 (ns : List Int) : cutV (ns.map V.int) none (some 3) = (ns.take (min 3 ns.length)).map V.int := by
  unfold cutV
  rw [show HT.sIx (ns.map V.int).length 0 none = 0 from HT.sIx_none _ _, show HT.sIx (ns.map V.int).length (ns.map V.int).length (some 3) = min 3 (ns.map V.int).length from HT.sIx_nat _ _ 3, List.length_map, List.map_take]
  rfl
section
variable {P : Program} {w : World} {K : PySem.W.Frag} {mg : Str → Option Value} {base : Heap}
def spCells (K : PySem.W.Frag) : Sp := fun vs H Q _ => ∃ (a : Addr) (ns : List Int), vs = [.ref a, .int 3] ∧ SqL K H a (ns.map V.int) ∧ ns.length ≤ 63 ∧
  ∀ (H' : Hp) (p : Addr) (ms : List Int), Same H H' → H p = none → H' p = some (.lst (ms.map V.int)) → 1 ≤ ms.length → ms.length ≤ 3 → Q (.ref p) H'
theorem scCells : FnScope ["_law_script", "_law_most_so", "_law_cells_here", "_law_k", "_law_cell", "_law_at_so"] ["_law_script", "_law_most_so"] (defScope sCells) := ⟨rfl, rfl, rfl, by decide +kernel, rfl, by decide +kernel, by decide +kernel⟩
theorem ok_cells {f : Addr} {fd : FuncData} {k : Nat} (F : Fun K "_law_cells" "_law_cells" sCells f fd) (mL : mg "list" = none) (mE : mg "enumerate" = none) (mi : mg "int" = none) : FnOk P w K mg base CX0 (k + 1) f fd ["_law_script", "_law_most_so"] (spCells K) := by
  refine F.ok scCells (fun vs H Q E h => ?_) (fun cdv A outer s H vs Q E hr h => ?_)
  · obtain ⟨a, ns, rfl, _⟩ := h
    rfl
  · obtain ⟨a, ns, rfl, hS, hn, q⟩ := h
    refine ⟨_, pss_cons (ps_set (i := 2) scCells.nd rfl (.inl rfl) (pe_orT (pe_callTy call_list_of (by rfl) mL (by decide +kernel) (pa_cons (pe_slice sl_list (pv 0) po_none (po_some (pv 1))) pa_nil)) (pe_one (pe_lst (pa_cons pe_int pa_nil)))))
      (pss_cons (ps_for PassesOwn.never rfl (pi_enum (by rfl) mE (pa_cons (pe_slice sl_list (pv 0) (po_some (pv 1)) (po_some pe_int)) pa_nil))
          (pg_tup rfl (pgs_cons (pg_name (i := 3) scCells.nd rfl (.inl rfl)) (pgs_cons (pg_name (i := 4) scCells.nd rfl (.inl rfl)) pgs_nil)))
        (pss_cons (ps_set (i := 5) scCells.nd rfl (.inl rfl) (pe_op op_modN (pe_callTy call_int1 (by rfl) mi (by decide +kernel) (pa_cons (pv 3) pa_nil)) (pv 1)))
          (pss_one (ps_asg (pe_op op_add (pe_ix ix_list (pv 2) (pv 5) (fun _ _ => rfl)) (pe_op op_mul (pv 4) (pe_op op_add (pv 3) pe_int))) (pg_sub (pv 2) (pv 5) set_list)))))
      (pss_one (ps_ret (pv 2)))), ?_⟩
    refine ⟨.ref a, rfl, .int 3, rfl, 3, rfl, a, ns.map V.int, rfl, hS, fun c nc => ?_⟩
    rw [cut0]
    refine ⟨c, _, rfl, .inl (SqL.of upd_same), fun l nl0 => ?_⟩
    have s0 : Same H (upd (upd H c (.lst ((ns.take (min 3 ns.length)).map V.int))) l (.lst ((ns.take (min 3 ns.length)).map V.int))) := (same_upd nc).trans (same_upd nl0)
    have nlH : H l = none := (same_upd nc).free nl0
    have hl1 : (ns.take (min 3 ns.length)).length = min 3 ns.length := by
      rw [List.length_take]
      omega
    refine ⟨_, .inl ⟨_, SqL.of upd_same, rfl⟩, ?_⟩
    refine ite2 (fun c1 => ?_) (fun c1 => ?_)
    · have hpos : 0 < ns.length := by
        cases ns with
        | nil => cases c1
        | cons x r => exact Nat.succ_pos _
      have e1 : (upd (upd H c (.lst ((ns.take (min 3 ns.length)).map V.int))) l (.lst ((ns.take (min 3 ns.length)).map V.int))) l = some (.lst ((ns.take (min 3 ns.length)).map V.int)) := upd_same
      generalize upd (upd H c (.lst ((ns.take (min 3 ns.length)).map V.int))) l (.lst ((ns.take (min 3 ns.length)).map V.int)) = H1 at s0 e1
      generalize ns.take (min 3 ns.length) = ms at e1 hl1
      have s1 := s0
      have nl := nlH
      have m1 : 1 ≤ ms.length := by omega
      have m3 : ms.length ≤ 3 := by omega
      have h3 : 3 < ns.length → ms.length = 3 := fun _ => by omega
      refine ⟨.ref a, rfl, .int 3, rfl, 3, rfl, 63, rfl, a, ns.map V.int, rfl, s1.seq hS, fun c2 nc2 => ?_⟩
      rw [cut3]
      have s2 : Same H (upd H1 c2 (.lst (((ns.drop (min 3 ns.length)).take (min 63 ns.length - min 3 ns.length)).map V.int))) := s1.trans (same_upd nc2)
      have ncl : c2 ≠ l := fun z => by
        rw [z, e1] at nc2
        cases nc2
      have hC : SqL K (upd H1 c2 (.lst (((ns.drop (min 3 ns.length)).take (min 63 ns.length - min 3 ns.length)).map V.int))) c2 (((ns.drop (min 3 ns.length)).take (min 63 ns.length - min 3 ns.length)).map V.int) := SqL.of upd_same
      have eL : (upd H1 c2 (.lst (((ns.drop (min 3 ns.length)).take (min 63 ns.length - min 3 ns.length)).map V.int))) l = some (.lst (ms.map V.int)) := by
        rw [upd_ne ncl.symm]
        exact e1
      have hlenr : ((ns.drop (min 3 ns.length)).take (min 63 ns.length - min 3 ns.length)).length = min 63 ns.length - min 3 ns.length := by
        rw [List.length_take, List.length_drop]
        omega
      generalize ((ns.drop (min 3 ns.length)).take (min 63 ns.length - min 3 ns.length)) = rest at s2 hC eL hlenr
      generalize upd H1 c2 (.lst (rest.map V.int)) = H2 at s2 hC eL
      refine ⟨c2, rest.map V.int, rfl, hC, for_it (walk_enum (K := K) (a := c2) (xs := rest.map V.int)) (fun i σ H' => ∃ (y3 y4 y5 : Option V) (zs : List Int), σ = [some (.ref a), some (.int 3), some (.ref l), y3, y4, y5] ∧ KeepTo H H2 l H' ∧ H' l = some (.lst (zs.map V.int)) ∧ zs.length = ms.length)
        ⟨none, none, none, ms, rfl, ⟨s2, fun _ _ _ e => e⟩, eL, rfl⟩ (fun i σ H' _ z => by
          obtain ⟨_, _, _, _, _, kk, _, _⟩ := z
          exact Keep.sqL (b := l) kk.2 ncl hC) ?_ ?_⟩
      · rintro i v σ H3 H4 hi ⟨y3, y4, y5, zs, rfl, kk, e3, hzl⟩ ⟨T, x, y, rfl, nT, rfl, hx, hy⟩
        cases hx
        replace hy : (rest.map V.int)[i]? = some y := hy
        rw [List.getElem?_map] at hy
        rw [List.length_map, hlenr] at hi
        cases e : rest[i]? with
        | none =>
          rw [e] at hy
          cases hy
        | some u =>
          rw [e] at hy
          cases hy
          have hz3 : zs.length = 3 := by rw [hzl]; exact h3 (by omega)
          have f0 := Int.fmod_nonneg_of_pos (i : Int) (b := 3) (by decide)
          have f1 := Int.fmod_lt_of_pos (i : Int) (b := 3) (by decide)
          have nlT : l ≠ T := ne_of_none e3 nT
          have e3T : (upd H3 T (.tup [.int (i : Nat), .int u])) l = some (.lst (zs.map V.int)) := by
            rw [upd_ne nlT]
            exact e3
          refine ⟨T, [.int (i : Nat), .int u], rfl, SqT.of upd_same, rfl, .int (i : Nat), [.int u], rfl, .int u, [], rfl, rfl, ?_⟩
          refine ⟨.int (i : Nat), rfl, .inl ⟨_, rfl, .int 3, rfl, _, _, rfl, rfl, (by show (3 : Int) ≠ 0; decide), ?_⟩⟩
          have hj : (Int.fmod (i : Int) 3).toNat < zs.length := by omega
          have hat : atI (zs.map V.int) (Int.fmod (i : Int) 3) = some (.int zs[(Int.fmod (i : Int) 3).toNat]) := by
            have za := atI_nat (j := (Int.fmod (i : Int) 3).toNat) (xs := zs.map V.int) (v := .int zs[(Int.fmod (i : Int) 3).toNat]) (by rw [List.getElem?_map, List.getElem?_eq_getElem hj]; rfl)
            rw [show (((Int.fmod (i : Int) 3).toNat : Nat) : Int) = Int.fmod (i : Int) 3 by omega] at za
            exact za
          refine ⟨.ref l, rfl, .int _, rfl, l, _, _, _, rfl, rfl, SqL.of e3T, hat, .int u, rfl, .int (i : Nat), rfl, _, _, rfl, rfl, _, _, rfl, rfl, .inr (by omega), _, _, rfl, rfl, ?_⟩
          refine ⟨.ref l, rfl, .int _, rfl, l, _, _, (Int.fmod (i : Int) 3).toNat, rfl, rfl, e3T, ?_, ?_⟩
          · unfold ixN
            rw [List.length_map, if_pos f0, if_pos (by omega)]
          · refine ⟨_, _, _, zs.set (Int.fmod (i : Int) 3).toNat (zs[(Int.fmod (i : Int) 3).toNat] + u * ((i : Int) + 2)), rfl, ⟨fun c o ec => ?_, fun c o nc ec => ?_⟩, ?_, ?_⟩
            · have q3 := kk.1 _ _ ec
              have ncl3 : c ≠ l := ne_of_none ec nl
              rw [upd_ne ncl3, upd_ne (ne_of_none q3 nT)]
              exact q3
            · have q3 := kk.2 _ _ nc ec
              rw [upd_ne nc, upd_ne (ne_of_none q3 nT)]
              exact q3
            · rw [upd_same, List.map_set]
            · rw [List.length_set]
              exact hzl
      · rintro σ H3 ⟨y3, y4, y5, zs, rfl, kk, e3, hzl⟩
        exact ⟨.ref l, rfl, q H3 l zs kk.1 nl e3 (by omega) (by omega)⟩
    · have hnil : ns.length = 0 := by
        cases ns with
        | nil => rfl
        | cons x r =>
          exfalso
          apply c1
          show (!(((x :: r).take (min 3 (r.length + 1))).map V.int).isEmpty) = true
          rw [show min 3 (r.length + 1) = (min 2 r.length) + 1 by omega]
          rfl
      refine ⟨(by show 1 ≤ sizeLine; decide), fun l2 nl2 => ?_⟩
      have s1 := s0.trans (same_upd (o := .lst [.int 0]) nl2)
      have nl : H l2 = none := s0.free nl2
      have e1 : (upd (upd (upd H c (.lst ((ns.take (min 3 ns.length)).map V.int))) l (.lst ((ns.take (min 3 ns.length)).map V.int))) l2 (.lst [.int 0])) l2 = some (.lst (([0] : List Int).map V.int)) := upd_same
      generalize upd (upd (upd H c (.lst ((ns.take (min 3 ns.length)).map V.int))) l (.lst ((ns.take (min 3 ns.length)).map V.int))) l2 (.lst [.int 0]) = H1 at s1 e1
      generalize l2 = l at nl e1
      generalize ems : ([0] : List Int) = ms at e1
      have m1 : 1 ≤ ms.length := by rw [← ems]; decide
      have m3 : ms.length ≤ 3 := by rw [← ems]; decide
      have h3 : 3 < ns.length → ms.length = 3 := fun z => by omega
      refine ⟨.ref a, rfl, .int 3, rfl, 3, rfl, 63, rfl, a, ns.map V.int, rfl, s1.seq hS, fun c2 nc2 => ?_⟩
      rw [cut3]
      have s2 : Same H (upd H1 c2 (.lst (((ns.drop (min 3 ns.length)).take (min 63 ns.length - min 3 ns.length)).map V.int))) := s1.trans (same_upd nc2)
      have ncl : c2 ≠ l := fun z => by
        rw [z, e1] at nc2
        cases nc2
      have hC : SqL K (upd H1 c2 (.lst (((ns.drop (min 3 ns.length)).take (min 63 ns.length - min 3 ns.length)).map V.int))) c2 (((ns.drop (min 3 ns.length)).take (min 63 ns.length - min 3 ns.length)).map V.int) := SqL.of upd_same
      have eL : (upd H1 c2 (.lst (((ns.drop (min 3 ns.length)).take (min 63 ns.length - min 3 ns.length)).map V.int))) l = some (.lst (ms.map V.int)) := by
        rw [upd_ne ncl.symm]
        exact e1
      have hlenr : ((ns.drop (min 3 ns.length)).take (min 63 ns.length - min 3 ns.length)).length = min 63 ns.length - min 3 ns.length := by
        rw [List.length_take, List.length_drop]
        omega
      generalize ((ns.drop (min 3 ns.length)).take (min 63 ns.length - min 3 ns.length)) = rest at s2 hC eL hlenr
      generalize upd H1 c2 (.lst (rest.map V.int)) = H2 at s2 hC eL
      refine ⟨c2, rest.map V.int, rfl, hC, for_it (walk_enum (K := K) (a := c2) (xs := rest.map V.int)) (fun i σ H' => ∃ (y3 y4 y5 : Option V) (zs : List Int), σ = [some (.ref a), some (.int 3), some (.ref l), y3, y4, y5] ∧ KeepTo H H2 l H' ∧ H' l = some (.lst (zs.map V.int)) ∧ zs.length = ms.length)
        ⟨none, none, none, ms, rfl, ⟨s2, fun _ _ _ e => e⟩, eL, rfl⟩ (fun i σ H' _ z => by
          obtain ⟨_, _, _, _, _, kk, _, _⟩ := z
          exact Keep.sqL (b := l) kk.2 ncl hC) ?_ ?_⟩
      · rintro i v σ H3 H4 hi ⟨y3, y4, y5, zs, rfl, kk, e3, hzl⟩ ⟨T, x, y, rfl, nT, rfl, hx, hy⟩
        cases hx
        replace hy : (rest.map V.int)[i]? = some y := hy
        rw [List.getElem?_map] at hy
        rw [List.length_map, hlenr] at hi
        cases e : rest[i]? with
        | none =>
          rw [e] at hy
          cases hy
        | some u =>
          rw [e] at hy
          cases hy
          have hz3 : zs.length = 3 := by rw [hzl]; exact h3 (by omega)
          have f0 := Int.fmod_nonneg_of_pos (i : Int) (b := 3) (by decide)
          have f1 := Int.fmod_lt_of_pos (i : Int) (b := 3) (by decide)
          have nlT : l ≠ T := ne_of_none e3 nT
          have e3T : (upd H3 T (.tup [.int (i : Nat), .int u])) l = some (.lst (zs.map V.int)) := by
            rw [upd_ne nlT]
            exact e3
          refine ⟨T, [.int (i : Nat), .int u], rfl, SqT.of upd_same, rfl, .int (i : Nat), [.int u], rfl, .int u, [], rfl, rfl, ?_⟩
          refine ⟨.int (i : Nat), rfl, .inl ⟨_, rfl, .int 3, rfl, _, _, rfl, rfl, (by show (3 : Int) ≠ 0; decide), ?_⟩⟩
          have hj : (Int.fmod (i : Int) 3).toNat < zs.length := by omega
          have hat : atI (zs.map V.int) (Int.fmod (i : Int) 3) = some (.int zs[(Int.fmod (i : Int) 3).toNat]) := by
            have za := atI_nat (j := (Int.fmod (i : Int) 3).toNat) (xs := zs.map V.int) (v := .int zs[(Int.fmod (i : Int) 3).toNat]) (by rw [List.getElem?_map, List.getElem?_eq_getElem hj]; rfl)
            rw [show (((Int.fmod (i : Int) 3).toNat : Nat) : Int) = Int.fmod (i : Int) 3 by omega] at za
            exact za
          refine ⟨.ref l, rfl, .int _, rfl, l, _, _, _, rfl, rfl, SqL.of e3T, hat, .int u, rfl, .int (i : Nat), rfl, _, _, rfl, rfl, _, _, rfl, rfl, .inr (by omega), _, _, rfl, rfl, ?_⟩
          refine ⟨.ref l, rfl, .int _, rfl, l, _, _, (Int.fmod (i : Int) 3).toNat, rfl, rfl, e3T, ?_, ?_⟩
          · unfold ixN
            rw [List.length_map, if_pos f0, if_pos (by omega)]
          · refine ⟨_, _, _, zs.set (Int.fmod (i : Int) 3).toNat (zs[(Int.fmod (i : Int) 3).toNat] + u * ((i : Int) + 2)), rfl, ⟨fun c o ec => ?_, fun c o nc ec => ?_⟩, ?_, ?_⟩
            · have q3 := kk.1 _ _ ec
              have ncl3 : c ≠ l := ne_of_none ec nl
              rw [upd_ne ncl3, upd_ne (ne_of_none q3 nT)]
              exact q3
            · have q3 := kk.2 _ _ nc ec
              rw [upd_ne nc, upd_ne (ne_of_none q3 nT)]
              exact q3
            · rw [upd_same, List.map_set]
            · rw [List.length_set]
              exact hzl
      · rintro σ H3 ⟨y3, y4, y5, zs, rfl, kk, e3, hzl⟩
        exact ⟨.ref l, rfl, q H3 l zs kk.1 nl e3 (by omega) (by omega)⟩
end
end K01
namespace K01
open PySem PySem.Spec PyProof.Rows L2 CS RZ
/-! ### calls by keywords alone -/
section
variable {X : Cx} {CX : CXT} {k : Nat} {f : Addr} {fd : FuncData} {ps ks : List Str} {sp : Sp} {E : XK} {x : Str} {p pos : Pos} {kws : List Keyword} {tk : TA} {g : List Value → List Value → List Value} {gV : List V → List V → List V}
theorem pe_callK0 (F : FnOk X.prog X.w X.K X.mg X.base CX k f fd ps sp) (hr : Room k X.A) (gx : Gl X x) (mx : X.mg x = some (.ref f)) (kx : PySem.W.keepIn X.K (.ref f) = true) (kb : KBinds X.K fd ps ks g gV) (px : Passes CX X E) (hkw : PK X kws tk)
    (hall : (backToKw pos (keywordEach kws X.env)).all (·.1.isSome) = true := by rfl) (hks : (backToKw pos (keywordEach kws X.env)).filterMap (·.1) = ks := by rfl) (hdb : (x == ("__debug__" : Str)) = false := by decide)
    (hpl : ((backTo pos (starEach [] X.env)).any (·.1) || (backToKw pos (keywordEach kws X.env)).any (·.1.isNone)) = false := by rfl) : PE X (.Call (.Name x p) [] kws pos) (tCallK sp gV E tNil tk) := by
  refine ⟨fun pins s0 σ H0 Q0 I0 hw => ?_⟩
  refine wpAny_Call_Name_kw (ld_glob I0 gx mx ?_ hdb)
  refine PySem.W.callWith_KW0 (h₀ := X.base) I0.ok.mod.kin kx hall ?_ hpl
  refine thn (hkw.run pos pins s0 σ H0 _ I0 hw) fun ws s2 ⟨zs, H2, I2, rz, q2⟩ => ⟨I2.kIn, ?_⟩
  rw [hks]
  exact run_fnk (us := []) (vs := []) F hr kb px I2 .nil rz q2
end
def kw1 {α : Type} : List α → List α → List α
  | [], [x] => [x]
  | _, _ => []
def kw2 {α : Type} : List α → List α → List α
  | [], [x, y] => [y, x]
  | _, _ => []
section
variable {K : PySem.W.Frag}
theorem kb1 {x qual : Str} {st : Stmt} {f : Addr} {fd : FuncData} {a : Str} (F : Fun K x qual st f fd)
    (h : ∀ (kV doc pm : Value) (an : Option Addr) (cdv ct u : Value), bindArgs (PySem.W.fnOf x qual (defArgs st) (defBody st) (defScope st) .none kV doc pm an cdv ct) ⟨[], [(a, u)]⟩ = pure [(a, u)]) : KBinds K fd [a] [a] kw1 kw1 := by
  obtain ⟨oc, od, kV, doc, pm, an, cdv, ct, osl, rfl, lk, hcd⟩ := F.ex
  refine ⟨fun s us ws _ hl => ?_, fun r1 r2 => ?_⟩
  · match us, ws, hl with
    | [], [u], _ => exact .of_eq (h kV doc pm an cdv ct u)
    | [], [], e => cases e
    | [], _ :: _ :: _, e => cases e
    | _ :: _, _, e => cases e
  · cases r1 with
    | nil =>
      cases r2 with
      | nil => exact .nil
      | cons a1 t1 =>
        cases t1 with
        | nil => exact .cons a1 .nil
        | cons _ _ => exact .nil
    | cons _ _ => exact .nil
theorem kb2 {x qual : Str} {st : Stmt} {f : Addr} {fd : FuncData} {a b : Str} (F : Fun K x qual st f fd)
    (h : ∀ (kV doc pm : Value) (an : Option Addr) (cdv ct u v : Value), bindArgs (PySem.W.fnOf x qual (defArgs st) (defBody st) (defScope st) .none kV doc pm an cdv ct) ⟨[], [(b, u), (a, v)]⟩ = pure [(a, v), (b, u)]) : KBinds K fd [a, b] [b, a] kw2 kw2 := by
  obtain ⟨oc, od, kV, doc, pm, an, cdv, ct, osl, rfl, lk, hcd⟩ := F.ex
  refine ⟨fun s us ws _ hl => ?_, fun r1 r2 => ?_⟩
  · match us, ws, hl with
    | [], [u, v], _ => exact .of_eq (h kV doc pm an cdv ct u v)
    | [], [], e => cases e
    | [], [_], e => cases e
    | [], _ :: _ :: _ :: _, e => cases e
    | _ :: _, _, e => cases e
  · cases r1 with
    | nil =>
      cases r2 with
      | nil => exact .nil
      | cons a1 t1 =>
        cases t1 with
        | nil => exact .nil
        | cons a2 t2 =>
          cases t2 with
          | nil => exact .cons a2 (.cons a1 .nil)
          | cons _ _ => exact .nil
    | cons _ _ => exact .nil
theorem kbTurned {f : Addr} {fd : FuncData} (F : Fun K "turned" "turned" sTurned f fd) : KBinds K fd ["journey"] ["journey"] kw1 kw1 := kb1 F fun _ _ _ _ _ _ _ => rfl
theorem kbVisits {f : Addr} {fd : FuncData} (F : Fun K "visits" "visits" sVisits f fd) : KBinds K fd ["journey", "place"] ["place", "journey"] kw2 kw2 := kb2 F fun _ _ _ _ _ _ _ _ => rfl
/-! ### the data that are compared -/
def dS (ss : List Str) : List PyData := ss.map PyData.str
def dI (ns : List Int) : List PyData := ns.map PyData.int
def dP (ps : List (Str × Str)) : List PyData := ps.map fun p => PyData.tuple [.str p.1, .str p.2]
theorem dpS {H : Hp} : ∀ ss : List Str, DpAll K H (ss.map V.str) (dS ss)
  | [] => .nil
  | z :: r => .cons (.str z) (dpS r)
theorem dpI {H : Hp} : ∀ ns : List Int, DpAll K H (ns.map V.int) (dI ns)
  | [] => .nil
  | z :: r => .cons (.int z) (dpI r)
theorem dpP {H : Hp} : ∀ (as : List Addr) (ps : List (Str × Str)), as.length = ps.length → (∀ (j : Nat) (a : Addr) (x y : Str), as[j]? = some a → ps[j]? = some (x, y) → H a = some (.tup [.str x, .str y])) → DpAll K H (as.map V.ref) (dP ps)
  | [], [], _, _ => .nil
  | [], _ :: _, e, _ => by cases e
  | _ :: _, [], e, _ => by cases e
  | a :: as, (x, y) :: ps, e, h => .cons (.tup (SqT.of (h 0 a x y rfl rfl)) (.cons (.str x) (.cons (.str y) .nil))) (dpP as ps (Nat.succ.inj e) fun j b u v e1 e2 => h (j + 1) b u v e1 e2)
theorem okS (n : Nat) (ss : List Str) (h : ss.length ≤ 1000) : okD (n + 2) (.tuple (dS ss)) := ⟨by unfold dS; rw [List.length_map]; exact h, fun d hd => by
  unfold dS at hd
  obtain ⟨z, _, rfl⟩ := List.mem_map.mp hd
  trivial⟩
theorem okI (n : Nat) (ns : List Int) (h : ns.length ≤ 1000) : okD (n + 2) (.tuple (dI ns)) := ⟨by unfold dI; rw [List.length_map]; exact h, fun d hd => by
  unfold dI at hd
  obtain ⟨z, _, rfl⟩ := List.mem_map.mp hd
  trivial⟩
theorem okP (n : Nat) (ps : List (Str × Str)) (h : ps.length ≤ 1000) : okD (n + 3) (.tuple (dP ps)) := ⟨by unfold dP; rw [List.length_map]; exact h, fun d hd => by
  unfold dP at hd
  obtain ⟨z, _, rfl⟩ := List.mem_map.mp hd
  refine ⟨by show 2 ≤ 1000; decide, fun d hd => ?_⟩
  rcases List.mem_cons.mp hd with rfl | hd
  · trivial
  · rw [List.mem_singleton.mp hd]
    trivial⟩
/-- all that is told of a row and a place -/
def dAll (ss : List Str) (t : Str) : List PyData := [.tuple (dP (prs ss)), .tuple (dI (viL t 0 ss)), .tuple (dS (exL t (prs ss))), .tuple (dS (enL t (prs ss)))]
theorem okAll (ss : List Str) (t : Str) (h : ss.length ≤ 900) : okD 4 (.list (dAll ss t)) := by
  have l1 := prs_len ss
  have l2 := viL_len t 0 ss
  have l3 := exL_len t (prs ss)
  have l4 := enL_len t (prs ss)
  refine ⟨by show 4 ≤ 1000; decide, fun d hd => ?_⟩
  rcases List.mem_cons.mp hd with rfl | hd
  · exact okP 0 _ (by omega)
  rcases List.mem_cons.mp hd with rfl | hd
  · exact okI 1 _ (by omega)
  rcases List.mem_cons.mp hd with rfl | hd
  · exact okS 1 _ (by omega)
  rcases List.mem_cons.mp hd with rfl | hd
  · exact okS 1 _ (by omega)
  · cases hd
end
end K01
namespace K01
open PySem PySem.Spec PyProof.Rows L2 CS RZ
theorem layS : ∀ ss : List Str, (∀ z ∈ ss, PyData.strOk z = true) → PyData.canLayAll0 (dS ss) = true
  | [], _ => rfl
  | z :: r, h => by
    show (PyData.canLay0 (.str z) && PyData.canLayAll0 (dS r)) = true
    rw [layS r fun y hy => h y (List.mem_cons_of_mem _ hy), Bool.and_true]
    exact h z (List.mem_cons_self ..)
theorem depS : ∀ ss : List Str, PyData.depthAll (dS ss) = 0
  | [] => rfl
  | z :: r => by
    show max (PyData.depth (.str z)) (PyData.depthAll (dS r)) = 0
    rw [depS r]
    rfl
theorem shS (ss : List Str) (h : ∀ z ∈ ss, PyData.strOk z = true) : SeqAt.shaped (.list (dS ss)) = true := by
  unfold SeqAt.shaped
  rw [Bool.and_eq_true]
  refine ⟨layS ss h, decide_eq_true ?_⟩
  show PyData.depthAll (dS ss) + 1 ≤ 64
  rw [depS]
  decide
theorem prs_all {ss : List Str} {as : List Addr} {H : Hp} (h : PairsAt (ss.map V.str) (ss.tail.map V.str) as H) (j : Nat) (a : Addr) (x y : Str) (ha : as[j]? = some a) (hp : (prs ss)[j]? = some (x, y)) : H a = some (.tup [.str x, .str y]) := by
  unfold prs at hp
  rw [List.getElem?_zip_eq_some] at hp
  exact h j a _ _ ha (by rw [List.getElem?_map, hp.1]; rfl) (by rw [List.getElem?_map, hp.2]; rfl)
/-- four lists of their own -/
structure Four (H : Hp) (l1 l2 l3 l4 : Addr) : Prop where
  f1 : H l1 = none
  f2 : H l2 = none
  f3 : H l3 = none
  f4 : H l4 = none
  d12 : l1 ≠ l2
  d13 : l1 ≠ l3
  d14 : l1 ≠ l4
  d23 : l2 ≠ l3
  d24 : l2 ≠ l4
  d34 : l3 ≠ l4
/-- what the four lists hold -/
structure CC (H : Hp) (ss : List Str) (t : Str) (l1 l2 l3 l4 : Addr) (as : List Addr) (i2 i3 i4 : Nat) (H' : Hp) : Prop where
  sm : Same H H'
  e1 : H' l1 = some (.lst (as.map V.ref))
  pa : ∀ (j : Nat) (b : Addr) (x y : Str), as[j]? = some b → (prs ss)[j]? = some (x, y) → H' b = some (.tup [.str x, .str y])
  e2 : H' l2 = some (.lst ((viL t 0 (ss.take i2)).map V.int))
  e3 : H' l3 = some (.lst ((exL t ((prs ss).take i3)).map V.str))
  e4 : H' l4 = some (.lst ((enL t ((prs ss).take i4)).map V.str))
section
variable {H H' : Hp} {ss : List Str} {t : Str} {l1 l2 l3 l4 : Addr} {as : List Addr} {i2 i3 i4 j : Nat}
theorem CC.new {T : Addr} {o : HO} (c : CC H ss t l1 l2 l3 l4 as i2 i3 i4 H') (n : H' T = none) : CC H ss t l1 l2 l3 l4 as i2 i3 i4 (upd H' T o) :=
  have s := same_upd (o := o) n
  ⟨c.sm.trans s, s _ _ c.e1, fun j b x y e1 e2 => s _ _ (c.pa j b x y e1 e2), s _ _ c.e2, s _ _ c.e3, s _ _ c.e4⟩
theorem CC.up2 (c : CC H ss t l1 l2 l3 l4 as i2 i3 i4 H') (F : Four H l1 l2 l3 l4) {k : Int} (e : viL t 0 (ss.take j) = viL t 0 (ss.take i2) ++ [k]) : CC H ss t l1 l2 l3 l4 as j i3 i4 (upd H' l2 (.lst ((viL t 0 (ss.take i2)).map V.int ++ [.int k]))) where
  sm := fun b o q => by rw [upd_ne (ne_of_none q F.f2)]; exact c.sm _ _ q
  e1 := by rw [upd_ne F.d12]; exact c.e1
  pa := fun i b x y q1 q2 => by
    have q := c.pa i b x y q1 q2
    rw [upd_ne (ne_of q c.e2 (by intro z; cases z))]
    exact q
  e2 := by rw [upd_same, e, List.map_append]; rfl
  e3 := by rw [upd_ne F.d23.symm]; exact c.e3
  e4 := by rw [upd_ne F.d24.symm]; exact c.e4
theorem CC.up3 (c : CC H ss t l1 l2 l3 l4 as i2 i3 i4 H') (F : Four H l1 l2 l3 l4) {k : Str} (e : exL t ((prs ss).take j) = exL t ((prs ss).take i3) ++ [k]) : CC H ss t l1 l2 l3 l4 as i2 j i4 (upd H' l3 (.lst ((exL t ((prs ss).take i3)).map V.str ++ [.str k]))) where
  sm := fun b o q => by rw [upd_ne (ne_of_none q F.f3)]; exact c.sm _ _ q
  e1 := by rw [upd_ne F.d13]; exact c.e1
  pa := fun i b x y q1 q2 => by
    have q := c.pa i b x y q1 q2
    rw [upd_ne (ne_of q c.e3 (by intro z; cases z))]
    exact q
  e2 := by rw [upd_ne F.d23]; exact c.e2
  e3 := by rw [upd_same, e, List.map_append]; rfl
  e4 := by rw [upd_ne F.d34.symm]; exact c.e4
theorem CC.up4 (c : CC H ss t l1 l2 l3 l4 as i2 i3 i4 H') (F : Four H l1 l2 l3 l4) {k : Str} (e : enL t ((prs ss).take j) = enL t ((prs ss).take i4) ++ [k]) : CC H ss t l1 l2 l3 l4 as i2 i3 j (upd H' l4 (.lst ((enL t ((prs ss).take i4)).map V.str ++ [.str k]))) where
  sm := fun b o q => by rw [upd_ne (ne_of_none q F.f4)]; exact c.sm _ _ q
  e1 := by rw [upd_ne F.d14]; exact c.e1
  pa := fun i b x y q1 q2 => by
    have q := c.pa i b x y q1 q2
    rw [upd_ne (ne_of q c.e4 (by intro z; cases z))]
    exact q
  e2 := by rw [upd_ne F.d24]; exact c.e2
  e3 := by rw [upd_ne F.d34]; exact c.e3
  e4 := by rw [upd_same, e, List.map_append]; rfl
theorem CC.up1 (c : CC H ss t l1 l2 l3 l4 as i2 i3 i4 H') (F : Four H l1 l2 l3 l4) {b : Addr} {x y : Str} (hb : H' b = some (.tup [.str x, .str y])) (hp : (prs ss)[as.length]? = some (x, y)) : CC H ss t l1 l2 l3 l4 (as ++ [b]) i2 i3 i4 (upd H' l1 (.lst (as.map V.ref ++ [.ref b]))) where
  sm := fun c' o q => by rw [upd_ne (ne_of_none q F.f1)]; exact c.sm _ _ q
  e1 := by rw [upd_same, List.map_append]; rfl
  pa := fun i b' x' y' q1 q2 => by
    by_cases hi : i < as.length
    · rw [List.getElem?_append_left hi] at q1
      have q := c.pa i b' x' y' q1 q2
      rw [upd_ne (ne_of q c.e1 (by intro z; cases z))]
      exact q
    · have hl := (List.getElem?_eq_some_iff.mp q1).1
      rw [List.length_append, List.length_singleton] at hl
      have ei : i = as.length := by omega
      subst ei
      rw [List.getElem?_append_right (Nat.le_refl _), Nat.sub_self] at q1
      have eb : b = b' := Option.some.inj q1
      subst eb
      rw [hp] at q2
      cases q2
      rw [upd_ne (ne_of hb c.e1 (by intro z; cases z))]
      exact hb
  e2 := by rw [upd_ne F.d12.symm]; exact c.e2
  e3 := by rw [upd_ne F.d13.symm]; exact c.e3
  e4 := by rw [upd_ne F.d14.symm]; exact c.e4
end
theorem prs_get {ss : List Str} {j : Nat} {x y : Str} (h1 : ss[j]? = some x) (h2 : ss[j + 1]? = some y) : (prs ss)[j]? = some (x, y) := by
  unfold prs
  rw [List.getElem?_zip_eq_some]
  exact ⟨h1, by rw [List.getElem?_tail]; exact h2⟩
section
variable {P : Program} {w : World} {K : PySem.W.Frag} {mg : Str → Option Value} {base : Heap}
/-- what is known of the five defs of the program -/
structure PrG (P : Program) (w : World) (K : PySem.W.Frag) (mg : Str → Option Value) (base : Heap) (k : Nat) where
  {fS fV fX fN fT : Addr}
  {dSt dVi dEx dEn dTu : FuncData}
  S : FnOk P w K mg base CX0 k fS dSt ["journey"] (spSteps K)
  V : FnOk P w K mg base CX0 k fV dVi ["journey", "place"] (spPl K gVi)
  X : FnOk P w K mg base CX0 k fX dEx ["journey", "place"] (spPl K gEx)
  N : FnOk P w K mg base CX0 k fN dEn ["journey", "place"] (spPl K gEn)
  T : FnOk P w K mg base CX0 k fT dTu ["journey"] (spTurned K)
  kS : PySem.W.keepIn K (.ref fS) = true
  kV : PySem.W.keepIn K (.ref fV) = true
  kX : PySem.W.keepIn K (.ref fX) = true
  kN : PySem.W.keepIn K (.ref fN) = true
  kT : PySem.W.keepIn K (.ref fT) = true
  bS : Binds K dSt ["journey"] []
  bV : Binds K dVi ["journey", "place"] []
  bX : Binds K dEx ["journey", "place"] []
  bN : Binds K dEn ["journey", "place"] []
  bT : Binds K dTu ["journey"] []
  cS : KBinds K dSt ["journey"] ["journey"] kw1 kw1
  cV : KBinds K dVi ["journey", "place"] ["place", "journey"] kw2 kw2
  cX : KBinds K dEx ["journey", "place"] ["place", "journey"] kw2 kw2
  cN : KBinds K dEn ["journey", "place"] ["place", "journey"] kw2 kw2
  cT : KBinds K dTu ["journey"] ["journey"] kw1 kw1
  mS : mg "steps_of" = some (.ref fS)
  mV : mg "visits" = some (.ref fV)
  mX : mg "exits" = some (.ref fX)
  mN : mg "entries" = some (.ref fN)
  mT : mg "turned" = some (.ref fT)
def spCase (K : PySem.W.Frag) : Sp := fun vs H Q _ => ∃ (a : Addr) (ss : List Str) (t : Str), vs = [.ref a, .str t] ∧ SqT K H a (ss.map V.str) ∧ 0 < ss.length ∧ ss.length ≤ 900 ∧ (∀ z ∈ ss, PyData.strOk z = true) ∧ ∀ H' : Hp, Same H H' → Q (.bl true) H'
abbrev nCase : List Str := ["_law_row_so", "_law_tag", "_law_pairs_so", "_law_spots_so", "_law_after", "_law_ahead", "_law_k", "_law_here", "_law_due", "_law_soft", "_law_got"]
theorem scCase : FnScope nCase ["_law_row_so", "_law_tag"] (defScope sCase) := ⟨rfl, rfl, rfl, by decide +kernel, rfl, by decide +kernel, by decide +kernel⟩
theorem ok_case {f fm : Addr} {fd dm : FuncData} {k : Nat} (F : Fun K "_law_case_right" "_law_case_right" sCase f fd) (G : PrG P w K mg base k) (M : FnOk P w K mg base CX0 k fm dm ["_law_got", "_law_due"] (spSame K 4)) (bM : Binds K dm ["_law_got", "_law_due"] []) (kM : PySem.W.keepIn K (.ref fm) = true) (mM : mg "_law_same" = some (.ref fm)) (T : SmT mg) (me : mg "enumerate" = none) :
    FnOk P w K mg base CX0 (k + 1) f fd ["_law_row_so", "_law_tag"] (spCase K) := by
  refine F.ok scCase (fun vs H Q E h => ?_) (fun cdv A outer s H vs Q E hr h => ?_)
  · obtain ⟨a, ss, t, rfl, _⟩ := h
    rfl
  · obtain ⟨a, ss, t, rfl, hS, h0, h9, hok, q⟩ := h
    refine ⟨_, pss_cons (ps_asg (pe_tup (pa_cons (pe_lst pa_nil) (pa_cons (pe_lst pa_nil) (pa_cons (pe_lst pa_nil) (pa_cons (pe_lst pa_nil) pa_nil))))) (pg_tup rfl (pgs_cons (pg_name (i := 2) scCase.nd rfl (.inl rfl)) (pgs_cons (pg_name (i := 3) scCase.nd rfl (.inl rfl)) (pgs_cons (pg_name (i := 4) scCase.nd rfl (.inl rfl)) (pgs_cons (pg_name (i := 5) scCase.nd rfl (.inl rfl)) pgs_nil))))))
      (pss_cons (ps_for PassesOwn.never rfl (pi_enumT (by rfl) me (pa_cons (pv 0) pa_nil)) (pg_tup rfl (pgs_cons (pg_name (i := 6) scCase.nd rfl (.inl rfl)) (pgs_cons (pg_name (i := 7) scCase.nd rfl (.inl rfl)) pgs_nil)))
        (C8.pss_cut (ps_if (pt_cmpR op_eq (pv 7) (pv 1) (nomark _))
            (pss_cons (ps_expr (pe_bm PySem.F.plainAttrs_list PySem.F.slot_list_append PySem.F.type_list_append mt_append (pv 3) (pa_cons (pv 6) pa_nil)))
            (C8.pss_cut (ps_if (pt_cmpR op_lt (pe_op op_add (pv 6) pe_int) (pe_callB call_len_seq (by rfl) T.le PySem.boot_len (pa_cons (pv 0) pa_nil)) (nomark _)) (pss_one (ps_expr (pe_bm PySem.F.plainAttrs_list PySem.F.slot_list_append PySem.F.type_list_append mt_append (pv 4) (pa_cons (pe_ix ix_tup (pv 0) (pe_op op_add (pv 6) pe_int) (fun _ _ => rfl)) pa_nil)))) pss_nil)
            (pss_one (ps_if (pt_cmpR op_gt (pv 6) pe_int (nomark _)) (pss_one (ps_expr (pe_bm PySem.F.plainAttrs_list PySem.F.slot_list_append PySem.F.type_list_append mt_append (pv 5) (pa_cons (pe_ix ix_tup (pv 0) (pe_op op_sub (pv 6) pe_int) (fun _ _ => rfl)) pa_nil)))) pss_nil)))) pss_nil)
        (pss_one (ps_if (pt_cmpR op_gt (pv 6) pe_int (nomark _)) (pss_one (ps_expr (pe_bm PySem.F.plainAttrs_list PySem.F.slot_list_append PySem.F.type_list_append mt_append (pv 2) (pa_cons (pe_tup (pa_cons (pe_ix ix_tup (pv 0) (pe_op op_sub (pv 6) pe_int) (fun _ _ => rfl)) (pa_cons (pv 7) pa_nil))) pa_nil)))) pss_nil))))
      (pss_cons (ps_set (i := 8) scCase.nd rfl (.inl rfl) (pe_lst (pa_cons (pe_callTy call_tuple_of (by rfl) T.tu (by decide +kernel) (pa_cons (pv 2) pa_nil)) (pa_cons (pe_callTy call_tuple_of (by rfl) T.tu (by decide +kernel) (pa_cons (pv 3) pa_nil)) (pa_cons (pe_callTy call_tuple_of (by rfl) T.tu (by decide +kernel) (pa_cons (pv 4) pa_nil)) (pa_cons (pe_callTy call_tuple_of (by rfl) T.tu (by decide +kernel) (pa_cons (pv 5) pa_nil)) pa_nil))))))
      (pss_cons (ps_set (i := 9) scCase.nd rfl (.inl rfl) (pe_callTy call_list_of (by rfl) T.li (by decide +kernel) (pa_cons (pv 0) pa_nil)))
      (pss_cons (ps_set (i := 10) scCase.nd rfl (.inl rfl) (pe_lst (pa_cons (pe_call G.S hr (by rfl) G.mS G.kS G.bS .nil pass0 (pa_cons (pv 0) pa_nil)) (pa_cons (pe_call G.V hr (by rfl) G.mV G.kV G.bV .nil pass0 (pa_cons (pv 0) (pa_cons (pv 1) pa_nil))) (pa_cons (pe_call G.X hr (by rfl) G.mX G.kX G.bX .nil pass0 (pa_cons (pv 0) (pa_cons (pv 1) pa_nil))) (pa_cons (pe_call G.N hr (by rfl) G.mN G.kN G.bN .nil pass0 (pa_cons (pv 0) (pa_cons (pv 1) pa_nil))) pa_nil))))))
      (pss_cons (ps_if (PW.pt (pw_or (pt_not (pt_val (pe_call M hr (by rfl) mM kM bM .nil pass0 (pa_cons (pv 10) (pa_cons (pv 8) pa_nil)))))
          (pw_or1 (pt_not (pt_val (pe_call M hr (by rfl) mM kM bM .nil pass0 (pa_cons (pe_lst (pa_cons (pe_call G.T hr (by rfl) G.mT G.kT G.bT .nil pass0 (pa_cons (pv 0) pa_nil)) (pa_cons (pe_call G.T hr (by rfl) G.mT G.kT G.bT .nil pass0 (pa_cons (pv 9) pa_nil)) pa_nil)))
            (pa_cons (pe_op op_rep (pe_lst (pa_cons (pe_back (pv 0) (pe_un un_neg pe_int)) pa_nil)) pe_int) pa_nil))))))))
        (pss_one (ps_ret pe_bl)) pss_nil)
      (pss_cons (ps_set (i := 10) scCase.nd rfl (.inl rfl) (pe_lst (pa_cons (pe_callK0 G.S hr (by rfl) G.mS G.kS G.cS pass0 (pk_cons (pv 9) pk_nil)) (pa_cons (pe_callK0 G.V hr (by rfl) G.mV G.kV G.cV pass0 (pk_cons (pv 1) (pk_cons (pv 9) pk_nil))) (pa_cons (pe_callK0 G.X hr (by rfl) G.mX G.kX G.cX pass0 (pk_cons (pv 1) (pk_cons (pv 9) pk_nil))) pa_nil)))))
      (pss_cons (ps_expr (pe_bm PySem.F.plainAttrs_list PySem.F.slot_list_append PySem.F.type_list_append mt_append (pv 10) (pa_cons (pe_callK0 G.N hr (by rfl) G.mN G.kN G.cN pass0 (pk_cons (pv 1) (pk_cons (pv 9) pk_nil))) pa_nil)))
      (pss_one (ps_ret (pe_and (pe_call M hr (by rfl) mM kM bM .nil pass0 (pa_cons (pv 10) (pa_cons (pv 8) pa_nil))) (pe_one (pe_cmpR (op_eqD hr.units) (pv 9) (pe_callTy call_list_of (by rfl) T.li (by decide +kernel) (pa_cons (pv 0) pa_nil)) (nomark _))))))))))))), ?_⟩
    refine ⟨Nat.zero_le _, fun l1 n1 => ⟨Nat.zero_le _, fun l2 n2 => ⟨Nat.zero_le _, fun l3 n3 => ⟨Nat.zero_le _, fun l4 n4 => ⟨(by show 4 ≤ sizeLine; decide), fun T0 nT0 => ?_⟩⟩⟩⟩⟩
    have F4 : Four H l1 l2 l3 l4 := ⟨n1, (same_upd n1).free n2, ((same_upd n1).trans (same_upd n2)).free n3, (((same_upd n1).trans (same_upd n2)).trans (same_upd n3)).free n4,
      ne_of_none upd_same n2, ne_of_none (same_upd n2 _ _ upd_same) n3, ne_of_none (same_upd n3 _ _ (same_upd n2 _ _ upd_same)) n4, ne_of_none upd_same n3, ne_of_none (same_upd n3 _ _ upd_same) n4, ne_of_none upd_same n4⟩
    have c0 : CC H ss t l1 l2 l3 l4 [] 0 0 0 (upd (upd (upd (upd (upd H l1 (.lst [])) l2 (.lst [])) l3 (.lst [])) l4 (.lst [])) T0 (.tup [.ref l1, .ref l2, .ref l3, .ref l4])) :=
      ⟨((((same_upd n1).trans (same_upd n2)).trans (same_upd n3)).trans (same_upd n4)).trans (same_upd nT0), same_upd nT0 _ _ (same_upd n4 _ _ (same_upd n3 _ _ (same_upd n2 _ _ upd_same))), fun j b x y e => (by cases e),
        same_upd nT0 _ _ (same_upd n4 _ _ (same_upd n3 _ _ upd_same)), same_upd nT0 _ _ (same_upd n4 _ _ upd_same), same_upd nT0 _ _ upd_same⟩
    refine ⟨T0, _, rfl, SqT.of upd_same, rfl, _, _, rfl, _, _, rfl, _, _, rfl, _, _, rfl, rfl, ?_⟩
    generalize upd (upd (upd (upd (upd H l1 (.lst [])) l2 (.lst [])) l3 (.lst [])) l4 (.lst [])) T0 (.tup [.ref l1, .ref l2, .ref l3, .ref l4]) = H1 at c0
    have small : ∀ (l : List V), l.length ≤ 1000 → l.length < sizeLine := fun l hl => small1000 hl
    refine ⟨.ref a, rfl, a, ss.map V.str, rfl, .inl ⟨sqT_same c0.sm hS, for_it (walk_enumT (K := K) (a := a) (xs := ss.map V.str))
      (fun i σ H' => ∃ (y6 y7 y8 y9 y10 : Option V) (as : List Addr), σ = [some (.ref a), some (.str t), some (.ref l1), some (.ref l2), some (.ref l3), some (.ref l4), y6, y7, y8, y9, y10] ∧ as.length = i - 1 ∧ CC H ss t l1 l2 l3 l4 as i i (i - 1) H')
      ⟨none, none, none, none, none, [], rfl, rfl, c0⟩ (fun i σ H' _ z => by
        obtain ⟨_, _, _, _, _, _, _, _, c⟩ := z
        exact sqT_same c.sm hS) ?_ ?_⟩⟩
    · rintro i v σ H2 H3 hi ⟨y6, y7, y8, y9, y10, as, rfl, la, c⟩ ⟨T, x', y', rfl, nT, rfl, hx', hy'⟩
      cases hx'
      replace hy' : (ss.map V.str)[i]? = some y' := hy'
      rw [List.length_map] at hi
      have hx : ss[i]? = some ss[i] := List.getElem?_eq_getElem hi
      have ey : y' = .str ss[i] := by
        rw [List.getElem?_map, hx] at hy'
        exact (Option.some.inj hy').symm
      subst ey
      generalize ss[i] = x at hx
      have c1 := c.new (T := T) (o := .tup [.int (i : Nat), .str x]) nT
      refine ⟨T, [.int (i : Nat), .str x], rfl, SqT.of upd_same, rfl, _, _, rfl, _, _, rfl, rfl, ?_⟩
      generalize upd H2 T (.tup [.int (i : Nat), .str x]) = H3 at c1
      have lv := viL_len t 0 (ss.take i)
      have le := exL_len t ((prs ss).take i)
      have ln := enL_len t ((prs ss).take (i - 1))
      have lp := prs_len ss
      rw [List.length_take] at lv le ln
      have sv : viL t 0 (ss.take (i + 1)) = viL t 0 (ss.take i) ++ if x = t then [(i : Int)] else [] := by
        rw [take_snoc hx, viL_snoc, List.length_take, Nat.min_eq_left (Nat.le_of_lt hi), Nat.zero_add]
      have hat : ∀ (j : Nat) (z : Str), ss[j]? = some z → atI (ss.map V.str) (j : Int) = some (.str z) := fun j z e => atI_nat (by rw [List.getElem?_map, e]; rfl)
      refine ⟨fun σ' H' => σ' = [some (.ref a), some (.str t), some (.ref l1), some (.ref l2), some (.ref l3), some (.ref l4), some (.int (i : Nat)), some (.str x), y8, y9, y10] ∧ CC H ss t l1 l2 l3 l4 as (i + 1) (i + 1) i H', ?_, ?_⟩
      · refine ⟨.str x, rfl, .str t, rfl, rfl, _, rfl, ?_⟩
        refine ite2 (fun cx => ?_) (fun cx => ?_)
        · have ext : x = t := V.str.inj (of_decide_eq_true cx)
          rw [if_pos ext] at sv
          refine ⟨.ref l2, rfl, .inl ⟨rfl, _, SqL.of c1.e2⟩, .int (i : Nat), rfl, l2, _, _, rfl, rfl, c1.e2, small _ (by rw [List.length_map]; omega), ?_⟩
          have c2 := c1.up2 F4 sv
          refine ⟨fun σ' H' => σ' = [some (.ref a), some (.str t), some (.ref l1), some (.ref l2), some (.ref l3), some (.ref l4), some (.int (i : Nat)), some (.str x), y8, y9, y10] ∧ CC H ss t l1 l2 l3 l4 as (i + 1) (i + 1) (i - 1) H', ?_, ?_⟩
          · refine ⟨.int (i : Nat), rfl, _, _, rfl, rfl, .ref a, rfl, a, _, rfl, .inr (sqT_same c2.sm hS), _, _, rfl, rfl, _, rfl, ?_⟩
            refine ite2 (fun cl => ?_) (fun cl => ?_)
            · have hl : i + 1 < ss.length := by
                have z := of_decide_eq_true cl
                rw [List.length_map] at z
                omega
              have hz : ss[i + 1]? = some ss[i + 1] := List.getElem?_eq_getElem hl
              have ee : exL t ((prs ss).take (i + 1)) = exL t ((prs ss).take i) ++ [ss[i + 1]] := by
                rw [take_snoc (prs_get hx hz), exL_snoc, if_pos ext]
              exact ⟨.ref l3, rfl, .inl ⟨rfl, _, SqL.of c2.e3⟩, .ref a, rfl, .int (i : Nat), rfl, _, _, rfl, rfl, a, _, _, _, rfl, rfl, sqT_same c2.sm hS, hat (i + 1) _ hz, l3, _, _, rfl, rfl, c2.e3, small _ (by rw [List.length_map]; omega), rfl, c2.up3 F4 ee⟩
            · have hl : ss.length ≤ i + 1 := by
                refine Classical.byContradiction fun z => cl (decide_eq_true ?_)
                rw [List.length_map]
                omega
              have et : (prs ss).take (i + 1) = (prs ss).take i := by rw [List.take_of_length_le (by omega), List.take_of_length_le (by omega)]
              exact ⟨rfl, c2.sm, c2.e1, c2.pa, c2.e2, by rw [et]; exact c2.e3, c2.e4⟩
          · rintro σ' H5 ⟨rfl, c5⟩
            refine ⟨.int (i : Nat), rfl, _, _, rfl, rfl, _, rfl, ?_⟩
            refine ite2 (fun cg => ?_) (fun cg => ?_)
            · have hg : (0 : Int) < i := of_decide_eq_true cg
              obtain ⟨j, rfl⟩ : ∃ j, i = j + 1 := ⟨i - 1, by omega⟩
              have hj : j < ss.length := by omega
              have hz : ss[j]? = some ss[j] := List.getElem?_eq_getElem hj
              have ee : enL t ((prs ss).take (j + 1)) = enL t ((prs ss).take j) ++ [ss[j]] := by
                rw [take_snoc (prs_get hz hx), enL_snoc, if_pos ext]
              have hatj : atI (ss.map V.str) (((j + 1 : Nat) : Int) - 1) = some (.str ss[j]) := by
                rw [show (((j + 1 : Nat) : Int) - 1) = ((j : Nat) : Int) by omega]
                exact hat j _ hz
              exact ⟨.ref l4, rfl, .inl ⟨rfl, _, SqL.of c5.e4⟩, .ref a, rfl, .int ((j + 1 : Nat) : Int), rfl, _, _, rfl, rfl, a, _, _, _, rfl, rfl, sqT_same c5.sm hS, hatj, l4, _, _, rfl, rfl, c5.e4, small _ (by rw [List.length_map]; omega), rfl, c5.up4 F4 ee⟩
            · have hg : i = 0 := by
                refine Classical.byContradiction fun z => cg (decide_eq_true ?_)
                omega
              subst hg
              exact ⟨rfl, c5⟩
        · have ext : ¬ x = t := fun z => cx (decide_eq_true (congrArg V.str z))
          rw [if_neg ext, List.append_nil] at sv
          refine ⟨rfl, c1.sm, c1.e1, c1.pa, by rw [sv]; exact c1.e2, ?_, ?_⟩
          · by_cases hl : i + 1 < ss.length
            · have hz : ss[i + 1]? = some ss[i + 1] := List.getElem?_eq_getElem hl
              rw [take_snoc (prs_get hx hz), exL_snoc, if_neg ext, List.append_nil]
              exact c1.e3
            · have et : (prs ss).take (i + 1) = (prs ss).take i := by rw [List.take_of_length_le (by omega), List.take_of_length_le (by omega)]
              rw [et]
              exact c1.e3
          · by_cases hg : i = 0
            · subst hg
              exact c1.e4
            · obtain ⟨j, rfl⟩ : ∃ j, i = j + 1 := ⟨i - 1, by omega⟩
              have hj : j < ss.length := by omega
              have hz : ss[j]? = some ss[j] := List.getElem?_eq_getElem hj
              rw [take_snoc (prs_get hz hx), enL_snoc, if_neg ext, List.append_nil]
              exact c1.e4
      · rintro σ' H5 ⟨rfl, c5⟩
        refine ⟨.int (i : Nat), rfl, _, _, rfl, rfl, _, rfl, ?_⟩
        refine ite2 (fun cg => ?_) (fun cg => ?_)
        · have hg : (0 : Int) < i := of_decide_eq_true cg
          obtain ⟨j, rfl⟩ : ∃ j, i = j + 1 := ⟨i - 1, by omega⟩
          have hj : j < ss.length := by omega
          have hz : ss[j]? = some ss[j] := List.getElem?_eq_getElem hj
          have hatj : atI (ss.map V.str) (((j + 1 : Nat) : Int) - 1) = some (.str ss[j]) := by
            rw [show (((j + 1 : Nat) : Int) - 1) = ((j : Nat) : Int) by omega]
            exact hat j _ hz
          refine ⟨.ref l1, rfl, .inl ⟨rfl, _, SqL.of c5.e1⟩, .ref a, rfl, .int ((j + 1 : Nat) : Int), rfl, _, _, rfl, rfl, a, _, _, _, rfl, rfl, sqT_same c5.sm hS, hatj, .str x, rfl, (by show 2 ≤ sizeLine; decide), fun T2 nT2 => ?_⟩
          have c6 := c5.new (o := .tup [.str ss[j], .str x]) nT2
          have laj : as.length = j := la
          exact ⟨l1, _, _, rfl, rfl, c6.e1, small _ (by rw [List.length_map]; omega), _, _, _, _, _, as ++ [T2], rfl, (by rw [List.length_append, laj]; rfl), c6.up1 F4 upd_same (by rw [laj]; exact prs_get hz hx)⟩
        · have hg : i = 0 := by
            refine Classical.byContradiction fun z => cg (decide_eq_true ?_)
            omega
          subst hg
          exact ⟨_, _, _, _, _, as, rfl, la, c5⟩
    · rintro σ H2 ⟨y6, y7, y8, y9, y10, as, rfl, la, c⟩
      rw [List.length_map] at la c
      have lp := prs_len ss
      have e2 := c.e2
      have e3 := c.e3
      have e4 := c.e4
      rw [List.take_length] at e2
      rw [List.take_of_length_le (by omega)] at e3 e4
      have spa := c.pa
      have e1 := c.e1
      have sm := c.sm
      -- due
      refine ⟨.ref l1, rfl, l1, _, rfl, .inl ⟨SqL.of e1, fun p1 m1 => ⟨.ref l2, rfl, l2, _, rfl, .inl ⟨SqL.of (same_upd m1 _ _ e2), fun p2 m2 => ⟨.ref l3, rfl, l3, _, rfl, .inl ⟨SqL.of (same_upd m2 _ _ (same_upd m1 _ _ e3)), fun p3 m3 => ⟨.ref l4, rfl, l4, _, rfl, .inl ⟨SqL.of (same_upd m3 _ _ (same_upd m2 _ _ (same_upd m1 _ _ e4))), fun p4 m4 => ⟨(by show 4 ≤ sizeLine; decide), fun du mdu => ?_⟩⟩⟩⟩⟩⟩⟩⟩⟩
      obtain ⟨H3, eH3⟩ : ∃ H3, H3 = upd (upd (upd (upd (upd H2 p1 (.tup (as.map V.ref))) p2 (.tup ((viL t 0 ss).map V.int))) p3 (.tup ((exL t (prs ss)).map V.str))) p4 (.tup ((enL t (prs ss)).map V.str))) du (.lst [.ref p1, .ref p2, .ref p3, .ref p4]) := ⟨_, rfl⟩
      have s3 : Same H2 H3 := by
        rw [eH3]
        exact ((((same_upd m1).trans (same_upd m2)).trans (same_upd m3)).trans (same_upd m4)).trans (same_upd mdu)
      have dd : Dp K H3 (.ref du) (.list (dAll ss t)) := by
        refine .lst (xs := [.ref p1, .ref p2, .ref p3, .ref p4]) (SqL.of (by rw [eH3]; exact upd_same)) (.cons (.tup (xs := as.map V.ref) (SqT.of ?_) (dpP as (prs ss) (by rw [la, lp]) fun j b x y q1 q2 => s3 _ _ (spa j b x y q1 q2))) (.cons (.tup (xs := (viL t 0 ss).map V.int) (SqT.of ?_) (dpI _)) (.cons (.tup (xs := (exL t (prs ss)).map V.str) (SqT.of ?_) (dpS _)) (.cons (.tup (xs := (enL t (prs ss)).map V.str) (SqT.of ?_) (dpS _)) .nil))))
        · rw [eH3]
          exact same_upd mdu _ _ (same_upd m4 _ _ (same_upd m3 _ _ (same_upd m2 _ _ upd_same)))
        · rw [eH3]
          exact same_upd mdu _ _ (same_upd m4 _ _ (same_upd m3 _ _ upd_same))
        · rw [eH3]
          exact same_upd mdu _ _ (same_upd m4 _ _ upd_same)
        · rw [eH3]
          exact same_upd mdu _ _ upd_same
      rw [← eH3]
      have sH3 : Same H H3 := sm.trans s3
      clear eH3 s3
      -- soft
      refine ⟨.ref a, rfl, a, _, rfl, .inr (sqT_same sH3 hS), fun so mso => ?_⟩
      have s4 : Same H3 (upd H3 so (.lst (ss.map V.str))) := same_upd mso
      have eso : (upd H3 so (.lst (ss.map V.str))) so = some (.lst (ss.map V.str)) := upd_same
      generalize upd H3 so (.lst (ss.map V.str)) = H4 at s4 eso
      have sH4 : Same H H4 := sH3.trans s4
      -- got
      have le := exL_len t (prs ss)
      have ln := enL_len t (prs ss)
      have lv := viL_len t 0 ss
      refine ⟨.ref a, rfl, a, ss, rfl, .inl (sqT_same sH4 hS), h0, fun H5 g1 as1 s5 _ x1 y1 z1 => ⟨.ref a, rfl, .str t, rfl, a, ss, t, rfl, .inl (sqT_same (sH4.trans s5) hS), h0, by omega, fun H6 g2 s6 _ x2 => ⟨.ref a, rfl, .str t, rfl, a, ss, t, rfl, .inl (sqT_same ((sH4.trans s5).trans s6) hS), h0, by omega, fun H7 g3 s7 _ x3 =>
        ⟨.ref a, rfl, .str t, rfl, a, ss, t, rfl, .inl (sqT_same (((sH4.trans s5).trans s6).trans s7) hS), h0, by omega, fun H8 g4 s8 _ x4 => ⟨(by show 4 ≤ sizeLine; decide), fun go mgo => ?_⟩⟩⟩⟩⟩
      have s9 : Same H8 (upd H8 go (.lst [.ref g1, .ref g2, .ref g3, .ref g4])) := same_upd mgo
      have dgo : Dp K (upd H8 go (.lst [.ref g1, .ref g2, .ref g3, .ref g4])) (.ref go) (.list (dAll ss t)) :=
        .lst (xs := [.ref g1, .ref g2, .ref g3, .ref g4]) (SqL.of upd_same) (.cons (.tup (xs := as1.map V.ref) (SqT.of (s9 _ _ (s8 _ _ (s7 _ _ (s6 _ _ x1))))) (dpP as1 (prs ss) (by rw [y1, lp]) fun j b x y q1 q2 => s9 _ _ (s8 _ _ (s7 _ _ (s6 _ _ (prs_all z1 j b x y q1 q2))))))
          (.cons (.tup (xs := (viL t 0 ss).map V.int) (SqT.of (s9 _ _ (s8 _ _ (s7 _ _ x2)))) (dpI _)) (.cons (.tup (xs := (exL t (prs ss)).map V.str) (SqT.of (s9 _ _ (s8 _ _ x3))) (dpS _)) (.cons (.tup (xs := (enL t (prs ss)).map V.str) (SqT.of (s9 _ _ x4)) (dpS _)) .nil))))
      have sA : Same H4 (upd H8 go (.lst [.ref g1, .ref g2, .ref g3, .ref g4])) := (((s5.trans s6).trans s7).trans s8).trans s9
      generalize upd H8 go (.lst [.ref g1, .ref g2, .ref g3, .ref g4]) = H9 at dgo sA
      refine ⟨.ref go, rfl, .ref du, rfl, .ref go, .ref du, .list (dAll ss t), rfl, dgo, dp_same (s4.trans sA) dd, okAll ss t h9, fun H10 s10 => ⟨_, rfl, ?_⟩⟩
      refine ite2 (fun z => by cases z) (fun _ => ?_)
      have sH10 : Same H H10 := (sH4.trans sA).trans s10
      have eso10 := s10 _ _ (sA _ _ eso)
      refine ⟨.ref a, rfl, a, ss, rfl, .inl (sqT_same sH10 hS), fun H11 t1 s11 _ w1 => ⟨.ref so, rfl, so, ss, rfl, .inr (SqL.of (s11 _ _ eso10)), fun H12 t2 s12 _ w2 => ⟨(by show 2 ≤ sizeLine; decide), fun L1 mL1 => ?_⟩⟩⟩
      have s13 : Same H12 (upd H12 L1 (.lst [.ref t1, .ref t2])) := same_upd mL1
      have sH13 : Same H (upd H12 L1 (.lst [.ref t1, .ref t2])) := ((sH10.trans s11).trans s12).trans s13
      refine ⟨.ref a, rfl, 1, rfl, rfl, a, ss.map V.str, rfl, .inl ⟨sqT_same sH13 hS, fun pb mb => ⟨(by show 1 ≤ sizeLine; decide), fun L2 mL2 => ⟨L2, 2, _, rfl, rfl, upd_same, by decide, by decide, (by show 2 ≤ sizeLine; decide), fun L3 mL3 => ?_⟩⟩⟩⟩
      have s14 := (same_upd (o := .tup (ss.map V.str).reverse) mb).trans (same_upd (o := .lst [.ref pb]) mL2)
      have s15 := s14.trans (same_upd (o := .lst (List.replicate (Int.toNat 2) [V.ref pb]).flatten) mL3)
      have epb := same_upd (o := .lst (List.replicate (Int.toNat 2) [V.ref pb]).flatten) mL3 _ _ (same_upd (o := .lst [.ref pb]) mL2 _ _ (upd_same (H := upd H12 L1 (.lst [.ref t1, .ref t2])) (o := .tup (ss.map V.str).reverse) (a := pb)))
      have dR : ∀ (HH : Hp) (p : Addr), HH p = some (.tup (ss.reverse.map V.str)) → Dp K HH (.ref p) (.tuple (dS ss.reverse)) := fun HH p e => .tup (SqT.of e) (dpS _)
      have okR : okD 4 (.list [.tuple (dS ss.reverse), .tuple (dS ss.reverse)]) := ⟨by show 2 ≤ 1000; decide, fun d hd => by
        have e : d = .tuple (dS ss.reverse) := by
          rcases List.mem_cons.mp hd with e | hd
          · exact e
          · exact List.mem_singleton.mp hd
        rw [e]
        exact okS 1 _ (by rw [List.length_reverse]; omega)⟩
      refine ⟨.ref L1, .ref L3, .list [.tuple (dS ss.reverse), .tuple (dS ss.reverse)], rfl, .lst (xs := [.ref t1, .ref t2]) (SqL.of (s15 _ _ upd_same)) (.cons (dR _ _ (s15 _ _ (s13 _ _ (s12 _ _ w1)))) (.cons (dR _ _ (s15 _ _ (s13 _ _ w2))) .nil)),
        .lst (xs := [.ref pb, .ref pb]) (SqL.of upd_same) (.cons (dR _ _ (by rw [List.map_reverse]; exact epb)) (.cons (dR _ _ (by rw [List.map_reverse]; exact epb)) .nil)), okR, fun H16 s16 => ⟨_, rfl, ?_⟩⟩
      refine ite2 (fun z => by cases z) (fun _ => ?_)
      have sB : Same H10 H16 := (((s11.trans s12).trans s13).trans s15).trans s16
      have esoB := sB _ _ eso10
      have ddB := dp_same (((s4.trans sA).trans s10).trans sB) dd
      have sHB := sH10.trans sB
      -- the same by names, with a list
      refine ⟨.ref so, rfl, so, ss, rfl, .inr (SqL.of esoB), h0, fun G5 g1 as1 r5 _ x1 y1 z1 => ⟨.str t, rfl, .ref so, rfl, so, ss, t, rfl, .inr (SqL.of (r5 _ _ esoB)), h0, by omega, fun G6 g2 r6 _ x2 => ⟨.str t, rfl, .ref so, rfl, so, ss, t, rfl, .inr (SqL.of (r6 _ _ (r5 _ _ esoB))), h0, by omega, fun G7 g3 r7 _ x3 =>
        ⟨(by show 3 ≤ sizeLine; decide), fun gg mgg => ?_⟩⟩⟩⟩
      have r8 : Same G7 (upd G7 gg (.lst [.ref g1, .ref g2, .ref g3])) := same_upd mgg
      refine ⟨.ref gg, rfl, .inl ⟨rfl, _, SqL.of upd_same⟩, .str t, rfl, .ref so, rfl, so, ss, t, rfl, .inr (SqL.of (r8 _ _ (r7 _ _ (r6 _ _ (r5 _ _ esoB))))), h0, by omega, fun G9 g4 r9 n9 x4 => ⟨gg, _, _, rfl, rfl, r9 _ _ upd_same, small _ (by show 3 ≤ 1000; decide), ?_⟩⟩
      have ngg : ∀ b o, G7 b = some o → b ≠ gg := fun b o e => ne_of_none e mgg
      have up : ∀ b o, G7 b = some o → (upd G9 gg (.lst ([.ref g1, .ref g2, .ref g3] ++ [.ref g4]))) b = some o := fun b o e => by
        rw [upd_ne (ngg b o e)]
        exact r9 _ _ (r8 _ _ e)
      have n4g : g4 ≠ gg := fun z => by
        rw [z, upd_same] at n9
        cases n9
      have dg2 : Dp K (upd G9 gg (.lst ([.ref g1, .ref g2, .ref g3] ++ [.ref g4]))) (.ref gg) (.list (dAll ss t)) :=
        .lst (xs := [.ref g1, .ref g2, .ref g3, .ref g4]) (SqL.of upd_same) (.cons (.tup (xs := as1.map V.ref) (SqT.of (up _ _ (r7 _ _ (r6 _ _ x1)))) (dpP as1 (prs ss) (by rw [y1, lp]) fun j b x y q1 q2 => up _ _ (r7 _ _ (r6 _ _ (prs_all z1 j b x y q1 q2)))))
          (.cons (.tup (xs := (viL t 0 ss).map V.int) (SqT.of (up _ _ (r7 _ _ x2))) (dpI _)) (.cons (.tup (xs := (exL t (prs ss)).map V.str) (SqT.of (up _ _ x3)) (dpS _)) (.cons (.tup (xs := (enL t (prs ss)).map V.str) (SqT.of (by rw [upd_ne n4g]; exact x4)) (dpS _)) .nil))))
      have sC : Same H16 (upd G9 gg (.lst ([.ref g1, .ref g2, .ref g3] ++ [.ref g4]))) := fun b o e => up b o (r7 _ _ (r6 _ _ (r5 _ _ e)))
      generalize upd G9 gg (.lst ([.ref g1, .ref g2, .ref g3] ++ [.ref g4])) = G10 at dg2 sC
      refine ⟨.ref gg, rfl, .ref du, rfl, .ref gg, .ref du, .list (dAll ss t), rfl, dg2, dp_same sC ddB, okAll ss t h9, fun G11 r11 => ⟨_, rfl, ?_⟩⟩
      refine ite2 (fun _ => ?_) (fun z => absurd rfl z)
      have esoE := r11 _ _ (sC _ _ esoB)
      have sHE := (sHB.trans sC).trans r11
      refine ⟨.ref so, rfl, .ref a, rfl, a, _, rfl, .inr (sqT_same sHE hS), fun la2 mla => ?_⟩
      refine ⟨.list (dS ss), .list (dS ss), .lst (SqL.of (same_upd mla _ _ esoE)) (dpS ss), .lst (SqL.of upd_same) (dpS ss), shS ss hok, shS ss hok, ?_⟩
      rw [SeqAt.eqv_refl (.list (dS ss)) (layS ss hok)]
      exact q _ (sHE.trans (same_upd mla))
end
end K01
namespace K01
open PySem PySem.Spec PyProof.Rows L2 CS RZ
section
variable {P : Program} {w : World} {K : PySem.W.Frag} {mg : Str → Option Value} {base : Heap}
/-! ### by hand -/
def rowS : List Str := ["a", "b", "a", "c", "a"]
def spTrue : Sp := fun vs H Q _ => vs = [] ∧ ∀ H' : Hp, Same H H' → Q (.bl true) H'
theorem scHand : FnScope ["_law_row_so", "_law_got"] [] (defScope sHand) := ⟨rfl, rfl, rfl, by decide +kernel, rfl, by decide +kernel, by decide +kernel⟩
theorem ok_hand {f fm : Addr} {fd dm : FuncData} {k : Nat} (F : Fun K "_law_by_hand_right" "_law_by_hand_right" sHand f fd) (G : PrG P w K mg base k) (M : FnOk P w K mg base CX0 k fm dm ["_law_got", "_law_due"] (spSame K 4)) (bM : Binds K dm ["_law_got", "_law_due"] []) (kM : PySem.W.keepIn K (.ref fm) = true) (mM : mg "_law_same" = some (.ref fm)) :
    FnOk P w K mg base CX0 (k + 1) f fd [] spTrue := by
  refine F.ok scHand (fun vs H Q E h => ?_) (fun cdv A outer s H vs Q E hr h => ?_)
  · rw [h.1]
    rfl
  · obtain ⟨rfl, q⟩ := h
    refine ⟨_, pss_cons (ps_set (i := 0) scHand.nd rfl (.inl rfl) (pe_tup (pa_cons pe_str (pa_cons pe_str (pa_cons pe_str (pa_cons pe_str (pa_cons pe_str pa_nil)))))))
      (pss_cons (ps_set (i := 1) scHand.nd rfl (.inl rfl) (pe_lst (pa_cons (pe_call G.X hr (by rfl) G.mX G.kX G.bX .nil pass0 (pa_cons (pv 0) (pa_cons pe_str pa_nil))) (pa_cons (pe_call G.X hr (by rfl) G.mX G.kX G.bX .nil pass0 (pa_cons (pv 0) (pa_cons pe_str pa_nil)))
        (pa_cons (pe_call G.X hr (by rfl) G.mX G.kX G.bX .nil pass0 (pa_cons (pe_tup (pa_cons pe_str pa_nil)) (pa_cons pe_str pa_nil))) (pa_cons (pe_call G.N hr (by rfl) G.mN G.kN G.bN .nil pass0 (pa_cons (pv 0) (pa_cons pe_str pa_nil)))
        (pa_cons (pe_call G.N hr (by rfl) G.mN G.kN G.bN .nil pass0 (pa_cons (pe_tup (pa_cons pe_str (pa_cons pe_str pa_nil))) (pa_cons pe_str pa_nil))) pa_nil)))))))
      (pss_cons (ps_set (i := 1) scHand.nd rfl (.inl rfl) (pe_op op_cat (pv 1) (pe_lst (pa_cons (pe_call G.V hr (by rfl) G.mV G.kV G.bV .nil pass0 (pa_cons (pe_tup (pa_cons pe_str pa_nil)) (pa_cons pe_str pa_nil))) (pa_cons (pe_call G.S hr (by rfl) G.mS G.kS G.bS .nil pass0 (pa_cons (pe_tup (pa_cons pe_str pa_nil)) pa_nil))
        (pa_cons (pe_callK0 G.T hr (by rfl) G.mT G.kT G.cT pass0 (pk_cons (pe_tup (pa_cons pe_str (pa_cons pe_str pa_nil))) pk_nil)) pa_nil))))))
      (pss_one (ps_ret (pe_call M hr (by rfl) mM kM bM .nil pass0 (pa_cons (pv 1) (pa_cons (pe_lst (pa_cons (pe_tup (pa_cons pe_str (pa_cons pe_str pa_nil))) (pa_cons (pe_tup pa_nil) (pa_cons (pe_tup pa_nil) (pa_cons (pe_tup (pa_cons pe_str (pa_cons pe_str pa_nil))) (pa_cons (pe_tup pa_nil) (pa_cons (pe_tup (pa_cons pe_int pa_nil)) (pa_cons (pe_tup pa_nil) (pa_cons (pe_tup (pa_cons pe_str (pa_cons pe_str pa_nil))) pa_nil))))))))) pa_nil))))))), ?_⟩
    have okT : ∀ ss : List Str, ss.length ≤ 1000 → okD 3 (.tuple (dS ss)) := fun ss h => okS 1 ss h
    refine ⟨(by show 5 ≤ sizeLine; decide), fun r nr => ?_⟩
    have er : SqT K (upd H r (.tup (rowS.map V.str))) r (rowS.map V.str) := SqT.of upd_same
    have s0 : Same H (upd H r (.tup (rowS.map V.str))) := same_upd nr
    refine ⟨.ref r, rfl, r, rowS, "a", rfl, .inl er, by decide, by decide, fun H1 p1 s1 _ x1 => ⟨.ref r, rfl, r, rowS, "x", rfl, .inl (sqT_same s1 er), by decide, by decide, fun H2 p2 s2 _ x2 => ⟨(by show 1 ≤ sizeLine; decide), fun u1 m1 => ⟨u1, ["a"], "a", rfl, .inl (SqT.of upd_same), by decide, by decide, fun H3 p3 s3 _ x3 =>
      ⟨.ref r, rfl, r, rowS, "a", rfl, .inl (sqT_same (((s1.trans s2).trans (same_upd m1)).trans s3) er), by decide, by decide, fun H4 p4 s4 _ x4 => ⟨(by show 2 ≤ sizeLine; decide), fun u2 m2 => ⟨u2, ["a", "b"], "a", rfl, .inl (SqT.of upd_same), by decide, by decide, fun H5 p5 s5 _ x5 => ⟨(by show 5 ≤ sizeLine; decide), fun go mgo => ?_⟩⟩⟩⟩⟩⟩⟩⟩
    have t45 := (same_upd (o := .tup [.str "a", .str "b"]) m2).trans s5
    have t25 := ((same_upd (o := .tup [.str "a"]) m1).trans s3).trans (s4.trans t45)
    have k5 := same_upd (o := .lst [.ref p1, .ref p2, .ref p3, .ref p4, .ref p5]) mgo
    have eg : (upd H5 go (.lst [.ref p1, .ref p2, .ref p3, .ref p4, .ref p5])) go = some (.lst [.ref p1, .ref p2, .ref p3, .ref p4, .ref p5]) := upd_same
    have y1 := k5 _ _ (t25 _ _ (s2 _ _ x1))
    have y2 := k5 _ _ (t25 _ _ x2)
    have y3 := k5 _ _ (t45 _ _ (s4 _ _ x3))
    have y4 := k5 _ _ (t45 _ _ x4)
    have y5 := k5 _ _ x5
    have sG : Same H (upd H5 go (.lst [.ref p1, .ref p2, .ref p3, .ref p4, .ref p5])) := s0.trans (s1.trans (s2.trans (t25.trans k5)))
    generalize upd H5 go (.lst [.ref p1, .ref p2, .ref p3, .ref p4, .ref p5]) = H6 at eg y1 y2 y3 y4 y5 sG
    refine ⟨.ref go, rfl, (by show 1 ≤ sizeLine; decide), fun u3 m3 => ⟨u3, ["a"], "a", rfl, .inl (SqT.of upd_same), by decide, by decide, fun H7 p6 s7 _ x6 => ⟨(by show 1 ≤ sizeLine; decide), fun u4 m4 => ⟨u4, ["a"], rfl, .inl (SqT.of upd_same), by decide, fun H8 p7 as7 s8 _ x7 l7 _ =>
      ⟨(by show 2 ≤ sizeLine; decide), fun u5 m5 => ⟨u5, ["a", "b"], rfl, .inl (SqT.of upd_same), fun H9 p8 s9 _ x8 => ⟨(by show 3 ≤ sizeLine; decide), fun g2 mg2 => ?_⟩⟩⟩⟩⟩⟩⟩
    have t67 := (same_upd (o := .tup [.str "a"]) m3).trans s7
    have t78 := (same_upd (o := .tup [.str "a"]) m4).trans s8
    have t89 := (same_upd (o := .tup [.str "a", .str "b"]) m5).trans s9
    have k9 := same_upd (o := .lst [.ref p6, .ref p7, .ref p8]) mg2
    have t69 := t67.trans (t78.trans (t89.trans k9))
    refine ⟨go, g2, _, _, rfl, rfl, t69 _ _ eg, upd_same, (by show 8 ≤ sizeLine; decide), fun g3 mg3 => ?_⟩
    have k10 := same_upd (o := .lst ([.ref p1, .ref p2, .ref p3, .ref p4, .ref p5] ++ [.ref p6, .ref p7, .ref p8])) mg3
    have z1 := k10 _ _ (t69 _ _ y1)
    have z2 := k10 _ _ (t69 _ _ y2)
    have z3 := k10 _ _ (t69 _ _ y3)
    have z4 := k10 _ _ (t69 _ _ y4)
    have z5 := k10 _ _ (t69 _ _ y5)
    have z6 := k10 _ _ (k9 _ _ (t89 _ _ (t78 _ _ x6)))
    have z7 := k10 _ _ (k9 _ _ (t89 _ _ x7))
    have z8 := k10 _ _ (k9 _ _ x8)
    have sK : Same H _ := sG.trans (t69.trans k10)
    have eg3 : (upd (upd H9 g2 (.lst [.ref p6, .ref p7, .ref p8])) g3 (.lst ([.ref p1, .ref p2, .ref p3, .ref p4, .ref p5] ++ [.ref p6, .ref p7, .ref p8]))) g3 = some (.lst [.ref p1, .ref p2, .ref p3, .ref p4, .ref p5, .ref p6, .ref p7, .ref p8]) := upd_same
    generalize upd (upd H9 g2 (.lst [.ref p6, .ref p7, .ref p8])) g3 (.lst ([.ref p1, .ref p2, .ref p3, .ref p4, .ref p5] ++ [.ref p6, .ref p7, .ref p8])) = HG at z1 z2 z3 z4 z5 z6 z7 z8 sK eg3
    rw [show gEx rowS "a" = (["b", "c"] : List Str).map V.str by decide +kernel] at z1
    rw [show gEx rowS "x" = ([] : List Str).map V.str by decide +kernel] at z2
    rw [show gEx ["a"] "a" = ([] : List Str).map V.str by decide +kernel] at z3
    rw [show gEn rowS "a" = (["b", "c"] : List Str).map V.str by decide +kernel] at z4
    rw [show gEn ["a", "b"] "a" = ([] : List Str).map V.str by decide +kernel] at z5
    rw [show gVi ["a"] "a" = ([0] : List Int).map V.int by decide +kernel] at z6
    have ea7 : as7 = [] := List.length_eq_zero_iff.mp (by rw [l7]; rfl)
    rw [ea7] at z7
    have dG : Dp K HG (.ref g3) (.list [.tuple (dS ["b", "c"]), .tuple (dS []), .tuple (dS []), .tuple (dS ["b", "c"]), .tuple (dS []), .tuple (dI [0]), .tuple (dS []), .tuple (dS ["b", "a"])]) :=
      .lst (SqL.of eg3) (.cons (.tup (SqT.of z1) (dpS _)) (.cons (.tup (SqT.of z2) (dpS _)) (.cons (.tup (SqT.of z3) (dpS _)) (.cons (.tup (SqT.of z4) (dpS _)) (.cons (.tup (SqT.of z5) (dpS _)) (.cons (.tup (SqT.of z6) (dpI _)) (.cons (.tup (SqT.of z7) (dpS [])) (.cons (.tup (SqT.of z8) (dpS ["b", "a"])) .nil))))))))
    refine ⟨.ref g3, rfl, (by show 2 ≤ sizeLine; decide), fun q1 w1 => ⟨Nat.zero_le _, fun q2 w2 => ⟨Nat.zero_le _, fun q3 w3 => ⟨(by show 2 ≤ sizeLine; decide), fun q4 w4 => ⟨Nat.zero_le _, fun q5 w5 => ⟨(by show 1 ≤ sizeLine; decide), fun q6 w6 => ⟨Nat.zero_le _, fun q7 w7 => ⟨(by show 2 ≤ sizeLine; decide), fun q8 w8 => ⟨(by show 8 ≤ sizeLine; decide), fun q9 w9 => ?_⟩⟩⟩⟩⟩⟩⟩⟩⟩
    have v9 := same_upd (o := .lst [.ref q1, .ref q2, .ref q3, .ref q4, .ref q5, .ref q6, .ref q7, .ref q8]) w9
    have v8 := (same_upd (o := .tup [.str "b", .str "a"]) w8).trans v9
    have v7 := (same_upd (o := .tup []) w7).trans v8
    have v6 := (same_upd (o := .tup [.int 0]) w6).trans v7
    have v5 := (same_upd (o := .tup []) w5).trans v6
    have v4 := (same_upd (o := .tup [.str "b", .str "c"]) w4).trans v5
    have v3 := (same_upd (o := .tup []) w3).trans v4
    have v2 := (same_upd (o := .tup []) w2).trans v3
    have v1 := (same_upd (o := .tup [.str "b", .str "c"]) w1).trans v2
    refine ⟨.ref g3, .ref q9, _, rfl, dp_same v1 dG, .lst (xs := [.ref q1, .ref q2, .ref q3, .ref q4, .ref q5, .ref q6, .ref q7, .ref q8]) (SqL.of upd_same)
      (.cons (.tup (xs := (["b", "c"] : List Str).map V.str) (SqT.of (v2 _ _ upd_same)) (dpS _)) (.cons (.tup (xs := ([] : List Str).map V.str) (SqT.of (v3 _ _ upd_same)) (dpS _)) (.cons (.tup (xs := ([] : List Str).map V.str) (SqT.of (v4 _ _ upd_same)) (dpS _)) (.cons (.tup (xs := (["b", "c"] : List Str).map V.str) (SqT.of (v5 _ _ upd_same)) (dpS _))
      (.cons (.tup (xs := ([] : List Str).map V.str) (SqT.of (v6 _ _ upd_same)) (dpS _)) (.cons (.tup (xs := ([0] : List Int).map V.int) (SqT.of (v7 _ _ upd_same)) (dpI _)) (.cons (.tup (xs := ([] : List Str).map V.str) (SqT.of (v8 _ _ upd_same)) (dpS _)) (.cons (.tup (xs := (["b", "a"] : List Str).map V.str) (SqT.of (v9 _ _ upd_same)) (dpS _)) .nil)))))))), ?_, fun H' sF => q _ (sK.trans (v1.trans sF))⟩
    refine ⟨by show 8 ≤ 1000; decide, fun d hd => ?_⟩
    have ok3 : okD 3 (.tuple (dI [0])) := okI 1 _ (by decide)
    simp only [List.mem_cons, List.not_mem_nil, or_false] at hd
    rcases hd with rfl | rfl | rfl | rfl | rfl | rfl | rfl | rfl
    · exact okT _ (by decide)
    · exact okT _ (by decide)
    · exact okT _ (by decide)
    · exact okT _ (by decide)
    · exact okT _ (by decide)
    · exact ok3
    · exact okT _ (by decide)
    · exact okT _ (by decide)
end
end K01
namespace K01
open PySem PySem.Spec PyProof.Rows L2 CS RZ
section
variable {P : Program} {w : World} {K : PySem.W.Frag} {mg : Str → Option Value} {base : Heap}
/-! ### right -/
def inl1 : List Str := ["inland"]
def spRight : Sp := fun vs H Q _ => ∃ (b : Addr), vs = [.ref b] ∧ BoxAt H b 0 ∧ ∀ H' : Hp, Keep b H H' → Q (.bl true) H'
abbrev nRight : List Str := ["_law_box_here", "_law_turn", "_law_tags_here", "_law_row_so", "_law_tag"]
theorem scRight : FnScope nRight ["_law_box_here"] (defScope sRight) := ⟨rfl, rfl, rfl, by decide +kernel, rfl, by decide +kernel, by decide +kernel⟩
theorem ok_right {f gk gt gw gc : Addr} {fd dk dt dw dc : FuncData} {k : Nat} (F : Fun K "_law_right" "_law_right" sRight f fd)
    (Gk : FnOk P w K mg base CX0 k gk dk ["_law_box_here", "_law_below"] spTake) (bk : Binds K dk ["_law_box_here", "_law_below"] []) (kk : PySem.W.keepIn K (.ref gk) = true) (mk : mg "_law_take" = some (.ref gk))
    (Gt : FnOk P w K mg base CX0 k gt dt ["_law_box_here", "_law_many_so"] (spTags K)) (bt : Binds K dt ["_law_box_here", "_law_many_so"] []) (kt : PySem.W.keepIn K (.ref gt) = true) (mt : mg "_law_tags" = some (.ref gt))
    (Gw : FnOk P w K mg base CX0 k gw dw ["_law_box_here", "_law_tags_here", "_law_most_so"] (spWalk K)) (bw : Binds K dw ["_law_box_here", "_law_tags_here", "_law_most_so"] []) (kw : PySem.W.keepIn K (.ref gw) = true) (mw : mg "_law_walk" = some (.ref gw))
    (Gc : FnOk P w K mg base CX0 k gc dc ["_law_row_so", "_law_tag"] (spCase K)) (bc : Binds K dc ["_law_row_so", "_law_tag"] []) (kc : PySem.W.keepIn K (.ref gc) = true) (mc : mg "_law_case_right" = some (.ref gc)) (mr : mg "range" = none) (ma : mg "all" = none) :
    FnOk P w K mg base CX0 (k + 1) f fd ["_law_box_here"] spRight := by
  refine F.ok scRight (fun vs H Q E h => ?_) (fun cdv A outer s H vs Q E hr h => ?_)
  · obtain ⟨b, rfl, _⟩ := h
    rfl
  · obtain ⟨b, rfl, hb, q⟩ := h
    refine ⟨_, pss_cons (ps_for PassesOwn.never rfl (pi_range1 (by rfl) mr (pa_cons pe_int pa_nil)) (pg_name (i := 1) scRight.nd rfl (.inl rfl))
        (pss_cons (ps_set (i := 2) scRight.nd rfl (.inl rfl) (pe_call Gt hr (by rfl) mt kt bt .nil pass0 (pa_cons (pv 0) (pa_cons (pe_op op_add pe_int (pe_call Gk hr (by rfl) mk kk bk .nil pass0 (pa_cons (pv 0) (pa_cons pe_int pa_nil)))) pa_nil))))
        (pss_cons (ps_set (i := 3) scRight.nd rfl (.inr rfl) (pe_call Gw hr (by rfl) mw kw bw .nil pass0 (pa_cons (pv 0) (pa_cons (pv 2) (pa_cons pe_int pa_nil)))))
        (pss_one (ps_if (pt_not (pt_val (pe_callB (cr_all rfl) (by rfl) ma (by decide +kernel) (pa_cons (pe_lc (own := [("_law_tag", 4)]) (g := gName 4) (by rfl) scRight.nd (pi_list (pe_op op_cat (pv 2) (pe_lst (pa_cons pe_str pa_nil))))
            (blkOk_by (own := [("_law_tag", 4)]) (N := nRight) (sc := defScope sRight) (by decide +kernel)) (fun _ _ _ _ _ => pg_name (i := 4) scRight.nd rfl (Or.inl rfl) (.inr rfl)) (fun _ _ _ _ _ => pts_nil)
            (fun _ _ _ _ _ => pe_call Gc hr (by rfl) mc kc bc .nil pass0 (pa_cons (pv 3) (pa_cons (pv 4) pa_nil)))) pa_nil))))
          (pss_one (ps_ret pe_bl)) pss_nil)))))
      (pss_one (ps_ret pe_bl)), ?_⟩
    refine ⟨6, rfl, by decide, by decide, for_range (fun i σ H' => ∃ (y1 y2 y3 y4 : Option V), σ = [some (.ref b), y1, y2, y3, y4] ∧ Keep b H H' ∧ BoxAt H' b (2000 * i)) ⟨none, none, none, none, rfl, Keep.refl b H, hb⟩ ?_ ?_⟩
    · rintro i σ H1 hi ⟨y1, y2, y3, y4, rfl, k1, b1⟩
      have hi6 : i < 6 := hi
      refine ⟨.ref b, rfl, .ref b, rfl, b, _, 5, rfl, b1, by omega, by decide, by decide, fun H2 r k2 b2 r0 r1 => ⟨_, _, rfl, rfl, ?_⟩⟩
      refine ⟨b, 2 + r, _, rfl, b2, by omega, by omega, by omega, fun H3 p fs k3 b3 _ npb e3 hl hnd hok => ?_⟩
      refine ⟨.ref b, rfl, .ref p, rfl, b, p, 24, _, fs, rfl, b3, by omega, npb, SqL.of e3, by omega, by omega, hnd, by decide, by decide, fun H4 ro rs k4 b4 _ nrb e4 hpos hle hin => ?_⟩
      have e3' := k4 _ _ npb e3
      have hokr : ∀ z ∈ rs, PyData.strOk z = true := fun z hz => hok z (hin z hz)
      refine ⟨.ref p, rfl, (by show 1 ≤ sizeLine; decide), fun L1 mL1 => ⟨p, L1, _, _, rfl, rfl, same_upd mL1 _ _ e3', upd_same, ?_, fun L2 mL2 => ?_⟩⟩
      · rw [List.length_map, List.length_singleton]
        exact Nat.le_of_lt (small1000 (n := fs.length + 1) (by omega))
      have s5 : Same H4 (upd (upd H4 L1 (.lst [.str "inland"])) L2 (.lst (fs.map V.str ++ [.str "inland"]))) := (same_upd mL1).trans (same_upd mL2)
      have e5 : (upd (upd H4 L1 (.lst [.str "inland"])) L2 (.lst (fs.map V.str ++ [.str "inland"]))) L2 = some (.lst ((fs ++ inl1).map V.str)) := by
        rw [upd_same, List.map_append]
        rfl
      generalize upd (upd H4 L1 (.lst [.str "inland"])) L2 (.lst (fs.map V.str ++ [.str "inland"])) = H5 at s5 e5
      have eR : SqT K H5 ro (rs.map V.str) := SqT.of (s5 _ _ e4)
      have hS5 : SqL K H5 L2 ((fs ++ inl1).map V.str) := SqL.of e5
      refine ⟨L2, rfl, ⟨_, hS5⟩, fun D nD => lc_list (K := K) (a := L2) (xs := (fs ++ inl1).map V.str) (fun j H' => Same H5 H' ∧ H' D = some (.lst ((List.replicate j true).map V.bl))) ⟨same_upd nD, upd_same⟩ (fun j H' _ z => z.1.seq hS5) ?_ ?_⟩
      · rintro j x H6 hx ⟨s6, eD⟩
        obtain ⟨z, rfl⟩ : ∃ z, x = V.str z := by
          rw [List.getElem?_map] at hx
          cases e : (fs ++ inl1)[j]? with
          | none =>
            rw [e] at hx
            cases hx
          | some z =>
            rw [e] at hx
            exact ⟨z, (Option.some.inj hx).symm⟩
        have hj : j < fs.length + 1 := by
          have z := (List.getElem?_eq_some_iff.mp hx).1
          rw [List.length_map, List.length_append] at z
          exact z
        refine ⟨rfl, ?_⟩
        unfold tYes
        refine ite2 (fun _ => ?_) (fun z => absurd rfl z)
        refine ⟨.ref ro, rfl, .str z, rfl, ro, rs, z, rfl, sqT_same s6 eR, hpos, by omega, hokr, fun H7 s7 => ?_⟩
        refine ⟨_, s7 _ _ eD, ?_, fun c o e => ?_, ?_⟩
        · rw [List.length_map, List.length_replicate]
          exact small1000 (by omega)
        · rw [upd_ne (ne_of_none e nD)]
          exact s7 _ _ (s6 _ _ e)
        · rw [upd_same, List.replicate_succ', List.map_append]
          rfl
      · rintro H6 ⟨s6, eD⟩
        refine ⟨D, _, rfl, SqL.of eD, ?_⟩
        rw [all_yes]
        refine ⟨_, rfl, ?_⟩
        refine ite2 (fun z => by cases z) (fun _ => ?_)
        have kA : Keep b H H6 := ((((k1.trans k2).trans k3).trans k4).trans (Keep.of_same s5)).trans (Keep.of_same s6)
        exact ⟨_, _, _, _, rfl, kA, ((b4.same s5).same s6).up (by omega)⟩
    · rintro σ H1 ⟨y1, y2, y3, y4, rfl, k1, b1⟩
      exact q H1 k1
/-! ### the law -/
def spLaw (K : PySem.W.Frag) : Sp := fun vs H Q _ => ∃ (a : Addr) (ns : List Int), vs = [.ref a] ∧ SqL K H a (ns.map V.int) ∧ ns.length ≤ 63 ∧ ∀ H', Q (.bl true) H'
abbrev nLaw : List Str := ["_law_script", "_law_cells_here", "_law_k"]
theorem scLaw : FnScope nLaw ["_law_script"] (defScope sLaw) := ⟨rfl, rfl, rfl, by decide +kernel, rfl, by decide +kernel, by decide +kernel⟩
theorem ok_law {f gh gc gr gb : Addr} {fd dh dc dr db : FuncData} {k : Nat} (F : Fun K "law" "law" sLaw f fd)
    (Gh : FnOk P w K mg base CX0 k gh dh [] spTrue) (bh : Binds K dh [] []) (kh : PySem.W.keepIn K (.ref gh) = true) (mh : mg "_law_by_hand_right" = some (.ref gh))
    (Gc : FnOk P w K mg base CX0 k gc dc ["_law_script", "_law_most_so"] (spCells K)) (bc : Binds K dc ["_law_script", "_law_most_so"] []) (kc : PySem.W.keepIn K (.ref gc) = true) (mc : mg "_law_cells" = some (.ref gc))
    (Gr : FnOk P w K mg base CX0 k gr dr ["_law_box_here"] spRight) (br : Binds K dr ["_law_box_here"] []) (kr : PySem.W.keepIn K (.ref gr) = true) (mR : mg "_law_right" = some (.ref gr))
    (Gb : FnOk P w K mg base CX0 k gb db ["_law_script", "_law_k"] (spBox K)) (bb : Binds K db ["_law_script", "_law_k"] []) (kb : PySem.W.keepIn K (.ref gb) = true) (mb : mg "_law_box" = some (.ref gb)) (mr : mg "range" = none) (ma : mg "all" = none) (ml : mg "len" = none) :
    FnOk P w K mg base CX0 (k + 1) f fd ["_law_script"] (spLaw K) := by
  refine F.ok scLaw (fun vs H Q E h => ?_) (fun cdv A outer s H vs Q E hr h => ?_)
  · obtain ⟨a, ns, rfl, _⟩ := h
    rfl
  · obtain ⟨a, ns, rfl, hS, hn, q⟩ := h
    refine ⟨_, pss_cons (ps_if (pt_not (pt_val (pe_call0 Gh hr (by rfl) mh kh bh .nil pass0))) (pss_one (ps_ret pe_bl)) pss_nil)
      (pss_cons (ps_set (i := 1) scLaw.nd rfl (.inr rfl) (pe_call Gc hr (by rfl) mc kc bc .nil pass0 (pa_cons (pv 0) (pa_cons pe_int pa_nil))))
      (pss_one (ps_ret (pe_callB (cr_all rfl) (by rfl) ma (by decide +kernel) (pa_cons (pe_lc (own := [("_law_k", 2)]) (g := gName 2) (by rfl) scLaw.nd (pi_range1 (by rfl) mr (pa_cons (pe_callB call_len_seq (by rfl) ml PySem.boot_len (pa_cons (pv 1) pa_nil)) pa_nil))
        (blkOk_by (own := [("_law_k", 2)]) (N := nLaw) (sc := defScope sLaw) (by decide +kernel)) (fun _ _ _ _ _ => pg_name (i := 2) scLaw.nd rfl (Or.inl rfl) (.inr rfl)) (fun _ _ _ _ _ => pts_nil)
        (fun _ _ _ _ _ => pe_call Gr hr (by rfl) mR kr br .nil pass0 (pa_cons (pe_call Gb hr (by rfl) mb kb bb .nil pass0 (pa_cons (pv 1) (pa_cons (pv 2) pa_nil))) pa_nil))) pa_nil))))), ?_⟩
    refine ⟨rfl, fun H1 s1 => ⟨_, rfl, ?_⟩⟩
    refine ite2 (fun z => by cases z) (fun _ => ?_)
    refine ⟨.ref a, rfl, a, ns, rfl, s1.seq hS, hn, fun H2 p ms s2 _ e2 m1 m3 => ?_⟩
    refine ⟨.ref p, rfl, p, _, rfl, .inl (SqL.of e2), _, rfl, (by rw [List.length_map]; omega), (by rw [List.length_map]; omega), fun D nD => lc_range (fun i H' => H' p = some (.lst (ms.map V.int)) ∧ H' D = some (.lst ((List.replicate i true).map V.bl))) ⟨?_, upd_same⟩ ?_ ?_⟩
    · rw [upd_ne (ne_of_none e2 nD)]
      exact e2
    · rintro i H3 hi ⟨e3, eD⟩
      rw [List.length_map] at hi
      have hi' : i < ms.length := by omega
      have npD : p ≠ D := ne_of_none e2 nD
      refine ⟨rfl, ?_⟩
      unfold tYes
      refine ite2 (fun _ => ?_) (fun z => absurd rfl z)
      refine ⟨.ref p, rfl, .int (0 + (i : Nat)), rfl, p, ms, i, (by rw [Int.zero_add]; rfl), SqL.of e3, hi', by omega, fun H4 b s4 nb b4 => ?_⟩
      have npb : p ≠ b := ne_of_none e3 nb
      have nDb : D ≠ b := ne_of_none eD nb
      refine ⟨b, rfl, b4, fun H5 k5 => ?_⟩
      refine ⟨_, k5 _ _ nDb (s4 _ _ eD), ?_, ?_, ?_⟩
      · rw [List.length_map, List.length_replicate]
        exact small1000 (by omega)
      · rw [upd_ne npD]
        exact k5 _ _ npb (s4 _ _ e3)
      · rw [upd_same, List.replicate_succ', List.map_append]
        rfl
    · rintro H3 ⟨e3, eD⟩
      refine ⟨D, _, rfl, SqL.of eD, ?_⟩
      rw [all_yes]
      exact q H3
end
end K01
namespace K01
open PySem PySem.Spec PyProof.Rows L2 CS RZ
theorem fn_up {P : Program} {w : World} {K : PySem.W.Frag} {mg : Str → Option Value} {base : Heap} {CX : CXT} {j k : Nat} {f : Addr} {fd : FuncData} {ps : List Str} {sp : Sp} (F : FnOk P w K mg base CX j f fd ps sp) (h : j ≤ k) : FnOk P w K mg base CX k f fd ps sp :=
  ⟨F.len, fun A outer s H args us vs Q E hr e0 hb r q => F.run A outer s H args us vs Q E (hr.mono h) e0 hb r q⟩
theorem all_mk {l : PySem.W.OpenLaw} {w : World} {K : PySem.W.Frag} {h : Heap} {mg : Str → Option Value} {fa f1 f2 f3 f4 f5 f6 f7 f8 f9 f10 f11 f12 f13 f14 f15 f16 f17 : Addr} (X : K.In h) (G : h.Ns mainGlobals mg) (hfa : mg "law" = some (.ref fa))
    {od1 an1 od2 an2 od3 an3 od4 an4 od5 an5 od6 an6 od7 an7 od8 an8 od9 an9 od10 an10 od11 an11 od12 an12 od13 an13 od14 an14 od15 an15 od16 an16 od17 an17 : Option Addr} {sl1 sl2 sl3 sl4 sl5 sl6 sl7 sl8 sl9 sl10 sl11 sl12 sl13 sl14 sl15 sl16 sl17 : Array (Option Value)} {oc1 kV1 dc1 pm1 cd1 ct1 oc2 kV2 dc2 pm2 cd2 ct2 oc3 kV3 dc3 pm3 cd3 ct3 oc4 kV4 dc4 pm4 cd4 ct4 oc5 kV5 dc5 pm5 cd5 ct5 oc6 kV6 dc6 pm6 cd6 ct6 oc7 kV7 dc7 pm7 cd7 ct7 oc8 kV8 dc8 pm8 cd8 ct8 oc9 kV9 dc9 pm9 cd9 ct9 oc10 kV10 dc10 pm10 cd10 ct10 oc11 kV11 dc11 pm11 cd11 ct11 oc12 kV12 dc12 pm12 cd12 ct12 oc13 kV13 dc13 pm13 cd13 ct13 oc14 kV14 dc14 pm14 cd14 ct14 oc15 kV15 dc15 pm15 cd15 ct15 oc16 kV16 dc16 pm16 cd16 ct16 oc17 kV17 dc17 pm17 cd17 ct17 : Value}
    (a1 : PySem.W.nsIn K mainGlobals "steps_of" = some (some (.ref f1))) (l1 : K.lookup f1 = some ⟨oc1, od1, .func (PySem.W.fnOf "steps_of" "steps_of" (defArgs sSteps) (defBody sSteps) (defScope sSteps) .none kV1 dc1 pm1 an1 cd1 ct1), sl1⟩) (c1 : PySem.W.codeIn K cd1 "steps_of" = true) (k1 : PySem.W.keepIn K (.ref f1) = true)
    (a2 : PySem.W.nsIn K mainGlobals "visits" = some (some (.ref f2))) (l2 : K.lookup f2 = some ⟨oc2, od2, .func (PySem.W.fnOf "visits" "visits" (defArgs sVisits) (defBody sVisits) (defScope sVisits) .none kV2 dc2 pm2 an2 cd2 ct2), sl2⟩) (c2 : PySem.W.codeIn K cd2 "visits" = true) (k2 : PySem.W.keepIn K (.ref f2) = true)
    (a3 : PySem.W.nsIn K mainGlobals "exits" = some (some (.ref f3))) (l3 : K.lookup f3 = some ⟨oc3, od3, .func (PySem.W.fnOf "exits" "exits" (defArgs sExits) (defBody sExits) (defScope sExits) .none kV3 dc3 pm3 an3 cd3 ct3), sl3⟩) (c3 : PySem.W.codeIn K cd3 "exits" = true) (k3 : PySem.W.keepIn K (.ref f3) = true)
    (a4 : PySem.W.nsIn K mainGlobals "entries" = some (some (.ref f4))) (l4 : K.lookup f4 = some ⟨oc4, od4, .func (PySem.W.fnOf "entries" "entries" (defArgs sEntries) (defBody sEntries) (defScope sEntries) .none kV4 dc4 pm4 an4 cd4 ct4), sl4⟩) (c4 : PySem.W.codeIn K cd4 "entries" = true) (k4 : PySem.W.keepIn K (.ref f4) = true)
    (a5 : PySem.W.nsIn K mainGlobals "turned" = some (some (.ref f5))) (l5 : K.lookup f5 = some ⟨oc5, od5, .func (PySem.W.fnOf "turned" "turned" (defArgs sTurned) (defBody sTurned) (defScope sTurned) .none kV5 dc5 pm5 an5 cd5 ct5), sl5⟩) (c5 : PySem.W.codeIn K cd5 "turned" = true) (k5 : PySem.W.keepIn K (.ref f5) = true)
    (a6 : PySem.W.nsIn K mainGlobals "_law_box" = some (some (.ref f6))) (l6 : K.lookup f6 = some ⟨oc6, od6, .func (PySem.W.fnOf "_law_box" "_law_box" (defArgs sBox) (defBody sBox) (defScope sBox) .none kV6 dc6 pm6 an6 cd6 ct6), sl6⟩) (c6 : PySem.W.codeIn K cd6 "_law_box" = true) (k6 : PySem.W.keepIn K (.ref f6) = true)
    (a7 : PySem.W.nsIn K mainGlobals "_law_take" = some (some (.ref f7))) (l7 : K.lookup f7 = some ⟨oc7, od7, .func (PySem.W.fnOf "_law_take" "_law_take" (defArgs sTake) (defBody sTake) (defScope sTake) .none kV7 dc7 pm7 an7 cd7 ct7), sl7⟩) (c7 : PySem.W.codeIn K cd7 "_law_take" = true) (k7 : PySem.W.keepIn K (.ref f7) = true)
    (a8 : PySem.W.nsIn K mainGlobals "_law_cells" = some (some (.ref f8))) (l8 : K.lookup f8 = some ⟨oc8, od8, .func (PySem.W.fnOf "_law_cells" "_law_cells" (defArgs sCells) (defBody sCells) (defScope sCells) .none kV8 dc8 pm8 an8 cd8 ct8), sl8⟩) (c8 : PySem.W.codeIn K cd8 "_law_cells" = true) (k8 : PySem.W.keepIn K (.ref f8) = true)
    (a9 : PySem.W.nsIn K mainGlobals "_law_of" = some (some (.ref f9))) (l9 : K.lookup f9 = some ⟨oc9, od9, .func (PySem.W.fnOf "_law_of" "_law_of" (defArgs sOf) (defBody sOf) (defScope sOf) .none kV9 dc9 pm9 an9 cd9 ct9), sl9⟩) (c9 : PySem.W.codeIn K cd9 "_law_of" = true) (k9 : PySem.W.keepIn K (.ref f9) = true)
    (a10 : PySem.W.nsIn K mainGlobals "_law_pick" = some (some (.ref f10))) (l10 : K.lookup f10 = some ⟨oc10, od10, .func (PySem.W.fnOf "_law_pick" "_law_pick" (defArgs sPick) (defBody sPick) (defScope sPick) .none kV10 dc10 pm10 an10 cd10 ct10), sl10⟩) (c10 : PySem.W.codeIn K cd10 "_law_pick" = true) (k10 : PySem.W.keepIn K (.ref f10) = true)
    (a11 : PySem.W.nsIn K mainGlobals "_law_same" = some (some (.ref f11))) (l11 : K.lookup f11 = some ⟨oc11, od11, .func (PySem.W.fnOf "_law_same" "_law_same" (defArgs sSame) (defBody sSame) (defScope sSame) .none kV11 dc11 pm11 an11 cd11 ct11), sl11⟩) (c11 : PySem.W.codeIn K cd11 "_law_same" = true) (k11 : PySem.W.keepIn K (.ref f11) = true)
    (a12 : PySem.W.nsIn K mainGlobals "_law_tags" = some (some (.ref f12))) (l12 : K.lookup f12 = some ⟨oc12, od12, .func (PySem.W.fnOf "_law_tags" "_law_tags" (defArgs sTags) (defBody sTags) (defScope sTags) .none kV12 dc12 pm12 an12 cd12 ct12), sl12⟩) (c12 : PySem.W.codeIn K cd12 "_law_tags" = true) (k12 : PySem.W.keepIn K (.ref f12) = true)
    (a13 : PySem.W.nsIn K mainGlobals "_law_walk" = some (some (.ref f13))) (l13 : K.lookup f13 = some ⟨oc13, od13, .func (PySem.W.fnOf "_law_walk" "_law_walk" (defArgs sWalk) (defBody sWalk) (defScope sWalk) .none kV13 dc13 pm13 an13 cd13 ct13), sl13⟩) (c13 : PySem.W.codeIn K cd13 "_law_walk" = true) (k13 : PySem.W.keepIn K (.ref f13) = true)
    (a14 : PySem.W.nsIn K mainGlobals "_law_case_right" = some (some (.ref f14))) (l14 : K.lookup f14 = some ⟨oc14, od14, .func (PySem.W.fnOf "_law_case_right" "_law_case_right" (defArgs sCase) (defBody sCase) (defScope sCase) .none kV14 dc14 pm14 an14 cd14 ct14), sl14⟩) (c14 : PySem.W.codeIn K cd14 "_law_case_right" = true) (k14 : PySem.W.keepIn K (.ref f14) = true)
    (a15 : PySem.W.nsIn K mainGlobals "_law_by_hand_right" = some (some (.ref f15))) (l15 : K.lookup f15 = some ⟨oc15, od15, .func (PySem.W.fnOf "_law_by_hand_right" "_law_by_hand_right" (defArgs sHand) (defBody sHand) (defScope sHand) .none kV15 dc15 pm15 an15 cd15 ct15), sl15⟩) (c15 : PySem.W.codeIn K cd15 "_law_by_hand_right" = true) (k15 : PySem.W.keepIn K (.ref f15) = true)
    (a16 : PySem.W.nsIn K mainGlobals "_law_right" = some (some (.ref f16))) (l16 : K.lookup f16 = some ⟨oc16, od16, .func (PySem.W.fnOf "_law_right" "_law_right" (defArgs sRight) (defBody sRight) (defScope sRight) .none kV16 dc16 pm16 an16 cd16 ct16), sl16⟩) (c16 : PySem.W.codeIn K cd16 "_law_right" = true) (k16 : PySem.W.keepIn K (.ref f16) = true)
    (a17 : PySem.W.nsIn K mainGlobals "law" = some (some (.ref f17))) (l17 : K.lookup f17 = some ⟨oc17, od17, .func (PySem.W.fnOf "law" "law" (defArgs sLaw) (defBody sLaw) (defScope sLaw) .none kV17 dc17 pm17 an17 cd17 ct17), sl17⟩) (c17 : PySem.W.codeIn K cd17 "law" = true) (k17 : PySem.W.keepIn K (.ref f17) = true)
    (z1 : PySem.W.nsIn K mainGlobals "tuple" = some none)
    (z2 : PySem.W.nsIn K mainGlobals "zip" = some none)
    (z3 : PySem.W.nsIn K mainGlobals "enumerate" = some none)
    (z4 : PySem.W.nsIn K mainGlobals "len" = some none)
    (z5 : PySem.W.nsIn K mainGlobals "abs" = some none)
    (z6 : PySem.W.nsIn K mainGlobals "int" = some none)
    (z7 : PySem.W.nsIn K mainGlobals "list" = some none)
    (z8 : PySem.W.nsIn K mainGlobals "range" = some none)
    (z9 : PySem.W.nsIn K mainGlobals "min" = some none)
    (z10 : PySem.W.nsIn K mainGlobals "isinstance" = some none)
    (z11 : PySem.W.nsIn K mainGlobals "all" = some none)
    (z12 : PySem.W.nsIn K mainGlobals "bool" = some none)
    (z13 : PySem.W.nsIn K mainGlobals "str" = some none) :
    ∃ fd : FuncData, (∀ (s : Shared) (v : Value), BindsTo s fd ⟨[v], []⟩ [("_law_script", v)]) ∧ ∀ base : Heap, K.In base → base.Ns mainGlobals mg → FnOk l.prog w K mg base CX0 7 fa fd ["_law_script"] (spLaw K) := by
  have e := hfa.symm.trans (PySem.W.mg_of X G a17)
  cases e
  have F1 := fun_mk (st := sSteps) l1 c1 k1
  have b1 := F1.binds (ps := ["journey"]) fun _ _ _ _ _ _ us hl => match us, hl with | [_], _ => rfl
  have m1 := PySem.W.mg_of X G a1
  have F2 := fun_mk (st := sVisits) l2 c2 k2
  have b2 := F2.binds (ps := ["journey", "place"]) fun _ _ _ _ _ _ us hl => match us, hl with | [_, _], _ => rfl
  have m2 := PySem.W.mg_of X G a2
  have F3 := fun_mk (st := sExits) l3 c3 k3
  have b3 := F3.binds (ps := ["journey", "place"]) fun _ _ _ _ _ _ us hl => match us, hl with | [_, _], _ => rfl
  have m3 := PySem.W.mg_of X G a3
  have F4 := fun_mk (st := sEntries) l4 c4 k4
  have b4 := F4.binds (ps := ["journey", "place"]) fun _ _ _ _ _ _ us hl => match us, hl with | [_, _], _ => rfl
  have m4 := PySem.W.mg_of X G a4
  have F5 := fun_mk (st := sTurned) l5 c5 k5
  have b5 := F5.binds (ps := ["journey"]) fun _ _ _ _ _ _ us hl => match us, hl with | [_], _ => rfl
  have m5 := PySem.W.mg_of X G a5
  have F6 := fun_mk (st := sBox) l6 c6 k6
  have b6 := F6.binds (ps := ["_law_script", "_law_k"]) fun _ _ _ _ _ _ us hl => match us, hl with | [_, _], _ => rfl
  have m6 := PySem.W.mg_of X G a6
  have F7 := fun_mk (st := sTake) l7 c7 k7
  have b7 := F7.binds (ps := ["_law_box_here", "_law_below"]) fun _ _ _ _ _ _ us hl => match us, hl with | [_, _], _ => rfl
  have m7 := PySem.W.mg_of X G a7
  have F8 := fun_mk (st := sCells) l8 c8 k8
  have b8 := F8.binds (ps := ["_law_script", "_law_most_so"]) fun _ _ _ _ _ _ us hl => match us, hl with | [_, _], _ => rfl
  have m8 := PySem.W.mg_of X G a8
  have F9 := fun_mk (st := sOf) l9 c9 k9
  have b9 := F9.binds (ps := ["_law_box_here", "_law_some"]) fun _ _ _ _ _ _ us hl => match us, hl with | [_, _], _ => rfl
  have m9 := PySem.W.mg_of X G a9
  have F10 := fun_mk (st := sPick) l10 c10 k10
  have b10 := F10.binds (ps := ["_law_box_here", "_law_pool_so", "_law_many_so"]) fun _ _ _ _ _ _ us hl => match us, hl with | [_, _, _], _ => rfl
  have m10 := PySem.W.mg_of X G a10
  have F11 := fun_mk (st := sSame) l11 c11 k11
  have b11 := F11.binds (ps := ["_law_got", "_law_due"]) fun _ _ _ _ _ _ us hl => match us, hl with | [_, _], _ => rfl
  have m11 := PySem.W.mg_of X G a11
  have F12 := fun_mk (st := sTags) l12 c12 k12
  have b12 := F12.binds (ps := ["_law_box_here", "_law_many_so"]) fun _ _ _ _ _ _ us hl => match us, hl with | [_, _], _ => rfl
  have m12 := PySem.W.mg_of X G a12
  have F13 := fun_mk (st := sWalk) l13 c13 k13
  have b13 := F13.binds (ps := ["_law_box_here", "_law_tags_here", "_law_most_so"]) fun _ _ _ _ _ _ us hl => match us, hl with | [_, _, _], _ => rfl
  have m13 := PySem.W.mg_of X G a13
  have F14 := fun_mk (st := sCase) l14 c14 k14
  have b14 := F14.binds (ps := ["_law_row_so", "_law_tag"]) fun _ _ _ _ _ _ us hl => match us, hl with | [_, _], _ => rfl
  have m14 := PySem.W.mg_of X G a14
  have F15 := fun_mk (st := sHand) l15 c15 k15
  have b15 := F15.binds (ps := []) fun _ _ _ _ _ _ us hl => match us, hl with | [], _ => rfl
  have m15 := PySem.W.mg_of X G a15
  have F16 := fun_mk (st := sRight) l16 c16 k16
  have b16 := F16.binds (ps := ["_law_box_here"]) fun _ _ _ _ _ _ us hl => match us, hl with | [_], _ => rfl
  have m16 := PySem.W.mg_of X G a16
  have F17 := fun_mk (st := sLaw) l17 c17 k17
  have y1 := PySem.W.mg_none_of X G z1
  have y2 := PySem.W.mg_none_of X G z2
  have y3 := PySem.W.mg_none_of X G z3
  have y4 := PySem.W.mg_none_of X G z4
  have y5 := PySem.W.mg_none_of X G z5
  have y6 := PySem.W.mg_none_of X G z6
  have y7 := PySem.W.mg_none_of X G z7
  have y8 := PySem.W.mg_none_of X G z8
  have y9 := PySem.W.mg_none_of X G z9
  have y10 := PySem.W.mg_none_of X G z10
  have y11 := PySem.W.mg_none_of X G z11
  have y12 := PySem.W.mg_none_of X G z12
  have y13 := PySem.W.mg_none_of X G z13
  have T : SmT mg := ⟨y10, y7, y1, y4, y11, y2, y12, y13, y6⟩
  refine ⟨PySem.W.fnOf "law" "law" (defArgs sLaw) (defBody sLaw) (defScope sLaw) .none kV17 dc17 pm17 an17 cd17 ct17, fun s v => .of_eq rfl, fun base _ _ => ?_⟩
  have gS : FnOk l.prog w K mg base CX0 3 f1 _ ["journey"] (spSteps K) := ok_steps F1 y1 y2
  have gS4 := fn_up gS (show 3 ≤ 4 by decide)
  have gV : FnOk l.prog w K mg base CX0 4 f2 _ ["journey", "place"] (spPl K gVi) := ok_visits F2 y3 y1
  have gX : FnOk l.prog w K mg base CX0 4 f3 _ ["journey", "place"] (spPl K gEx) := ok_exits F3 gS b1 k1 m1 y1
  have gN : FnOk l.prog w K mg base CX0 4 f4 _ ["journey", "place"] (spPl K gEn) := ok_entries F4 gS b1 k1 m1 y1
  have gT : FnOk l.prog w K mg base CX0 4 f5 _ ["journey"] (spTurned K) := ok_turned F5 y1
  have gM1 : FnOk l.prog w K mg base CX0 1 f11 _ ["_law_got", "_law_due"] (spSame K 1) := ok_same F11 same_none b11 m11 T
  have gM2 := ok_same F11 gM1 b11 m11 T
  have gM3 := ok_same F11 gM2 b11 m11 T
  have gM4 := ok_same F11 gM3 b11 m11 T
  have G4 : PrG l.prog w K mg base 4 := ⟨gS4, gV, gX, gN, gT, k1, k2, k3, k4, k5, b1, b2, b3, b4, b5, kb1 F1 (fun _ _ _ _ _ _ _ => rfl), kbVisits F2, kb2 F3 (fun _ _ _ _ _ _ _ _ => rfl), kb2 F4 (fun _ _ _ _ _ _ _ _ => rfl), kbTurned F5, m1, m2, m3, m4, m5⟩
  have gC : FnOk l.prog w K mg base CX0 5 f14 _ ["_law_row_so", "_law_tag"] (spCase K) := ok_case F14 G4 gM4 b11 k11 m11 T y3
  have gH : FnOk l.prog w K mg base CX0 5 f15 _ [] spTrue := ok_hand F15 G4 gM4 b11 k11 m11
  have gK : FnOk l.prog w K mg base CX0 1 f7 _ ["_law_box_here", "_law_below"] spTake := ok_take F7 y6
  have gO : FnOk l.prog w K mg base CX0 2 f9 _ ["_law_box_here", "_law_some"] (spOf K) := ok_of F9 gK b7 k7 m7 y4
  have gP : FnOk l.prog w K mg base CX0 2 f10 _ ["_law_box_here", "_law_pool_so", "_law_many_so"] (spPick K) := ok_pick F10 gK b7 k7 m7 y4 y7 y8 y9
  have gG : FnOk l.prog w K mg base CX0 3 f12 _ ["_law_box_here", "_law_many_so"] (spTags K) := ok_tags F12 gK b7 k7 m7 gP b10 k10 m10
  have gW : FnOk l.prog w K mg base CX0 3 f13 _ ["_law_box_here", "_law_tags_here", "_law_most_so"] (spWalk K) := ok_walk F13 gK b7 k7 m7 gO b9 k9 m9 y8 y4 y1
  have gR : FnOk l.prog w K mg base CX0 6 f16 _ ["_law_box_here"] spRight := ok_right F16 (fn_up gK (show 1 ≤ 5 by decide)) b7 k7 m7 (fn_up gG (show 3 ≤ 5 by decide)) b12 k12 m12 (fn_up gW (show 3 ≤ 5 by decide)) b13 k13 m13 gC b14 k14 m14 y8 y11
  have gE : FnOk l.prog w K mg base CX0 6 f8 _ ["_law_script", "_law_most_so"] (spCells K) := ok_cells F8 y7 y3 y6
  have gB : FnOk l.prog w K mg base CX0 6 f6 _ ["_law_script", "_law_k"] (spBox K) := ok_box F6 y4 y5 y6
  exact ok_law F17 (fn_up gH (show 5 ≤ 6 by decide)) b15 k15 m15 gE b8 k8 m8 gR b16 k16 m16 gB b6 k6 m6 y8 y11 y4
theorem walk {l : PySem.W.OpenLaw} {q : Program} {loose : List Str} {XP : (Str → Option Value) → Heap → Prop} {YP : World → Heap → Prop} {d : DefRec} {K : Params → PySem.W.Frag} (hn : l.most = some 63) (hdf : d.params.defaults = [])
    (hY : ∀ (w : World) (h : Heap), YP w h → (K w.params).In h)
    (F : ∀ (w : World) (mg : Str → Option Value) (fa : Addr) (h : Heap), (K w.params).In h → h.Ns mainGlobals mg → mg d.name = some (.ref fa) →
      ∃ fd : FuncData, (∀ (s : Shared) (u : Value), BindsTo s fd ⟨[u], []⟩ [("_law_script", u)]) ∧ ∀ base : Heap, (K w.params).In base → base.Ns mainGlobals mg → FnOk l.prog w (K w.params) mg base CX0 7 fa fd ["_law_script"] (spLaw (K w.params))) :
    PySem.W.WalkO q loose XP YP l.row.toRowW d [] (fun f vs => PySem.call f vs) :=
  L2.walk_of (n := 63) (k := 7) (x := "_law_script") (CX := fun _ => CX0) (sp := fun w => spLaw (K w.params)) hn (by decide) hdf ⟨rfl, by decide, by decide⟩ hY F (fun _ _ a ns hl _ hS => ⟨a, ns, rfl, hS, hl, fun _ => rfl⟩) fun _ _ _ _ _ z => z
end K01
open PySem PySem.W PyProof.Rows in
set_option maxRecDepth 100000 in
set_option maxHeartbeats 0 in
theorem PySem.Challenge.cw_countedsteps_k01_what_a_journey_tells_holds : PySem.Challenge.rw_countedsteps_k01_what_a_journey_tells.Holds := by
  w_on; o_law; k_head; (case hw => w_witness2)
  k_fill
  refine K01.walk (l := PySem.Challenge.rw_countedsteps_k01_what_a_journey_tells) rfl rfl (fun w h Y => PySem.W.kIn_of Y) ?F
  case F =>
    intro w mg fa h KX G hmg
    refine' K01.all_mk KX G hmg ?a1 ?l1 ?c1 ?k1 ?a2 ?l2 ?c2 ?k2 ?a3 ?l3 ?c3 ?k3 ?a4 ?l4 ?c4 ?k4 ?a5 ?l5 ?c5 ?k5 ?a6 ?l6 ?c6 ?k6 ?a7 ?l7 ?c7 ?k7 ?a8 ?l8 ?c8 ?k8 ?a9 ?l9 ?c9 ?k9 ?a10 ?l10 ?c10 ?k10 ?a11 ?l11 ?c11 ?k11 ?a12 ?l12 ?c12 ?k12 ?a13 ?l13 ?c13 ?k13 ?a14 ?l14 ?c14 ?k14 ?a15 ?l15 ?c15 ?k15 ?a16 ?l16 ?c16 ?k16 ?a17 ?l17 ?c17 ?k17 ?z1 ?z2 ?z3 ?z4 ?z5 ?z6 ?z7 ?z8 ?z9 ?z10 ?z11 ?z12 ?z13
    (case a1 => k_is); (case l1 => k_is); (case c1 => k_is); (case k1 => k_is)
    (case a2 => k_is); (case l2 => k_is); (case c2 => k_is); (case k2 => k_is)
    (case a3 => k_is); (case l3 => k_is); (case c3 => k_is); (case k3 => k_is)
    (case a4 => k_is); (case l4 => k_is); (case c4 => k_is); (case k4 => k_is)
    (case a5 => k_is); (case l5 => k_is); (case c5 => k_is); (case k5 => k_is)
    (case a6 => k_is); (case l6 => k_is); (case c6 => k_is); (case k6 => k_is)
    (case a7 => k_is); (case l7 => k_is); (case c7 => k_is); (case k7 => k_is)
    (case a8 => k_is); (case l8 => k_is); (case c8 => k_is); (case k8 => k_is)
    (case a9 => k_is); (case l9 => k_is); (case c9 => k_is); (case k9 => k_is)
    (case a10 => k_is); (case l10 => k_is); (case c10 => k_is); (case k10 => k_is)
    (case a11 => k_is); (case l11 => k_is); (case c11 => k_is); (case k11 => k_is)
    (case a12 => k_is); (case l12 => k_is); (case c12 => k_is); (case k12 => k_is)
    (case a13 => k_is); (case l13 => k_is); (case c13 => k_is); (case k13 => k_is)
    (case a14 => k_is); (case l14 => k_is); (case c14 => k_is); (case k14 => k_is)
    (case a15 => k_is); (case l15 => k_is); (case c15 => k_is); (case k15 => k_is)
    (case a16 => k_is); (case l16 => k_is); (case c16 => k_is); (case k16 => k_is)
    (case a17 => k_is); (case l17 => k_is); (case c17 => k_is); (case k17 => k_is)
    (case z1 => k_is)
    (case z2 => k_is)
    (case z3 => k_is)
    (case z4 => k_is)
    (case z5 => k_is)
    (case z6 => k_is)
    (case z7 => k_is)
    (case z8 => k_is)
    (case z9 => k_is)
    (case z10 => k_is)
    (case z11 => k_is)
    (case z12 => k_is)
    (case z13 => k_is)
#print axioms PySem.Challenge.cw_countedsteps_k01_what_a_journey_tells_holds
