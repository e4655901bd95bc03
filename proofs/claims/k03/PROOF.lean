import PyProof.Rows.All
import Wide.All
import OpenK.AllK
import Wide.FinOn
import HandS.ForMost
import HandS.Zip
import HandS.TupAny
import KE.KRevSl
import KE.GoesNew
import KE.KDictZip
import HandS.Walk
import HandS.Conv
import KE.SortData
import HandS.Dict
import HandS.Iter
import HandS.Flow
import HandS.IsInst
import PySem.Challenge.RW_countedsteps_k03_whole_exit_lists_tell_a
set_option Elab.async false
set_option linter.all false
set_option maxRecDepth 100000
set_option maxHeartbeats 2000000
/-! Rules that the hand layer lacks: the reversed slice, enumerate of a tuple, tuple(zip(..)) -/
namespace CS
open PySem PySem.Spec PyProof.Rows L2
/-! ### x[::-1] -/
theorem adj_back (m : Nat) : Builtin.Slice.sliceAdjust none none (-1) (m : Int) = ((m : Int) - 1, -1) := by
  simp [Builtin.Slice.sliceAdjust]
theorem plc_back (m : Nat) : Builtin.Slice.slicePlaces ((m : Int) - 1) (-1) (-1) = m := by
  unfold Builtin.Slice.slicePlaces
  simp
  omega
theorem fm_same {α β : Type} {f g : α → Option β} : ∀ {l : List α}, (∀ a ∈ l, f a = g a) → l.filterMap f = l.filterMap g
  | [], _ => rfl
  | a :: l, h => by
    have e1 := h a (List.mem_cons_self ..)
    have e2 := fm_same (l := l) fun b hb => h b (List.mem_cons_of_mem _ hb)
    simp only [List.filterMap_cons, e1, e2]
theorem pick_back (its : Array Value) : ((List.range its.size).filterMap fun (j : Nat) => its[((its.size : Int) - 1 + (j : Int) * (-1)).toNat]?) = its.toList.reverse := by
  have q1 : (List.range its.size).filterMap (fun (j : Nat) => its[((its.size : Int) - 1 + (j : Int) * (-1)).toNat]?) = ((List.range its.size).map (fun j => its.size - 1 - j)).filterMap (its[·]?) := by
    rw [List.filterMap_map]
    refine fm_same fun j hj => ?_
    have hj' := List.mem_range.mp hj
    have e : ((its.size : Int) - 1 + (j : Int) * (-1)).toNat = its.size - 1 - j := by omega
    show its[((its.size : Int) - 1 + (j : Int) * (-1)).toNat]? = its[its.size - 1 - j]?
    rw [e]
  rw [q1, PySem.W.krv_range, List.filterMap_reverse, PySem.W.krv_all]
section
variable {prog : Program} {w : World} {A : Around} {E : Value → Shared → Prop} {s : Shared}
theorem app_back {sl : Addr} {k : Tok} {m : Nat} {Q : Int × Int × Nat → Shared → Prop} (hsl : s.heap.IsSliceOf sl .none .none (.int (-1) k)) (hq : Q ((m : Int) - 1, -1, m) s) :
    wpAny (model prog w) A (Builtin.Slice.sliceApplied (.ref sl) (pure (m : Int))) Q E s := by
  obtain ⟨ob, hob, hcl, hdt⟩ := id hsl
  unfold Builtin.Slice.sliceApplied Builtin.Slice.sliceFields
  refine wpAny_bind (wpAny_bind (wpAny_field hob hdt (x := .none) rfl (wpAny_bind (wpAny_field hob hdt (x := .none) rfl (wpAny_bind (wpAny_field hob hdt (x := .int (-1) k) rfl (wpAny_pure ?_)))))))
  refine wpAny_bind (PyProof.Rows.slicePart_int ?_)
  show wpAny _ _ (if ((-1 : Int) == 0) = true then _ else _) _ _ s
  rw [if_neg (by decide)]
  refine wpAny_bind (PyProof.Rows.slicePart_none (wpAny_bind (PyProof.Rows.slicePart_none (wpAny_bind (wpAny_pure ?_)))))
  show wpAny _ _ (match Builtin.Slice.sliceAdjust none none (-1) (m : Int) with | (lo, hi) => pure (lo, (-1 : Int), Builtin.Slice.slicePlaces lo hi (-1))) _ _ s
  rw [adj_back]
  show wpAny _ _ (pure ((m : Int) - 1, (-1 : Int), Builtin.Slice.slicePlaces ((m : Int) - 1) (-1) (-1))) _ _ s
  rw [plc_back]
  exact wpAny_pure hq
theorem tup_back {t sl : Addr} {its : Array Value} {k : Tok} {Q : Value → Shared → Prop} (ht : IsTup s.heap t its) (hsl : s.heap.IsSliceOf sl .none .none (.int (-1) k))
    (hq : Q (.ref s.heap.objs.size) { s with heap := s.heap.push { cls := .type "tuple", data := .seq its.toList.reverse.toArray } }) (hfit : its.size ≤ sizeLine) : wpAny (model prog w) A (getItem (.ref t) (.ref sl)) Q E s := by
  obtain ⟨ob, hob, hcl, hdt⟩ := id hsl
  have hty : s.TypeIs (.ref sl) "slice" := ⟨ob, hob, hcl⟩
  have hfit2 : sizeOk (.seq its.toList.reverse.toArray) := by
    show its.toList.reverse.toArray.size ≤ sizeLine
    rw [List.size_toArray, List.length_reverse, Array.length_toList]
    exact hfit
  unfold getItem
  try with_reducible refine wpAny_holding ?_
  first | refine wpAny_bind (wpAny_pure ?_) | skip
  refine wpAny_bind (wpAny_sequenceKey ht.typeIs (by decide) ?_)
  refine wpAny_bind (wpAny_callSpecial?_slot (name := Str.ofString "__getitem__") ht.typeIs PyProof.Rows.slot_tuple_getitem (wpAny_call_entry PyProof.Rows.slot_tuple_getitem ht.typeIs entry_tuple_getitem ?_ (args_tuple_getitem _ _)))
  show wpAny _ _ (Builtin.Tuple.tupleItemsOf (.ref t) >>= _) _ _ s
  refine wpAny_bind (tupleItemsOf_ ht (wpAny_bind (wpAny_typeOf hty ?_)))
  rw [if_pos (by decide)]
  refine wpAny_bind (app_back hsl ?_)
  have nope : ¬ ((((its.size : Nat) : Int) - 1 == 0 && (-1 : Int) == 1 && its.size == its.size) = true) := by
    intro q
    rw [Bool.and_eq_true, Bool.and_eq_true] at q
    exact absurd (eq_of_beq q.1.2) (by decide)
  show wpAny _ _ (if (((its.size : Nat) : Int) - 1 == 0 && (-1 : Int) == 1 && its.size == its.size) = true then _ else _) _ _ s
  rw [if_neg nope, pick_back]
  first
    | exact wpAny_bind (m := Builtin.Tuple.tupleExact _) (wpAny_newObj_type (wpAny_pure ⟨_, rfl, wpAny_pure hq⟩) hfit2)
    | exact wpAny_bind (m := Builtin.Tuple.tupleExact _) (wpAny_newObj_type (wpAny_bind (wpAny_pure (wpAny_pure ⟨_, rfl, wpAny_pure hq⟩))) hfit2)
    | exact wpAny_bind (wpAny_bind (m := Builtin.Tuple.tupleExact _) (wpAny_newObj_type (wpAny_pure (wpAny_pure ⟨_, rfl, wpAny_pure hq⟩)) hfit2))
    | exact wpAny_bind (wpAny_bind (m := Builtin.Tuple.tupleExact _) (wpAny_newObj_type (wpAny_pure ⟨_, rfl, wpAny_pure hq⟩) hfit2))
end
section
variable {X : Cx} {e st : Expr} {te ts : TE} {p2 pos : Pos}
/-- x[::-1], x a list or a tuple: a new one, turned -/
def tBack (K : PySem.W.Frag) (te ts : TE) : TE := fun σ H Q => te σ H fun x H1 => ts σ H1 fun y H2 => y = .int (-1) ∧ ∃ a xs, x = .ref a ∧ ((SqT K H2 a xs ∧ ∀ p, H2 p = none → Q (.ref p) (upd H2 p (.tup xs.reverse))) ∨ (SqL K H2 a xs ∧ ∀ p, H2 p = none → Q (.ref p) (upd H2 p (.lst xs.reverse))))
theorem vals_rev {xs : List V} {us : List Value} (h : Vals xs us) : Vals xs.reverse us.reverse := by
  induction h with
  | nil => exact .nil
  | cons r t ih =>
    rw [List.reverse_cons, List.reverse_cons]
    exact ih.append (.cons r .nil)
theorem pe_back (he : PE X e te) (hst : PE X st ts) : PE X (.Subscript e (.Slice none none (some st) p2) pos) (tBack X.K te ts) := by
  refine ⟨fun pins s0 σ H0 Q0 I0 hw => ?_⟩
  refine Subscript_ (thn (he.run pins s0 σ H0 _ I0 hw) fun v s1 ⟨x, H1, I1, r1, q1⟩ => ?_)
  refine wpAny_Slice ?_
  rw [evalPart_none]
  refine wpAny_pure (wpAny_pure ?_)
  rw [evalPart_some]
  refine thn (hst.run pins s1 σ H1 _ I1 q1) fun vs s3 ⟨y, H3, I3, r3, q3⟩ => ?_
  obtain ⟨rfl, a, xs, rfl, q⟩ := q3
  obtain ⟨tk, rfl⟩ := r3
  have I4 : Inv X pins σ H3 { s3 with heap := s3.heap.push { cls := .type "slice", data := .fields #[.none, .none, .int (-1) tk] } } := I3.kept (t' := s3.toks) fun b ob z => Heap.get?_push_of_some _ z
  cases r1
  rcases q with ⟨hx, q⟩ | ⟨hx, q⟩
  · obtain ⟨its, rv, pt, hz⟩ := I4.tuple hx
    refine tail_any (ops := [.ref a, .ref s3.heap.objs.size]) pt.typeIs PyProof.Rows.slot_tuple_getitem.lookup (tup_back pt (Heap.IsSliceOf.new ..) ?_ (by rw [List.size_toArray, ← rv.length]; exact hz)) (by with_unfolding_all rfl)
    refine ⟨.ref _, _, I4.laid (t' := s3.toks) (o := .tup xs.reverse) (fun b ob z => Heap.get?_push_of_some _ z) (Nat.le_refl _) ?_, rfl, q _ (I4.hok.fresh (Nat.le_refl _))⟩
    exact ⟨by rw [List.length_reverse]; exact hz, _, vals_rev rv, IsTup.new _ _⟩
  · obtain ⟨its, rv, pt, hz⟩ := I4.list hx
    refine tail_any (ops := [.ref a, .ref s3.heap.objs.size]) pt.isList.typeIs slot_list_getitem.lookup (wpAny_getItem_list_slice pt.isList (Heap.IsSliceOf.new ..) .none .none (.int (-1) tk) (by decide) ?_ (by rw [List.size_toArray, ← rv.length]; exact hz)) (by with_unfolding_all rfl)
    rw [PySem.W.krv_pick]
    refine ⟨.ref _, _, I4.laid (t' := s3.toks) (o := .lst xs.reverse) (fun b ob z => Heap.get?_push_of_some _ z) (Nat.le_refl _) ?_, rfl, q _ (I4.hok.fresh (Nat.le_refl _))⟩
    exact ⟨by rw [List.length_reverse]; exact hz, _, 0, vals_rev rv, Heap.get?_push_size _ rfl⟩
end
end CS
namespace CS
open PySem PySem.Spec PyProof.Rows L2
/-! ### enumerate(x) of anything whose iterator is known -/
theorem enumB_new {v : Value} {ob : Obj} {Hh : Heap → Prop} (B : Begins v ob Hh) :
    Meets (Builtin.«enumerate.__new__» ⟨[.type "enumerate", v], []⟩) (fun _ R s => Hh s.heap ∧ R (.ok (.ret (.ref (s.heap.push ob).objs.size)))
      { s with heap := (s.heap.push ob).push { cls := .type "enumerate", data := .fields #[.none, .bool false, .ref s.heap.objs.size, rawInt 0, .none, .none] } }) :=
  .of_wp fun prog w A R s hst => by
    obtain ⟨hp, gn, dr, tk, os⟩ := s; obtain ⟨hh, hR⟩ := hst
    have subE := sub_enumerate
    have itr : ∀ {A' : Around} {E : Value → Shared → Prop} {Q : Value → Shared → Prop}, Q (.ref hp.objs.size) ⟨hp.push ob, gn, dr, tk, os⟩ → wpAny (model prog w) A' (pyIter v) Q E ⟨hp, gn, dr, tk, os⟩ :=
      fun q => B.iter prog w _ _ ⟨hp, gn, dr, tk, os⟩ _ hh q
    wp_walk using itr
    refine wpAny_stack_any fun st => wpAny_pure ?_
    split
    · rename_i c _ _ _ _ _
      cases (c == Value.type "enumerate")
      · wp_walk using itr
        exact ⟨_, rfl, hR⟩
      · wp_walk using itr
        exact ⟨_, rfl, hR⟩
    · wp_walk using itr
      exact ⟨_, rfl, hR⟩
section
variable {prog : Program} {w : World} {A : Around} {E : Value → Shared → Prop} {s : Shared}
theorem enumB_call {v : Value} {ob : Obj} {Hh : Heap → Prop} {Q : Value → Shared → Prop} (B : Begins v ob Hh) (hh : Hh s.heap)
    (hq : ∀ h', IsEnum h' (s.heap.objs.size + 1) s.heap.objs.size 0 .none → h'.get? s.heap.objs.size = some ob → h'.objs.size = s.heap.objs.size + 2 →
      (∀ c u, s.heap.get? c = some u → h'.get? c = some u) → Q (.ref (s.heap.objs.size + 1)) { s with heap := h' }) :
    wpAny (model prog w) A (call (.type "enumerate") [v]) Q E s := by
  refine callType_new F.called_enumerate (by decide) (F.typeCall_enumerate_1 _) (F.newCall_enumerate_1 _) (fun obj => F.args_object_init_2 obj _) F.entry_enumerate_new (enumB_new B) ⟨hh, ?_⟩
  have sz1 : (s.heap.push ob).objs.size = s.heap.objs.size + 1 := Heap.size_push ..
  show _ ∧ _
  rw [sz1]
  have at1 : IsEnum ((s.heap.push ob).push { cls := .type "enumerate", data := .fields #[.none, .bool false, .ref s.heap.objs.size, rawInt 0, .none, .none] }) (s.heap.objs.size + 1) s.heap.objs.size 0 .none := by
    have q := Heap.get?_push_size (s.heap.push ob) (o := { cls := .type "enumerate", data := .fields #[.none, .bool false, .ref s.heap.objs.size, rawInt 0, .none, .none] }) rfl
    rw [sz1] at q
    exact q
  exact ⟨⟨_, at1, rfl⟩, hq _ at1 (Heap.get?_push_of_some _ (Heap.get?_push_size _ B.free)) (by rw [Heap.size_push, sz1]) fun c u z => Heap.get?_push_of_some _ (Heap.get?_push_of_some _ z)⟩
end
/-- the pairs (0, x), (1, y), .. of the tuple at a -/
def IteT (K : PySem.W.Frag) (a : Addr) : It :=
  ⟨fun i H => ∃ (xs : List V) (x : V), SqT K H a xs ∧ xs[i]? = some x, fun i H v H' => ∃ (T : Addr) (x : V), v = .ref T ∧ H T = none ∧ H' = upd H T (.tup [.int (i : Nat), x]) ∧ ∀ ys, SqT K H a ys → ys[i]? = some x,
   fun i H => ∃ ys : List V, SqT K H a ys ∧ ys.length ≤ i⟩
theorem turn_enumT {P : Program} {w : World} {K : PySem.W.Frag} {elts : List Expr} {kk : Nat} {tpos : Pos} (a e it : Addr) :
    Turn P w K (.Tuple elts kk tpos) (IteT K a) [e, it] e (fun i h => (∃ old, IsEnum h e it ((i : Nat) : Int) old) ∧ h.IsTupleIter it a i ∧ e ≠ it) where
  mem := by simp
  obj := fun i h st b hb => by
    obtain ⟨⟨old, he⟩, ⟨ob, ho, _, hd⟩, _⟩ := st
    have hb' : b = e ∨ b = it := by simpa using hb
    rcases hb' with rfl | rfl
    · exact ⟨_, he, fun v q => nomatch q⟩
    · exact ⟨ob, ho, fun v q => by rw [hd] at q; cases q⟩
  keep := fun i h h' st kp => by
    obtain ⟨⟨old, he⟩, hi, hne⟩ := st
    exact ⟨⟨old, kp e (by simp) _ he⟩, hi.at fun u q => kp it (by simp) u q, hne⟩
  item := by
    intro X eP ew eK cm i pins s σ H E I fpo st gg
    subst eP ew eK
    obtain ⟨⟨old, he⟩, hit, hne⟩ := st
    obtain ⟨xs, x, hsq, hx⟩ := gg
    obtain ⟨its, rv, pt, _⟩ := I.tuple hsq
    obtain ⟨u, hu, ru⟩ := rv.get hx
    have hel : e < s.heap.objs.size := Heap.lt_size he
    have hil : it < s.heap.objs.size := by obtain ⟨_, q, _⟩ := hit; exact Heap.lt_size q
    have eT : e ≠ a := fun z => by
      obtain ⟨ot, hot, hct, _⟩ := pt
      rw [← z, he] at hot
      cases hot
      exact absurd (Value.type.inj hct) (by decide)
    have iT : a ≠ it := fun z => by
      obtain ⟨oi, hoi, hci, _⟩ := hit
      obtain ⟨ot, hot, hct, _⟩ := pt
      rw [z, hoi] at hot
      cases hot
      rw [hci] at hct
      exact absurd (Value.type.inj hct) (by decide)
    have D := Draws.tuple (prog := X.prog) (w := X.w) (A := X.A.in1) (I.ok.hd cm) it a iT its.toArray
    have hlt : i < its.toArray.size := by
      have q := (List.getElem?_eq_some_iff.mp hu).1
      simpa using q
    refine wpAny_pyNext_enum_itemD D he ⟨hit, pt⟩ hlt hne (by simp [hne, eT]) fun y h' tk hP ho sn hT hsz hk => ?_
    have ey : y = u := by
      have q : its[i]? = some y := by simpa using hP
      rw [hu] at q
      exact (Option.some.inj q).symm
    subst ey
    refine ⟨_, rfl, wpAny_letOwnedTupleGo_enum (s := { s with heap := h', toks := tk + 1 }) ho fun h2 he2 sb => ?_⟩
    have hT2 : h2.get? s.heap.objs.size = some { cls := .type "tuple", data := .seq #[.int i tk, y] } := (sb.2 _ (Nat.ne_of_gt hel)).trans hT
    have nw : ObjOk X.prog X.w (upd H s.heap.objs.size (.tup [.int (i : Nat), x])) h2 s.heap.objs.size (.tup [.int (i : Nat), x]) :=
      ⟨by show 2 ≤ sizeLine; decide, [.int i tk, y], .cons ⟨_, rfl⟩ (.cons ru .nil), ⟨_, hT2, rfl, _, rfl⟩⟩
    have I1 : Inv X pins σ (upd H s.heap.objs.size (.tup [.int (i : Nat), x])) { s with heap := h2, toks := tk + 1 } :=
      I.turnedNew (ch := [e, it]) (fun b ob hb q => (sb.2 b (fun z => hb (by simp [z]))).trans (hk b ob (fun z => hb (by simp [z])) (fun z => hb (by simp [z])) q)) fpo (Nat.le_refl _) nw
    refine ⟨.ref s.heap.objs.size, _, I1, rfl, ⟨_, x, rfl, I.hok.fresh (Nat.le_refl _), rfl, fun ys hy => by rw [I.tuple_inj hy hsq]; exact hx⟩, ⟨⟨y, ?_⟩, sn.1.at fun u q => (sb.2 it (Ne.symm hne)).trans q, hne⟩, fun b hb => ?_⟩
    · have e1 : ((i + 1 : Nat) : Int) = (i : Int) + 1 := by omega
      rw [e1]
      exact he2
    · have hb' : b < s.heap.objs.size := by
        have z : b = e ∨ b = it := by simpa using hb
        rcases z with z | z
        · rw [z]; exact hel
        · rw [z]; exact hil
      rw [upd_ne (Nat.ne_of_lt hb')]
      exact (fpo b hb).1
  done := by
    intro X eP ew eK cm i pins s σ H E I fpo st gg
    subst eP ew eK
    obtain ⟨⟨old, he⟩, hit, hne⟩ := st
    obtain ⟨ys, hsq, hle⟩ := gg
    obtain ⟨its, rv, pt, _⟩ := I.tuple hsq
    obtain ⟨f0, f1, f2, f3, f4, f5⟩ := fpo it (by simp)
    have iT : a ≠ it := fun z => by
      obtain ⟨oi, hoi, hci, _⟩ := hit
      obtain ⟨ot, hot, hct, _⟩ := pt
      rw [z, hoi] at hot
      cases hot
      rw [hci] at hct
      exact absurd (Value.type.inj hct) (by decide)
    have hlen := rv.length
    have hnone : its.toArray[i]? = none := by simp; omega
    have hty : s.TypeIs (.ref e) "enumerate" := ⟨_, he, rfl⟩
    unfold pyNext
    refine wpAny_bind (wpAny_attempt (wpAny_callSpecial?_slot (name := Str.ofString "__next__") hty F.slot_enumerate_next (wpAny_call_entry F.slot_enumerate_next hty F.entry_enumerate_next ?_ (F.args_enumerate_next_1 _))))
    show wpAny _ _ (field (.ref e) 2 >>= _) _ _ _
    refine wpAny_bind (wpAny_field he rfl (x := .ref it) rfl (wpAny_bind (RZ.nextOf_tuple_end (I.ok.hd cm) hit pt hnone fun h' xx hk hx' => ?_)))
    obtain ⟨ob, ho, hcl⟩ := hx'
    refine wpAny_bind (wpAny_isInstance (T := "StopIteration") (b := true) ⟨ob, ho, hcl⟩ isSubtype_stop ?_)
    exact wpAny_pure ⟨rfl, I.turned (t' := s.toks) (fun b u hb q => hk b u hb q) f0 f1 f3 f4 f5⟩
  self := fun A i s Q E st hq => by
    obtain ⟨⟨_, he⟩, _⟩ := st
    exact wpAny_pyIter_enum he hq
def iEnumT (K : PySem.W.Frag) (ta : TA) : TI := fun σ H R => ta σ H fun vs H1 => ∃ (a : Addr) (xs : List V), vs = [.ref a] ∧ ((SqT K H1 a xs ∧ R (IteT K a) H1) ∨ (SqL K H1 a xs ∧ R (Ite K a) H1))
theorem pi_enumT {X : Cx} {e : Expr} {ta : TA} {p pos tpos : Pos} {elts : List Expr} {kk : Nat} (gE : Gl X "enumerate") (mE : X.mg "enumerate" = none) (ha : PA X [e] ta) (hs : starEach [e] X.env = [(false, eval e X.env)] := by rfl) :
    PI X (.Tuple elts kk tpos) (.Call (.Name "enumerate" p) [e] [] pos) (iEnumT X.K ta) := by
  refine ⟨fun pins s0 σ H0 R I0 hw => ?_⟩
  refine Call_ (ld_blt I0 gE mE boot_enumerate (PyProof.Rows.callWith_type1 (thn (ha.run pos pins s0 σ H0 _ I0 hw) fun us s1 ⟨vs, H1, I1, r1, q1⟩ => ?_) hs rfl))
  obtain ⟨a, xs, rfl, q⟩ := q1
  obtain ⟨u, rfl, rx⟩ := vals1 r1
  cases rx
  have fr : ∀ b, b ∈ [s1.heap.objs.size + 1, s1.heap.objs.size] → FpOk X pins H1 b := fun b hb => by
    have z : b = s1.heap.objs.size + 1 ∨ b = s1.heap.objs.size := by simpa using hb
    have hle : s1.heap.objs.size ≤ b := by omega
    exact I1.fpOk hle (I1.hok.fresh hle)
  rcases q with ⟨hq, q⟩ | ⟨hq, q⟩
  · obtain ⟨its, rv, pt, _⟩ := I1.tuple hq
    refine enumB_call (begins_tuple a its.toArray) pt fun h' he ho hsz hk => wpAny_pyIter_enum he ?_
    exact ⟨s1.heap.objs.size + 1, [s1.heap.objs.size + 1, s1.heap.objs.size], _, _, H1, rfl, I1.kept (t' := s1.toks) hk, turn_enumT a _ _, ⟨⟨_, he⟩, ⟨_, ho, rfl, rfl⟩, Nat.succ_ne_self _⟩, fr, q⟩
  · obtain ⟨its, rv, pt, _⟩ := I1.list hq
    refine enumB_call (begins_list a its.toArray) pt.isList fun h' he ho hsz hk => wpAny_pyIter_enum he ?_
    exact ⟨s1.heap.objs.size + 1, [s1.heap.objs.size + 1, s1.heap.objs.size], _, _, H1, rfl, I1.kept (t' := s1.toks) hk, turn_enum a _ _, ⟨⟨_, he⟩, ⟨_, ho, rfl, rfl⟩, Nat.succ_ne_self _⟩, fr, q⟩
theorem walk_enumT {K : PySem.W.Frag} {a : Addr} {xs : List V} : Walk (IteT K a) xs.length (fun H => SqT K H a xs) (YPair (fun i => some (.int (i : Nat))) (fun i => xs[i]?)) := by
  refine ⟨fun i _ hi q => ⟨xs, xs[i], q, by simp [hi]⟩, fun _ q => ⟨xs, q, Nat.le_refl _⟩, fun i H v H' _ q y => ?_⟩
  obtain ⟨T, x, e1, e2, e3, e4⟩ := y
  exact ⟨T, .int (i : Nat), x, e1, e2, e3, rfl, e4 xs q⟩
end CS
namespace CS
open PySem PySem.Spec PyProof.Rows L2

section
variable {prog : Program} {w : World} {A : Around} {E : Value → Shared → Prop} {s : Shared} {z TI TO T i1 i2 : Addr} {fp1 fp2 : List Addr} {n1 n2 i : Nat} {P1 P2 : Nat → Value → Prop} {St1 St2 : Nat → Heap → Prop} {f : Bool} {oT : Obj}
/-- one more of a zip whose tuple is still held by somebody -/
theorem held_item {Q : Value → Shared → Prop} (S : ZipSep2 z TI TO i1 i2 fp1 fp2) (D1 : Draws prog w A i1 fp1 n1 P1 St1) (D2 : Draws prog w A i2 fp2 n2 P2 St2)
    (hz : IsZipHeld s.heap z TI TO T f) (hT : s.heap.get? T = some oT) (hTI : IsTupOf2 s.heap TI (.ref i1) (.ref i2)) (st1 : St1 i s.heap) (st2 : St2 i s.heap) (lt1 : i < n1) (lt2 : i < n2)
    (hq : ∀ x y h' tk, P1 i x → P2 i y → IsZipHeld h' z TI TO T true → St1 (i + 1) h' → St2 (i + 1) h' → IsTupOf2 h' s.heap.objs.size x y → h'.objs.size = s.heap.objs.size + 1 →
      (∀ c u, c ≠ z → c ≠ i1 → c ≠ i2 → s.heap.get? c = some u → h'.get? c = some u) → Q (.ref s.heap.objs.size) { s with heap := h', toks := tk }) :
    wpAny (model prog w) A (Builtin.«zip.__next__» ⟨[.ref z], []⟩) (fun fin s' => ∃ v, fin = .done (.ret v) ∧ Q v s') E s := by
  obtain ⟨hp, gn, dr, tk0, os⟩ := s
  show wpAny _ _ (field (.ref z) 2 >>= _) _ _ _
  refine wpAny_bind (wpAny_field hz rfl (x := .bool false) rfl ?_)
  show wpAny _ _ (field (.ref z) 3 >>= _) _ _ _
  refine wpAny_bind (wpAny_field hz rfl (x := .ref TI) rfl (wpAny_bind (wpAny_seqItems hTI rfl ?_)))
  show wpAny _ _ (Builtin.SmallTypes.ownedTupleIsFree (.ref z) >>= _) _ _ _
  refine wpAny_bind (wpAny_tupleHeld_zip hz hT fun g1 hz1 hs1 => ?_)
  replace hs1 : Heap.SameBut z hp g1 := hs1
  simp only [Bool.false_eq_true, if_false]
  refine wpAny_bind ?_
  rw [← Array.forIn_toList]
  simp only [List.forIn_cons, List.forIn_nil]
  refine wpAny_bind (wpAny_bind (wpAny_holding ?_))
  show wpAny _ _ (Builtin.SmallTypes.nextOf (.ref i1) >>= _) _ _ ⟨g1, gn, dr, tk0, os⟩
  refine wpAny_bind (D1.item i _ _ _ lt1 (D1.over st1 hs1 S.zf1) fun x g2 tk1 hx sn1 hs2 => wpAny_pure (wpAny_pure ?_))
  replace hs2 : Heap.SameBut i1 g1 g2 := hs2
  refine wpAny_bind (wpAny_bind (wpAny_holding ?_))
  show wpAny _ _ (Builtin.SmallTypes.nextOf (.ref i2) >>= _) _ _ ⟨g2, gn, dr, tk1, os⟩
  refine wpAny_bind (D2.item i _ _ _ lt2 (D2.over (D2.over st2 hs1 S.zf2) hs2 S.sep1_2) fun y g3 tk2 hy sn2 hs3 => wpAny_pure (wpAny_pure (wpAny_pure ?_)))
  replace hs3 : Heap.SameBut i2 g2 g3 := hs3
  show wpAny _ _ (newTuple [x, y] >>= _) _ _ ⟨g3, gn, dr, tk2, os⟩
  refine wpAny_bind (wpAny_newTuple ?_)
  have esz : g3.objs.size = hp.objs.size := by rw [hs3.1, hs2.1, hs1.1]
  have hz3 : IsZipHeld g3 z TI TO T true := hs3.extBut _ _ S.zi2 (hs2.extBut _ _ S.zi1 hz1)
  have kept : ∀ c u, c ≠ z → c ≠ i1 → c ≠ i2 → hp.get? c = some u → g3.get? c = some u := fun c u c1 c2 c3 q => hs3.extBut _ _ c3 (hs2.extBut _ _ c2 (hs1.extBut _ _ c1 q))
  have j1 : St1 (i + 1) g3 := D1.over sn1 hs3 S.sep2_1
  refine wpAny_pure ⟨_, rfl, ?_⟩
  show Q (.ref g3.objs.size) _
  have tp : IsTupOf2 (g3.push { cls := .type "tuple", data := .seq #[x, y] }) g3.objs.size x y := Heap.get?_push_size _ rfl
  have sz4 : (g3.push { cls := .type "tuple", data := .seq #[x, y] }).objs.size = g3.objs.size + 1 := Heap.size_push ..
  rw [esz] at tp sz4 ⊢
  exact hq x y _ tk2 hx hy (Heap.get?_push_of_some _ hz3) (D1.frame _ _ _ j1 fun b _ u q => Heap.get?_push_of_some _ q) (D2.frame _ _ _ sn2 fun b _ u q => Heap.get?_push_of_some _ q) tp sz4 fun c u c1 c2 c3 q => Heap.get?_push_of_some _ (kept c u c1 c2 c3 q)
theorem held_end {Q : Fin → Shared → Prop} (S : ZipSep2 z TI TO i1 i2 fp1 fp2) (D1 : Draws prog w A i1 fp1 n1 P1 St1) (D2 : Draws prog w A i2 fp2 n2 P2 St2)
    (hz : IsZipHeld s.heap z TI TO T f) (hT : s.heap.get? T = some oT) (hTI : IsTupOf2 s.heap TI (.ref i1) (.ref i2)) (st1 : St1 i s.heap) (st2 : St2 i s.heap) (le1 : i ≤ n1) (le2 : i ≤ n2) (fin : i = n1 ∨ i = n2)
    (he : ∀ h' tk e, (∀ c u, c ≠ z → c ≠ i1 → c ≠ i2 → s.heap.get? c = some u → h'.get? c = some u) → (∃ u, h'.get? e = some u ∧ u.cls = .type "StopIteration") → E (.ref e) { s with heap := h', toks := tk }) :
    wpAny (model prog w) A (Builtin.«zip.__next__» ⟨[.ref z], []⟩) Q E s := by
  obtain ⟨hp, gn, dr, tk0, os⟩ := s
  show wpAny _ _ (field (.ref z) 2 >>= _) _ _ _
  refine wpAny_bind (wpAny_field hz rfl (x := .bool false) rfl ?_)
  show wpAny _ _ (field (.ref z) 3 >>= _) _ _ _
  refine wpAny_bind (wpAny_field hz rfl (x := .ref TI) rfl (wpAny_bind (wpAny_seqItems hTI rfl ?_)))
  show wpAny _ _ (Builtin.SmallTypes.ownedTupleIsFree (.ref z) >>= _) _ _ _
  refine wpAny_bind (wpAny_tupleHeld_zip hz hT fun g1 hz1 hs1 => ?_)
  replace hs1 : Heap.SameBut z hp g1 := hs1
  simp only [Bool.false_eq_true, if_false]
  refine wpAny_bind ?_
  rw [← Array.forIn_toList]
  simp only [List.forIn_cons, List.forIn_nil]
  refine wpAny_bind (wpAny_bind (wpAny_holding ?_))
  show wpAny _ _ (Builtin.SmallTypes.nextOf (.ref i1) >>= _) _ _ ⟨g1, gn, dr, tk0, os⟩
  by_cases lt1 : i < n1
  · refine wpAny_bind (D1.item i _ _ _ lt1 (D1.over st1 hs1 S.zf1) fun x g2 tk1 hx sn1 hs2 => wpAny_pure (wpAny_pure ?_))
    replace hs2 : Heap.SameBut i1 g1 g2 := hs2
    have ei : i = n2 := by omega
    refine wpAny_bind (wpAny_bind (wpAny_holding ?_))
    show wpAny _ _ (Builtin.SmallTypes.nextOf (.ref i2) >>= _) _ _ ⟨g2, gn, dr, tk1, os⟩
    refine wpAny_bind (D2.done ⟨g2, gn, dr, tk1, os⟩ _ _ (by rw [← ei]; exact D2.over (D2.over st2 hs1 S.zf2) hs2 S.sep1_2) fun q e hq hE => ?_)
    replace hq : Heap.ExtBut i2 g2 q := hq
    exact he q tk1 e (fun c u c1 c2 c3 r => hq _ _ c3 (hs2.extBut _ _ c2 (hs1.extBut _ _ c1 r))) hE
  · have ei : i = n1 := by omega
    refine wpAny_bind (D1.done ⟨g1, gn, dr, tk0, os⟩ _ _ (by rw [← ei]; exact D1.over st1 hs1 S.zf1) fun q e hq hE => ?_)
    replace hq : Heap.ExtBut i1 g1 q := hq
    exact he q tk0 e (fun c u c1 c2 c3 r => hq _ _ c2 (hs1.extBut _ _ c1 r)) hE
/-- where a zip stands ahead of its i-th turn, if what it gave is kept -/
def ZAt (z TI TO i1 i2 : Addr) (S : Addr) (St1 St2 : Nat → Heap → Prop) (i : Nat) (h : Heap) : Prop :=
  IsTupOf2 h TI (.ref i1) (.ref i2) ∧ St1 i h ∧ St2 i h ∧ ((IsZip h z TI TO .none ∧ ∃ a b, IsTupOf2 h TO a b) ∨ ∃ T f oT, IsZipHeld h z TI TO T f ∧ h.get? T = some oT ∧ T ≠ z ∧ T ≠ i1 ∧ T ≠ i2 ∧ T ≠ S)
theorem z_item {S0 : Addr} {Q : Option Value → Shared → Prop} (S : ZipSep2 z TI TO i1 i2 fp1 fp2) (D1 : Draws prog w A.in1 i1 fp1 n1 P1 St1) (D2 : Draws prog w A.in1 i2 fp2 n2 P2 St2)
    (hz : ZAt z TI TO i1 i2 S0 St1 St2 i s.heap) (hS : S0 < s.heap.objs.size) (lt1 : i < n1) (lt2 : i < n2)
    (hq : ∀ x y h' tk, P1 i x → P2 i y → ZAt z TI TO i1 i2 S0 St1 St2 (i + 1) h' → IsTupOf2 h' s.heap.objs.size x y → h'.objs.size = s.heap.objs.size + 1 →
      (∀ c u, c ≠ z → c ≠ TO → c ≠ i1 → c ≠ i2 → s.heap.get? c = some u → h'.get? c = some u) → Q (some (.ref s.heap.objs.size)) { s with heap := h', toks := tk }) :
    wpAny (model prog w) A (pyNext (.ref z)) Q E s := by
  obtain ⟨hTI, st1, st2, q⟩ := hz
  have lti1 : i1 < s.heap.objs.size := by obtain ⟨_, q⟩ := D1.live _ _ st1; exact Heap.lt_size q
  have lti2 : i2 < s.heap.objs.size := by obtain ⟨_, q⟩ := D2.live _ _ st2; exact Heap.lt_size q
  rcases q with ⟨hz, a, b, hTO⟩ | ⟨T, f, oT, hz, hT, t1, t2, t3, t4⟩
  · have ltz : z < s.heap.objs.size := Heap.lt_size hz
    refine wpAny_pyNext_zipD2_item S D1 D2 hz hTI hTO st1 st2 lt1 lt2 fun x y h' tk p1 p2 b1 b2 d1 d2 b5 b6 b7 => hq x y h' tk p1 p2 ⟨b7 _ _ S.TIz S.TITO S.TIi1 S.TIi2 hTI, d1, d2, .inr ⟨s.heap.objs.size, false, _, b1, b5, ?_⟩⟩ b5 b6 b7
    exact ⟨Nat.ne_of_gt ltz, Nat.ne_of_gt lti1, Nat.ne_of_gt lti2, Nat.ne_of_gt hS⟩
  · have hty : s.TypeIs (.ref z) "zip" := ⟨_, hz, rfl⟩
    unfold pyNext
    exact wpAny_bind (wpAny_attempt (wpAny_callSpecial?_slot (name := Str.ofString "__next__") hty F.slot_zip_next (wpAny_call_entry F.slot_zip_next hty F.entry_zip_next
      (held_item S D1 D2 hz hT hTI st1 st2 lt1 lt2 fun x y h' tk p1 p2 b1 d1 d2 b5 b6 b7 => wpAny_pure (hq x y h' tk p1 p2
        ⟨b7 _ _ S.TIz S.TIi1 S.TIi2 hTI, d1, d2, .inr ⟨T, true, oT, b1, b7 _ _ t1 t2 t3 hT, t1, t2, t3, t4⟩⟩ b5 b6 fun c u c1 _ c3 c4 q => b7 c u c1 c3 c4 q)) (F.args_zip_next_1 _))))
theorem z_end {S0 : Addr} {Q : Option Value → Shared → Prop} (S : ZipSep2 z TI TO i1 i2 fp1 fp2) (D1 : Draws prog w A.in1 i1 fp1 n1 P1 St1) (D2 : Draws prog w A.in1 i2 fp2 n2 P2 St2)
    (hz : ZAt z TI TO i1 i2 S0 St1 St2 i s.heap) (le1 : i ≤ n1) (le2 : i ≤ n2) (fin : i = n1 ∨ i = n2)
    (hq : ∀ h' tk, (∀ c u, c ≠ z → c ≠ TO → c ≠ i1 → c ≠ i2 → s.heap.get? c = some u → h'.get? c = some u) → Q none { s with heap := h', toks := tk }) : wpAny (model prog w) A (pyNext (.ref z)) Q E s := by
  obtain ⟨hTI, st1, st2, q⟩ := hz
  rcases q with ⟨hz, a, b, hTO⟩ | ⟨T, f, oT, hz, hT, t1, t2, t3, t4⟩
  · exact wpAny_pyNext_zipD2_end S D1 D2 hz hTI hTO st1 st2 le1 le2 fin hq
  · have hty : s.TypeIs (.ref z) "zip" := ⟨_, hz, rfl⟩
    unfold pyNext
    refine wpAny_bind (wpAny_attempt (wpAny_callSpecial?_slot (name := Str.ofString "__next__") hty F.slot_zip_next (wpAny_call_entry F.slot_zip_next hty F.entry_zip_next
      (held_end S D1 D2 hz hT hTI st1 st2 le1 le2 fin fun h' tk e hk hE => ?_) (F.args_zip_next_1 _))))
    obtain ⟨u, hu, hcl⟩ := hE
    exact wpAny_bind (wpAny_isInstance (T := "StopIteration") (b := true) ⟨u, hu, hcl⟩ isSubtype_stop (wpAny_pure (hq _ _ fun c v c1 _ c3 c4 q => hk c v c1 c3 c4 q)))
theorem ZAt.through {S0 : Addr} {h h' : Heap} (S : ZipSep2 z TI TO i1 i2 fp1 fp2) (D1 : Draws prog w A i1 fp1 n1 P1 St1) (D2 : Draws prog w A i2 fp2 n2 P2 St2) (n1' : S0 ∉ fp1) (n2' : S0 ∉ fp2) (nT : TI ≠ S0) (nz : z ≠ S0) (nO : TO ≠ S0)
    (hz : ZAt z TI TO i1 i2 S0 St1 St2 i h) (k : ∀ c u, c ≠ S0 → h.get? c = some u → h'.get? c = some u) : ZAt z TI TO i1 i2 S0 St1 St2 i h' := by
  obtain ⟨hTI, st1, st2, q⟩ := hz
  refine ⟨k _ _ nT hTI, D1.frame _ _ _ st1 fun b hb u e => k _ _ (fun z => n1' (z ▸ hb)) e, D2.frame _ _ _ st2 fun b hb u e => k _ _ (fun z => n2' (z ▸ hb)) e, ?_⟩
  rcases q with ⟨hz, a, b, hTO⟩ | ⟨T, f, oT, hz, hT, t1, t2, t3, t4⟩
  · exact .inl ⟨k _ _ nz hz, a, b, k _ _ nO hTO⟩
  · exact .inr ⟨T, f, oT, k _ _ nz hz, k _ _ t4 hT, t1, t2, t3, t4⟩
end
end CS
namespace CS
open PySem PySem.Spec PyProof.Rows L2
theorem zip_nolen : typeLookup (.type "zip") "__len__" = pure none := am_miss_of_fast (by decide +kernel)
theorem zip_nohint : typeLookup (.type "zip") "__length_hint__" = pure none := am_miss_of_fast (by decide +kernel)
/-- the j-th address of as holds the pair of the j-th of xs and the j-th of ys -/
def PairsAt (xs ys : List V) (as : List Addr) (H : Hp) : Prop := ∀ (j : Nat) (a : Addr) (x y : V), as[j]? = some a → xs[j]? = some x → ys[j]? = some y → H a = some (.tup [x, y])
section
variable {X : Cx} {pins : List (Addr × Obj)} {σ : L2.St} {s : Shared} {A : Around} {z TI TO i1 i2 S0 : Addr} {fp1 fp2 : List Addr} {St1 St2 : Nat → Heap → Prop} {xs ys : List V} {its1 its2 : List Value} {n1 n2 n : Nat} {H0 : Hp}
/-- what the loop that collects a zip has reached -/
structure ZGot (X : Cx) (pins : List (Addr × Obj)) (σ : L2.St) (s : Shared) (z TO i1 i2 S0 : Addr) (xs ys : List V) (H0 : Hp) (i : Nat) (h : Heap) (tk : Nat) (Hc : Hp) (acc : Array Value) (c : Nat) (as : List Addr) : Prop where
  inv : Inv X pins σ Hc { s with heap := h, toks := tk }
  lst : h.get? S0 = some { cls := .type "list", dict := none, data := .seq acc c, slots := #[] }
  acc : acc.toList = as.map Value.ref
  len : as.length = i
  fp : ∀ b ∈ [z, TO, i1, i2, S0], FpOk X pins Hc b
  same : Same H0 Hc
  good : PairsAt xs ys as Hc
theorem z_loop {R : Result → Shared → Prop} (S : ZipSep2 z TI TO i1 i2 fp1 fp2) (rx : Vals xs its1) (ry : Vals ys its2)
    (D1 : Draws X.prog X.w A.in1.in1 i1 fp1 xs.length (fun j v => its1[j]? = some v) St1) (D2 : Draws X.prog X.w A.in1.in1 i2 fp2 ys.length (fun j v => its2[j]? = some v) St2)
    (sf1 : S0 ∉ fp1) (sf2 : S0 ∉ fp2) (nT : TI ≠ S0) (nz : z ≠ S0) (nO : TO ≠ S0) (hn : n = min xs.length ys.length) (hfit : n ≤ sizeLine) (res : Value)
    (hR : ∀ h tk Hc acc c as, ZGot X pins σ s z TO i1 i2 S0 xs ys H0 n h tk Hc acc c as → R (.ok (.ret res)) { s with heap := h, toks := tk }) :
    ∀ (k i : Nat) (h : Heap) (tk : Nat) (Hc : Hp) (acc : Array Value) (c : Nat) (as : List Addr), n - i = k → i ≤ n → ZGot X pins σ s z TO i1 i2 S0 xs ys H0 i h tk Hc acc c as → ZAt z TI TO i1 i2 S0 St1 St2 i h → (∀ b ∈ [z, TO, i1, i2, S0], b < h.objs.size) →
    codeAny (model X.prog X.w) A (.builtin "list.extend.loop" ⟨[.ref S0, .ref z, res], []⟩) R { s with heap := h, toks := tk } := by
  intro k
  induction k with
  | zero =>
    intro i h tk Hc acc c as ek hi G zat low
    have ein : i = n := by omega
    subst ein
    refine codeAny_builtin F.entry_extend_loop ?_
    rw [Around.under_plainId F.plain_extend_loop _]
    show wpAny _ A.in1 (pyNext (.ref z) >>= _) _ _ _
    refine wpAny_bind (z_end S D1 D2 zat (by omega) (by omega) (by omega) fun h' tk' hk => ?_)
    have hS : z ≠ S0 ∧ i1 ≠ S0 ∧ i2 ≠ S0 := ⟨nz, fun q => sf1 (q ▸ S.mem1), fun q => sf2 (q ▸ S.mem2)⟩
    refine wpAny_pure (hR h' tk' Hc acc c as ⟨?_, hk _ _ nz.symm nO.symm hS.2.1.symm hS.2.2.symm G.lst, G.acc, G.len, G.fp, G.same, G.good⟩)
    exact G.inv.turnedL (s := { s with heap := h, toks := tk }) (t' := tk') (ch := [z, TO, i1, i2, S0]) (fun b u hb q => hk b u (fun e => hb (by simp [e])) (fun e => hb (by simp [e])) (fun e => hb (by simp [e])) (fun e => hb (by simp [e])) q) G.fp
  | succ k ih =>
    intro i h tk Hc acc c as ek hi G zat low
    have hS : z ≠ S0 ∧ i1 ≠ S0 ∧ i2 ≠ S0 := ⟨nz, fun q => sf1 (q ▸ S.mem1), fun q => sf2 (q ▸ S.mem2)⟩
    have hSlt : S0 < h.objs.size := Heap.lt_size G.lst
    refine codeAny_builtin F.entry_extend_loop ?_
    rw [Around.under_plainId F.plain_extend_loop _]
    show wpAny _ A.in1 (pyNext (.ref z) >>= _) _ _ _
    refine wpAny_bind (z_item (s := { s with heap := h, toks := tk }) S D1 D2 zat hSlt (by omega) (by omega) fun u v h' tk' hu hv zat' tp hsz hk => ?_)
    obtain ⟨x, hx, rxu⟩ : ∃ x, xs[i]? = some x ∧ RelV x u := by
      have hlt : i < xs.length := by omega
      obtain ⟨u', e1, e2⟩ := rx.get (List.getElem?_eq_getElem hlt)
      rw [e1] at hu
      cases hu
      exact ⟨_, List.getElem?_eq_getElem hlt, e2⟩
    obtain ⟨y, hy, ryv⟩ : ∃ y, ys[i]? = some y ∧ RelV y v := by
      have hlt : i < ys.length := by omega
      obtain ⟨u', e1, e2⟩ := ry.get (List.getElem?_eq_getElem hlt)
      rw [e1] at hv
      cases hv
      exact ⟨_, List.getElem?_eq_getElem hlt, e2⟩
    have hS' := hk _ _ nz.symm nO.symm hS.2.1.symm hS.2.2.symm G.lst
    have hT0 : Hc h.objs.size = none := G.inv.hok.fresh (Nat.le_refl _)
    have nw : ObjOk X.prog X.w (upd Hc h.objs.size (.tup [x, y])) h' h.objs.size (.tup [x, y]) := ⟨by show 2 ≤ sizeLine; decide, [u, v], .cons rxu (.cons ryv .nil), ⟨_, tp, rfl, _, rfl⟩⟩
    have I1 : Inv X pins σ (upd Hc h.objs.size (.tup [x, y])) { s with heap := h', toks := tk' } :=
      G.inv.turnedNew (s := { s with heap := h, toks := tk }) (t' := tk') (ch := [z, TO, i1, i2, S0]) (fun b q hb e => hk b q (fun e => hb (by simp [e])) (fun e => hb (by simp [e])) (fun e => hb (by simp [e])) (fun e => hb (by simp [e])) e) G.fp (Nat.le_refl _) nw
    have fp2' : ∀ b ∈ [z, TO, i1, i2, S0], FpOk X pins (upd Hc h.objs.size (.tup [x, y])) b := fun b hb => by
      obtain ⟨f0, fr⟩ := G.fp b hb
      refine ⟨?_, fr⟩
      have hlt : b ≠ h.objs.size := Nat.ne_of_lt (low b hb)
      rw [upd_ne hlt]
      exact f0
    show wpAny _ A.in1 (updateSeq S0 (·.push (.ref h.objs.size)) >>= _) _ _ _
    have esz : acc.size = i := by rw [← Array.length_toList, G.acc, List.length_map, G.len]
    refine wpAny_bind (wpAny_updateSeq (s := { s with heap := h', toks := tk' }) hS' rfl (wpAny_pure ⟨plainId_quiet F.plain_extend_loop _, ?_⟩) (by rw [esz]; omega) (by show (acc.push _).size ≤ sizeLine + 1; rw [Array.size_push, esz]; omega))
    have oth : ∀ b q, b ≠ S0 → h'.get? b = some q → (h'.update S0 (Obj.mapSeq (·.push (Value.ref h.objs.size)))).get? b = some q := fun b q hb e => (Heap.get?_update_other _ _ (Ne.symm hb)).trans e
    refine ih (i + 1) _ tk' (upd Hc h.objs.size (.tup [x, y])) (acc.push (.ref h.objs.size)) _ (as ++ [h.objs.size]) (by omega) (by omega) ⟨?_, Heap.get?_update_self _ hS' rfl, ?_, ?_, fp2', ?_, ?_⟩ (ZAt.through S D1 D2 sf1 sf2 nT nz nO zat' oth) (fun b hb => by
      have q := low b hb
      rw [(Heap.SameBut.update h' S0 _).1, hsz]
      exact Nat.lt_succ_of_lt q)
    · exact I1.turnedL (s := { s with heap := h', toks := tk' }) (t' := tk') (ch := [z, TO, i1, i2, S0]) (fun b q hb e => oth b q (fun e => hb (by simp [e])) e) fp2'
    · rw [Array.toList_push, G.acc, List.map_append]
      rfl
    · rw [List.length_append, G.len]
      rfl
    · exact fun b q e => by rw [upd_ne (ne_of_none (G.same b q e) hT0)]; exact G.same b q e
    · intro j a x' y' ha hx' hy'
      by_cases hj : j < i
      · have ha' : as[j]? = some a := by rw [List.getElem?_append_left (by rw [G.len]; exact hj)] at ha; exact ha
        have q := G.good j a x' y' ha' hx' hy'
        rw [upd_ne (ne_of_none q hT0)]
        exact q
      · have ej : j = i := by
          have q := (List.getElem?_eq_some_iff.mp ha).1
          rw [List.length_append, G.len, List.length_singleton] at q
          omega
        subst ej
        rw [List.getElem?_append_right (by rw [G.len]; exact Nat.le_refl _), G.len, Nat.sub_self] at ha
        have ea : h.objs.size = a := Option.some.inj ha
        rw [hx] at hx'
        rw [hy] at hy'
        cases hx'
        cases hy'
        rw [← ea]
        exact upd_same
/-- collecting a zip -/
theorem z_collect {Q : List Value → Shared → Prop} {E : Value → Shared → Prop} (S : ZipSep2 z TI TO i1 i2 fp1 fp2) (rx : Vals xs its1) (ry : Vals ys its2)
    (D1 : Draws X.prog X.w A.in1.in1 i1 fp1 xs.length (fun j v => its1[j]? = some v) St1) (D2 : Draws X.prog X.w A.in1.in1 i2 fp2 ys.length (fun j v => its2[j]? = some v) St2)
    (hn : n = min xs.length ys.length) (hfit : n ≤ sizeLine) (I : Inv X pins σ H0 s) (hz : IsZip s.heap z TI TO .none) (hTI : IsTupOf2 s.heap TI (.ref i1) (.ref i2)) (hTO : ∃ a b, IsTupOf2 s.heap TO a b) (st1 : St1 0 s.heap) (st2 : St2 0 s.heap)
    (l1 : ∀ b ∈ fp1, b < s.heap.objs.size) (l2 : ∀ b ∈ fp2, b < s.heap.objs.size) (fp0 : ∀ b ∈ [z, TO, i1, i2], FpOk X pins H0 b)
    (hq : ∀ h tk Hc as, Inv X pins σ Hc { s with heap := h, toks := tk } → as.length = n → Same H0 Hc → PairsAt xs ys as Hc → Q (as.map Value.ref) { s with heap := h, toks := tk }) :
    wpAny (model X.prog X.w) A (collect (.ref z)) Q E s := by
  have zl : z < s.heap.objs.size := Heap.lt_size hz
  have Tl : TI < s.heap.objs.size := Heap.lt_size hTI
  have Ol : TO < s.heap.objs.size := by obtain ⟨_, _, q⟩ := hTO; exact Heap.lt_size q
  have nm : ∀ {l : List Addr}, (∀ b ∈ l, b < s.heap.objs.size) → s.heap.objs.size ∉ l := fun h q => Nat.lt_irrefl _ (h _ q)
  unfold collect
  refine wpAny_bind (wpAny_runValue (codeAny_builtin F.entry_proto_collect ?_))
  rw [Around.under_plainId F.plain_proto_collect _]
  show wpAny _ A.in1 (newList [] >>= fun l => again (.builtin "list.__iadd__" ⟨[l, .ref z], []⟩)) _ _ s
  refine wpAny_bind (wpAny_newObj_type (wpAny_pure ⟨plainId_quiet F.plain_list_iadd _, codeAny_builtin F.entry_list_iadd ?_⟩))
  rw [Around.under_plainId F.plain_list_iadd _]
  have up : ∀ b u, s.heap.get? b = some u → (s.heap.push { cls := .type "list", data := .seq ([] : List Value).toArray }).get? b = some u := fun b u e => Heap.get?_push_of_some _ e
  have hL : (s.heap.push { cls := .type "list", data := .seq ([] : List Value).toArray }).get? s.heap.objs.size = some { cls := .type "list", data := .seq #[] } := Heap.get?_push_size _ rfl
  have zty : ({ s with heap := s.heap.push { cls := .type "list", data := .seq ([] : List Value).toArray } } : Shared).TypeIs (.ref z) "zip" := ⟨_, up _ _ hz, rfl⟩
  have e1 : Builtin.List.listSameRef (.ref s.heap.objs.size) (.ref z) = false := by simp [Builtin.List.listSameRef, Nat.ne_of_gt zl]
  have e2 : (Value.type "zip" == Value.type "list") = false := by decide
  have e3 : (Value.type "zip" == Value.type "tuple") = false := by decide
  show wpAny _ A.in1 (Builtin.List.listExtendWith (.ref s.heap.objs.size) (.ref z) (.ref s.heap.objs.size)) _ _ _
  unfold Builtin.List.listExtendWith
  refine wpAny_bind (wpAny_typeOf zty ?_)
  simp only [e1, e2, e3, Bool.or_false, Bool.false_eq_true, if_false]
  refine wpAny_bind (wpAny_pyIter_zip (up _ _ hz) (wpAny_bind (wpAny_holding ?_)))
  unfold Builtin.List.listLengthHint
  refine wpAny_bind (wpAny_specialOf zty zip_nolen ?_)
  show wpAny _ A.in1 (specialOf (Value.ref z) (Str.ofString "__length_hint__") >>= _) _ _ _
  refine wpAny_bind (wpAny_specialOf zty zip_nohint (wpAny_pure ?_))
  show wpAny _ A.in1 (rule "list.extend.makes-room" >>= fun _ => Builtin.List.listTouch (.ref s.heap.objs.size) >>= fun _ =>
    again (.builtin "list.extend.loop" ⟨[.ref s.heap.objs.size, .ref z, .ref s.heap.objs.size], []⟩)) _ _ _
  refine wpAny_bind (wpAny_rule (wpAny_bind ?_))
  show wpAny _ A.in1 (updateSeq s.heap.objs.size (·.push .none) >>= fun _ => updateSeq s.heap.objs.size (·.pop)) _ _ _
  refine wpAny_bind (wpAny_updateSeq hL rfl ?_)
  have hL2 := Heap.get?_update_self (Obj.mapSeq (·.push Value.none)) hL rfl
  refine wpAny_updateSeq hL2 rfl ?_
  have hL3 := Heap.get?_update_self (Obj.mapSeq (·.pop)) hL2 rfl
  have oth : ∀ b u, b ≠ s.heap.objs.size → (s.heap.push { cls := .type "list", data := .seq ([] : List Value).toArray }).get? b = some u →
      (((s.heap.push { cls := .type "list", data := .seq ([] : List Value).toArray }).update s.heap.objs.size (Obj.mapSeq (·.push Value.none))).update s.heap.objs.size (Obj.mapSeq (·.pop))).get? b = some u :=
    fun b u hb e => (Heap.get?_update_other _ _ (Ne.symm hb)).trans ((Heap.get?_update_other _ _ (Ne.symm hb)).trans e)
  have old : ∀ b u, s.heap.get? b = some u → (((s.heap.push { cls := .type "list", data := .seq ([] : List Value).toArray }).update s.heap.objs.size (Obj.mapSeq (·.push Value.none))).update s.heap.objs.size (Obj.mapSeq (·.pop))).get? b = some u :=
    fun b u e => oth b u (Nat.ne_of_lt (Heap.lt_size e)) (up b u e)
  have esz : (((s.heap.push { cls := .type "list", data := .seq ([] : List Value).toArray }).update s.heap.objs.size (Obj.mapSeq (·.push Value.none))).update s.heap.objs.size (Obj.mapSeq (·.pop))).objs.size = s.heap.objs.size + 1 := by
    rw [(Heap.SameBut.update _ _ _).1, (Heap.SameBut.update _ _ _).1, Heap.size_push]
  refine wpAny_pure ⟨plainId_quiet F.plain_extend_loop _, z_loop (X := X) (pins := pins) (σ := σ) (s := s) (xs := xs) (ys := ys) (H0 := H0) S rx ry D1 D2 (nm l1) (nm l2) (Nat.ne_of_lt Tl) (Nat.ne_of_lt zl) (Nat.ne_of_lt Ol) hn hfit _
    (fun h tk Hc acc c as G => ?_) n 0 _ s.toks H0 #[] _ [] (Nat.sub_zero _) (Nat.zero_le _) ⟨I.kept (t' := s.toks) old, hL3, rfl, rfl, fun b hb => ?_, fun _ _ e => e, fun j a x y ha => by cases ha⟩ ⟨old _ _ hTI, D1.frame _ _ _ st1 fun b _ u e => old b u e, D2.frame _ _ _ st2 fun b _ u e => old b u e, .inl ⟨old _ _ hz, ?_⟩⟩ fun b hb => ?_⟩
  · show wpAny _ A (load s.heap.objs.size >>= _) _ _ _
    refine wpAny_bind (wpAny_load G.lst (wpAny_pure ?_))
    show Q acc.toList _
    rw [G.acc]
    exact hq h tk Hc as G.inv G.len G.same G.good
  · by_cases e : b = s.heap.objs.size
    · rw [e]
      exact I.fpOk (Nat.le_refl _) (I.hok.fresh (Nat.le_refl _))
    · exact fp0 b (by
        have q : b = z ∨ b = TO ∨ b = i1 ∨ b = i2 ∨ b = s.heap.objs.size := by simpa using hb
        rcases q with q | q | q | q | q
        · simp [q]
        · simp [q]
        · simp [q]
        · simp [q]
        · exact absurd q e)
  · obtain ⟨a, b, q⟩ := hTO
    exact ⟨a, b, old _ _ q⟩
  · rw [esz]
    have q : b = z ∨ b = TO ∨ b = i1 ∨ b = i2 ∨ b = s.heap.objs.size := by simpa using hb
    rcases q with q | q | q | q | q
    · rw [q]; exact Nat.lt_succ_of_lt zl
    · rw [q]; exact Nat.lt_succ_of_lt Ol
    · rw [q]; exact Nat.lt_succ_of_lt (l1 _ S.mem1)
    · rw [q]; exact Nat.lt_succ_of_lt (l2 _ S.mem2)
    · rw [q]; exact Nat.lt_succ_self _
end
end CS
namespace CS
open PySem PySem.Spec PyProof.Rows L2
section
variable {prog : Program} {w : World} {A : Around} {E : Value → Shared → Prop} {s : Shared}
/-- what collecting an object gives, as lists of values -/
def Coll (prog : Program) (w : World) (A : Around) (s : Shared) (z : Addr) (G : Heap → Nat → List Value → Prop) : Prop :=
  ∀ (E : Value → Shared → Prop) (Q : List Value → Shared → Prop), (∀ h tk vs, G h tk vs → Q vs { s with heap := h, toks := tk }) → wpAny (model prog w) A (collect (.ref z)) Q E s
theorem tupcoll_code {Q₁ : Value → Shared → Prop} {z : Addr} {G : Heap → Nat → List Value → Prop} (hT : s.TypeIs (.ref z) "zip") (C : Coll prog w A.in1 s z G) (hfit : ∀ h tk vs, G h tk vs → vs.length ≤ sizeLine)
    (hq : ∀ h tk vs, G h tk vs → Q₁ (.ref h.objs.size) { s with heap := h.push { cls := .type "tuple", data := .seq vs.toArray }, toks := tk }) :
    codeAny (model prog w) A (.call (.builtin "tuple.__new__") ⟨[.type "tuple", .ref z], []⟩) (wants Q₁ E) s := by
  refine codeAny_of_tree ?_
  show wpAny _ A.in1 (do checkBuiltinCall "tuple.__new__" ⟨[.type "tuple", .ref z], []⟩; again (.builtin "tuple.__new__" ⟨[.type "tuple", .ref z], []⟩)) _ _ s
  refine wpAny_bind (wpAny_of_eq (F.newCall_tuple_1 _) (wpAny_pure ⟨plainId_quiet F.plain_tuple_new _, codeAny_builtin F.entry_tuple_new ?_⟩))
  rw [Around.under_plainId F.plain_tuple_new _]
  have q1 := sub_tuple_self
  have q2 := init_tuple_lookup
  have q3 := madeHere_tuple
  have cc : ∀ {E : Value → Shared → Prop} {Q : List Value → Shared → Prop}, (∀ h tk vs, G h tk vs → Q vs { s with heap := h, toks := tk }) → wpAny (model prog w) A.in1 (collect (.ref z)) Q E s := fun h => C _ _ h
  wp_walk using wpAny_typeOf hT, cc
  intro h tk vs g
  show wpAny _ _ (Builtin.Tuple.tupleExact vs.toArray >>= fun v => ret v) _ _ _
  unfold Builtin.Tuple.tupleExact
  refine wpAny_bind (wpAny_newObj_type (wpAny_pure ?_) (by show vs.toArray.size ≤ sizeLine; rw [List.size_toArray]; exact hfit h tk vs g))
  exact hq h tk vs g
theorem tupcoll_call {Q : Value → Shared → Prop} {z : Addr} {G : Heap → Nat → List Value → Prop} (hT : s.TypeIs (.ref z) "zip") (C : Coll prog w A.in1.in1 s z G) (hfit : ∀ h tk vs, G h tk vs → vs.length ≤ sizeLine)
    (hq : ∀ h tk vs, G h tk vs → Q (.ref h.objs.size) { s with heap := h.push { cls := .type "tuple", data := .seq vs.toArray }, toks := tk }) :
    wpAny (model prog w) A (call (.type "tuple") [.ref z]) Q E s := by
  refine callType_codes (Q₁ := fun obj s₁ => s₁.TypeIs obj "tuple" ∧ Q obj s₁) F.called_tuple (F.typeCall_tuple_1 _) F.entry_object_init (tupcoll_code (A := A.in1) hT C hfit fun h tk vs g => ⟨⟨_, Heap.get?_push_size _ rfl, rfl⟩, hq h tk vs g⟩) fun obj s₁ h₁ => ?_
  exact ⟨h₁.1, F.args_object_init_2 obj _, object_init_meets F.called_tuple.init.lookup F.called_tuple.made (by decide) prog w A.in1 _ s₁ ⟨h₁.1, rfl, h₁.2⟩⟩
end
section
variable {X : Cx}
/-- tuple(zip(x, y)), x and y both lists or both tuples: a new tuple of new pairs -/
def tTupZip (K : PySem.W.Frag) (ta : TA) : TE := fun σ H Q => ta σ H fun vs H1 => ∃ (a b : Addr) (xs ys : List V), vs = [.ref a, .ref b] ∧ ((SqT K H1 a xs ∧ SqT K H1 b ys) ∨ (SqL K H1 a xs ∧ SqL K H1 b ys)) ∧
  ∀ (Hc : Hp) (p : Addr) (as : List Addr), Same H1 Hc → as.length = min xs.length ys.length → PairsAt xs ys as Hc → Hc p = none → Q (.ref p) (upd Hc p (.tup (as.map V.ref)))
theorem lt_of_tuple {s : Shared} {a : Addr} {its : Array Value} (p : IsTup s.heap a its) : a < s.heap.objs.size := by
  obtain ⟨u, hu, _⟩ := p
  exact Heap.lt_size hu
theorem lt_of_plain {s : Shared} {a : Addr} {its : Array Value} (p : PlainL s.heap a its) : a < s.heap.objs.size := p.lt
theorem pe_tupZip {e e2 : Expr} {ta : TA} {p p2 pos q2 : Pos} (gT : Gl X "tuple") (mT : X.mg "tuple" = none) (gZ : Gl X "zip") (mZ : X.mg "zip" = none) (ha : PA X [e, e2] ta) (hc : X.calm = true := by rfl)
    (na : starEach [.Call (.Name "zip" p2) [e, e2] [] q2] X.env = (false, eval (.Call (.Name "zip" p2) [e, e2] [] q2) X.env) :: starEach [] X.env := by rfl)
    (hs : starEach [e, e2] X.env = (false, eval e X.env) :: starEach [e2] X.env := by rfl) (hpl : (backTo q2 (starEach [e2] X.env)).any (·.1) = false := by rfl) :
    PE X (.Call (.Name "tuple" p) [.Call (.Name "zip" p2) [e, e2] [] q2] [] pos) (tTupZip X.K ta) := by
  refine ⟨fun pins s0 σ H0 Q I0 hw => ?_⟩
  refine Call_ (ld_blt I0 gT mT boot_tuple (PyProof.Rows.callWith_type1 (PyProof.Rows.args_cons ?_ na) na))
  refine Call_ (ld_blt I0 gZ mZ PyProof.Rows.boot_zip (PyProof.Rows.callWith_type1 (thn (ha.run q2 pins s0 σ H0 _ I0 hw) fun us s1 ⟨vs, H1, I1, r1, q1⟩ => ?_) hs hpl))
  obtain ⟨a, b, xs, ys, rfl, hsq, q⟩ := q1
  obtain ⟨u1, u2, rfl, ra, rb⟩ := vals2 r1
  cases ra
  cases rb
  have hh : X.A.handled = none := I1.ok.hd hc
  have key : ∀ (o1 o2 : Obj) (F1 F2 : Heap → Prop) (its1 its2 : List Value) (St1 St2 : Nat → Heap → Prop), Begins (.ref a) o1 F1 → Begins (.ref b) o2 F2 → F1 s1.heap → F2 s1.heap → Vals xs its1 → Vals ys its2 → xs.length ≤ sizeLine → a < s1.heap.objs.size → b < s1.heap.objs.size →
      Draws X.prog X.w X.A.in1.in1.in1.in1 s1.heap.objs.size [s1.heap.objs.size, a] xs.length (fun j v => its1[j]? = some v) St1 → Draws X.prog X.w X.A.in1.in1.in1.in1 (s1.heap.objs.size + 1) [s1.heap.objs.size + 1, b] ys.length (fun j v => its2[j]? = some v) St2 →
      (∀ h', h'.get? s1.heap.objs.size = some o1 → (∀ c u, s1.heap.get? c = some u → h'.get? c = some u) → St1 0 h') → (∀ h', h'.get? (s1.heap.objs.size + 1) = some o2 → (∀ c u, s1.heap.get? c = some u → h'.get? c = some u) → St2 0 h') →
      wpAny (model X.prog X.w) X.A (call (.type "zip") [.ref a, .ref b]) (fun v s' => wpAny (model X.prog X.w) X.A (spliced (backTo pos (starEach [] X.env))) (fun vs s'' => wpAny (model X.prog X.w) X.A (call (.type "tuple") (v :: vs)) (EP X pins σ Q) X.xe s'') X.xe s') X.xe s1 := by
    intro o1 o2 F1 F2 its1 its2 St1 St2 B1 B2 f1 f2 rx ry hz al bl D1 D2 k1 k2
    refine zip_begins2 B1 B2 f1 f2 fun h' hzp hTI hTO g1 g2 hsz hk => ?_
    refine PyProof.Rows.args_nil ?_
    have I2 : Inv X pins σ H1 { s1 with heap := h' } := I1.kept (t' := s1.toks) hk
    have S := zip_sep2 (N := s1.heap.objs.size) (fp1 := [a]) (fp2 := [b]) (fun c hc => by rw [List.mem_singleton.mp hc]; exact al) (fun c hc => by rw [List.mem_singleton.mp hc]; exact bl)
    refine tupcoll_call (s := { s1 with heap := h' }) (G := fun h tk vs => ∃ Hc as, vs = as.map Value.ref ∧ Inv X pins σ Hc { s1 with heap := h, toks := tk } ∧ as.length = min xs.length ys.length ∧ Same H1 Hc ∧ PairsAt xs ys as Hc) ⟨_, hzp, rfl⟩
      (fun E' Q' hQ' => z_collect (A := X.A.in1.in1) (s := { s1 with heap := h' }) (pins := pins) (σ := σ) (n := min xs.length ys.length) S rx ry D1 D2 rfl (by omega) I2 hzp hTI ⟨_, _, hTO⟩ (k1 h' g1 hk) (k2 h' g2 hk) ?_ ?_ ?_ fun h tk Hc as J l sm pr => hQ' h tk _ ⟨Hc, as, rfl, J, l, sm, pr⟩)
      ?_ ?_
    · intro c hc
      have hc' : c = s1.heap.objs.size ∨ c = a := by simpa using hc
      show c < h'.objs.size
      rw [hsz]
      rcases hc' with e | e
      · rw [e]; exact Nat.lt_add_of_pos_right (by decide)
      · rw [e]; exact Nat.lt_of_lt_of_le al (Nat.le_add_right _ _)
    · intro c hc
      have hc' : c = s1.heap.objs.size + 1 ∨ c = b := by simpa using hc
      show c < h'.objs.size
      rw [hsz]
      rcases hc' with e | e
      · rw [e]; exact Nat.add_lt_add_left (by decide) _
      · rw [e]; exact Nat.lt_of_lt_of_le bl (Nat.le_add_right _ _)
    · intro c hc
      have hle : s1.heap.objs.size ≤ c := by
        have hc' : c = s1.heap.objs.size + 4 ∨ c = s1.heap.objs.size + 3 ∨ c = s1.heap.objs.size ∨ c = s1.heap.objs.size + 1 := by simpa using hc
        rcases hc' with e | e | e | e
        · rw [e]; exact Nat.le_add_right _ _
        · rw [e]; exact Nat.le_add_right _ _
        · rw [e]; exact Nat.le_refl _
        · rw [e]; exact Nat.le_add_right _ _
      exact I1.fpOk hle (I1.hok.fresh hle)
    · rintro h tk vs ⟨Hc, as, rfl, _, l, _, _⟩
      rw [List.length_map, l]
      omega
    · rintro h tk vs ⟨Hc, as, rfl, J, l, sm, pr⟩
      have rvs : Vals (as.map V.ref) (as.map Value.ref) := by
        clear l pr
        induction as with
        | nil => exact .nil
        | cons x t ih => exact .cons rfl ih
      refine ⟨.ref h.objs.size, upd Hc h.objs.size (.tup (as.map V.ref)), J.laid (s := { s1 with heap := h, toks := tk }) (t' := tk) (fun c u e => Heap.get?_push_of_some _ e) (Nat.le_refl _) ?_, rfl, q Hc _ as sm l pr (J.hok.fresh (Nat.le_refl _))⟩
      exact ⟨by rw [List.length_map, l]; omega, _, rvs, IsTup.new _ _⟩
  rcases hsq with ⟨hx, hy⟩ | ⟨hx, hy⟩
  · obtain ⟨its1, rx, px, hzx⟩ := I1.tuple hx
    obtain ⟨its2, ry, py, hzy⟩ := I1.tuple hy
    have ax := lt_of_tuple px
    have ay := lt_of_tuple py
    have D1 := Draws.tuple (prog := X.prog) (w := X.w) (A := X.A.in1.in1.in1.in1) hh s1.heap.objs.size a (Nat.ne_of_lt ax) its1.toArray
    have D2 := Draws.tuple (prog := X.prog) (w := X.w) (A := X.A.in1.in1.in1.in1) hh (s1.heap.objs.size + 1) b (Nat.ne_of_lt (Nat.lt_succ_of_lt ay)) its2.toArray
    have e1 : its1.toArray.size = xs.length := by rw [List.size_toArray]; exact rx.length.symm
    have e2 : its2.toArray.size = ys.length := by rw [List.size_toArray]; exact ry.length.symm
    rw [e1] at D1
    rw [e2] at D2
    simp only [List.getElem?_toArray] at D1 D2
    exact key _ _ _ _ its1 its2 _ _ (begins_tuple a its1.toArray) (begins_tuple b its2.toArray) px py rx ry hzx ax ay D1 D2 (fun h' g k => ⟨⟨_, g, rfl, rfl⟩, (show s1.heap.IsTuple a its1.toArray from px).at fun u e => k _ u e⟩) (fun h' g k => ⟨⟨_, g, rfl, rfl⟩, (show s1.heap.IsTuple b its2.toArray from py).at fun u e => k _ u e⟩)
  · obtain ⟨its1, rx, px, hzx⟩ := I1.list hx
    obtain ⟨its2, ry, py, hzy⟩ := I1.list hy
    have ax := lt_of_plain px
    have ay := lt_of_plain py
    have D1 := Draws.list (prog := X.prog) (w := X.w) (A := X.A.in1.in1.in1.in1) hh s1.heap.objs.size a (Nat.ne_of_lt ax) its1.toArray
    have D2 := Draws.list (prog := X.prog) (w := X.w) (A := X.A.in1.in1.in1.in1) hh (s1.heap.objs.size + 1) b (Nat.ne_of_lt (Nat.lt_succ_of_lt ay)) its2.toArray
    have e1 : its1.toArray.size = xs.length := by rw [List.size_toArray]; exact rx.length.symm
    have e2 : its2.toArray.size = ys.length := by rw [List.size_toArray]; exact ry.length.symm
    rw [e1] at D1
    rw [e2] at D2
    simp only [List.getElem?_toArray] at D1 D2
    exact key _ _ _ _ its1 its2 _ _ (begins_list a its1.toArray) (begins_list b its2.toArray) px.isList py.isList rx ry hzx ax ay D1 D2 (fun h' g k => ⟨⟨_, g, rfl, rfl⟩, px.isList.at fun u e => k _ u e⟩) (fun h' g k => ⟨⟨_, g, rfl, rfl⟩, py.isList.at fun u e => k _ u e⟩)
end
end CS
namespace CS
open PySem PySem.Spec PySem.Calls PyProof.Rows
/-! ### sorted of a tuple -/
section
variable {prog : Program} {w : World} {A : Around} {E : Value → Shared → Prop} {s : Shared}
theorem gather_tup {q : Addr} {ws : List Value} {o : Obj} {n : Nat} {R : List Value → Shared → Prop} (e1 : s.heap.get? q = some o) (e2 : o.cls = .type "tuple") (e3 : o.data = .seq ws.toArray n) (hz : ws.length ≤ sizeLine)
    (k : R ws { s with heap := (s.heap.push (seqObj "list" #[] 0)).update s.heap.objs.size (Obj.mapSeq (· ++ ws.toArray)) }) : wpAny (model prog w) A (collect (.ref q)) R E s := by
  have f1 : (s.heap.push (seqObj "list" #[] 0)).get? q = some o := Heap.get?_push_of_some _ e1
  have f2 : (s.heap.push (seqObj "list" #[] 0)).get? s.heap.objs.size = some (seqObj "list" #[] 0) := Heap.get?_push_size _ rfl
  unfold collect
  refine wpAny_bind (wpAny_runValue (codeAny_builtin entry_proto_collect' ?_))
  show wpAny _ _ (newList [] >>= fun l => again (.builtin "list.__iadd__" ⟨[l, .ref q], []⟩)) _ _ s
  refine wpAny_bind (wpAny_newList ?_)
  refine wpAny_pure ⟨Code.quiet_builtin _ (by decide +kernel), codeAny_builtin entry_list_iadd' ?_⟩
  show wpAny _ _ (Builtin.List.listExtendWith (.ref s.heap.objs.size) (.ref q) (.ref s.heap.objs.size)) _ _ { s with heap := s.heap.push (seqObj "list" #[] 0) }
  unfold Builtin.List.listExtendWith
  refine wpAny_bind (wpAny_typeOf (T := "tuple") ⟨o, f1, e2⟩ ?_)
  have tt : (Value.type "tuple" == Value.type "tuple") = true := by rfl
  rw [if_pos (by rw [tt]; simp)]
  refine wpAny_bind (listItems_at f1 e3 ?_)
  refine wpAny_bind (listItems_at (xs := #[]) (n := 0) f2 rfl ?_)
  rw [if_neg (by simp)]
  refine wpAny_bind (listUpdate_at (xs := #[]) (n := 0) f2 rfl ?_ (Nat.zero_le _) ?_)
  · refine wpAny_pure ?_
    refine wpAny_bind (wpAny_load (get?_update_seq f2 _) ?_)
    show wpAny _ _ (pure ((#[] : Array Value) ++ ws.toArray).toList) R E _
    have e : ((#[] : Array Value) ++ ws.toArray).toList = ws := by simp
    rw [e]
    exact wpAny_pure k
  · show (#[] ++ ws.toArray).size ≤ sizeLine + 1
    simp only [Array.size_append, List.size_toArray, List.length_nil]
    omega
theorem sorted_tup_by {q : Addr} {ws : List Value} {o : Obj} {n : Nat} {R : Value → Shared → Prop} (e1 : s.heap.get? q = some o) (e2 : o.cls = .type "tuple") (e3 : o.data = .seq ws.toArray n) (hz : ws.length ≤ sizeLine)
    (inner : ∀ E' : Value → Shared → Prop, wpAny (model prog w) A.in1.in1 (Builtin.«list.sort» ⟨[.ref (s.heap.objs.size + 1)], []⟩) (fun f s' => f = .done (.ret .none) ∧ R (.ref (s.heap.objs.size + 1)) s') E' { s with heap := PySem.W.copyHeap s.heap ws }) :
    wpAny (model prog w) A (call (.builtin "sorted") [.ref q]) R E s := by
  refine call_function_entry kind_sorted plain_sorted entry_sorted (args_sorted1 _) ?_
  unfold Builtin.«sorted»
  refine wpAny_bind (m := checkCount "sorted" 1 1 _) (wpAny_pure ?_)
  refine wpAny_bind (gather_tup e1 e2 e3 hz ?_)
  refine wpAny_bind (wpAny_newList ?_ hz)
  have sz : ((s.heap.push (seqObj "list" #[] 0)).update s.heap.objs.size (Obj.mapSeq (· ++ ws.toArray))).objs.size = s.heap.objs.size + 1 := by
    rw [Heap.size_update, size_push']
  show wpAny _ _ _ _ _ { s with heap := PySem.W.copyHeap s.heap ws }
  rw [sz]
  refine wpAny_bind (wpAny_holding (wpAny_call_entry slot_list_sort ⟨_, PySem.W.copyHeap_at s.heap ws, rfl⟩ entry_list_sort ?g (args_list_sort _)))
  case g =>
    show wpAny (model prog w) A.in1.in1 (Builtin.«list.sort» ⟨[.ref (s.heap.objs.size + 1)], []⟩) _ _ _
    refine wpAny_mono (inner _) (fun f s' hf => ?_) fun _ _ e => e
    obtain ⟨rfl, hq⟩ := hf
    exact ⟨_, rfl, wpAny_pure ⟨_, rfl, hq⟩⟩
theorem sorted_tup_data {β : Type} {q : Addr} {ws : List Value} {o : Obj} {n : Nat} {bs : List β} {enc : β → PyData} {T : Value → β → Prop} {R : Value → Shared → Prop} (e1 : s.heap.get? q = some o) (e2 : o.cls = .type "tuple") (e3 : o.data = .seq ws.toArray n)
    (e : PySem.W.EachIs T ws bs) (er : PySem.W.EachIs (fun v b => ∃ as, Reads s.heap v (enc b) as) ws bs) (hal : PySem.W.AllAlike (bs.map enc)) (hk : PySem.W.Sortable (bs.map enc)) (hL : bs.length ≤ sizeLine) (hu : ∀ b, b ∈ bs → A.units + 2 + (enc b).depth < cLine)
    (k : ∀ out, out.length = bs.length → PySem.W.EachIs T out (bs.mergeSort (PySem.W.dataLe false enc)) → R (.ref (s.heap.objs.size + 1)) { s with heap := sortedAll s.heap ws (List.toArray out) }) :
    wpAny (model prog w) A (call (.builtin "sorted") [.ref q]) R E s := by
  have hL2 : ws.length ≤ sizeLine := by
    rw [e.length]
    exact hL
  have er2 : PySem.W.EachIs (fun v b => ∃ as, Reads (PySem.W.sortingHeap (PySem.W.copyHeap s.heap ws) (s.heap.objs.size + 1) ws) v (enc b) as) ws bs := er.mono fun _ _ h => by
    obtain ⟨as, r⟩ := h
    exact ⟨as, PyProof.Rows.Reads.keeps (fun _ _ => PySem.W.sorting_copy_old) r⟩
  have S := PySem.W.SortsAt.data (prog := prog) (w := w) (A := A.in1.in1) (s := { s with heap := PySem.W.sortingHeap (PySem.W.copyHeap s.heap ws) (s.heap.objs.size + 1) ws }) (PySem.W.each_map (R := fun v d => ∃ as, Reads (PySem.W.sortingHeap (PySem.W.copyHeap s.heap ws) (s.heap.objs.size + 1) ws) v d as) enc er2) hal hk (PySem.W.bound_map hu)
  refine sorted_tup_by e1 e2 e3 hL2 fun E' => ?_
  refine PySem.W.list_sort_vals (s := { s with heap := PySem.W.copyHeap s.heap ws }) (PySem.W.copyHeap_at s.heap ws) S hL2 ⟨rfl, ?_⟩
  exact k _ (by rw [PySem.W.sortVals_length false rfl]; exact e.length) (PySem.W.sortVals_data false e er2 hal)
end
end CS
namespace CS
open PySem PySem.Spec PyProof.Rows L2
/-! ### sorted of a list of data -/
def ordD (z y : V × PyData) : Bool := PySem.W.dataLe false (fun b : V × PyData => b.2) z y
def rSortedD (K : PySem.W.Frag) : List V → Hp → VK → Prop := fun vs H Q => ∃ (a : Addr) (zs : List (V × PyData)), vs = [V.ref a] ∧ (SqL K H a (zs.map Prod.fst) ∨ SqT K H a (zs.map Prod.fst)) ∧ (∀ z ∈ zs, Dp K H z.1 z.2) ∧ PySem.W.AllAlike (zs.map Prod.snd) ∧ PySem.W.Sortable (zs.map Prod.snd) ∧ (∀ z ∈ zs, z.2.depth ≤ 60) ∧
  ∀ p, H p = none → Q (.ref p) (upd H p (.lst ((zs.mergeSort ordD).map Prod.fst)))
theorem each_of_vals {α β : Type} {R : Value → α → Prop} (f : α → V) (hR : ∀ b u, RelV (f b) u → R u b) : ∀ {bs : List α} {us : List Value}, Vals (bs.map f) us → PySem.W.EachIs R us bs
  | [], [], .nil => .nil
  | b :: bs, u :: us, .cons h t => .cons (hR b u h) (each_of_vals (β := β) f hR t)
theorem vals_of_each {α : Type} (f : α → V) : ∀ {bs : List α} {us : List Value}, PySem.W.EachIs (fun u b => RelV (f b) u) us bs → Vals (bs.map f) us
  | [], [], .nil => .nil
  | _ :: _, _ :: _, .cons h t => .cons h (vals_of_each f t)
section
variable {X : Cx}
theorem cr_sortedDt (hu : X.A.units + 64 < cLine) : CallR X (.builtin "sorted") (rSortedD X.K) := by
  intro pins s σ H vs us Q I r h
  obtain ⟨a, zs, rfl, hs, hd, hal, hso, hdp, q⟩ := h
  obtain ⟨u, rfl, ru⟩ := vals1 r
  obtain rfl : u = Value.ref a := ru
  have each : ∀ its : List Value, Vals (zs.map Prod.fst) its → PySem.W.EachIs (fun u (b : V × PyData) => RelV b.1 u) its zs ∧ PySem.W.EachIs (fun u (b : V × PyData) => ∃ as, Reads s.heap u b.2 as) its zs := by
    intro its rv
    have e1 : PySem.W.EachIs (fun u (b : V × PyData) => RelV b.1 u) its zs := each_of_vals (β := Unit) Prod.fst (fun b u h => h) rv
    have aux : ∀ (zs : List (V × PyData)) (its : List Value), (∀ z ∈ zs, Dp X.K H z.1 z.2) → PySem.W.EachIs (fun u (b : V × PyData) => RelV b.1 u) its zs → PySem.W.EachIs (fun u (b : V × PyData) => ∃ as, Reads s.heap u b.2 as) its zs := by
      intro zs
      induction zs with
      | nil =>
        intro its _ e
        cases e
        exact .nil
      | cons z zs ih =>
        intro its hd e
        cases e with
        | cons h t => exact .cons (Dp.reads I _ _ _ (hd z (List.mem_cons_self ..)) h) (ih _ (fun y hy => hd y (List.mem_cons_of_mem _ hy)) t)
    exact ⟨e1, aux zs its hd e1⟩
  have fin : ∀ its out : List Value, zs.length ≤ sizeLine → PySem.W.EachIs (fun u (b : V × PyData) => RelV b.1 u) out (zs.mergeSort (PySem.W.dataLe false fun b : V × PyData => b.2)) → EP X pins σ Q (.ref (s.heap.objs.size + 1)) { s with heap := sortedAll s.heap its (List.toArray out) } := by
    intro its out hL eo
    obtain ⟨n, hn⟩ := sortedAll_at s.heap its (List.toArray out)
    have nf : H (s.heap.objs.size + 1) = none := I.hok.fresh (Nat.le_succ _)
    have hv : Vals ((zs.mergeSort ordD).map Prod.fst) out := vals_of_each Prod.fst eo
    refine ⟨.ref (s.heap.objs.size + 1), upd H (s.heap.objs.size + 1) (.lst ((zs.mergeSort ordD).map Prod.fst)), I.laid (t' := s.toks) (fun b o e => sortedAll_old e) (Nat.le_succ _) ⟨?_, out, n, hv, hn⟩, rfl, q _ nf⟩
    rw [List.length_map, List.length_mergeSort]
    exact hL
  rcases hs with hs | hs
  · obtain ⟨its, rv, hl, hz⟩ := I.list hs
    obtain ⟨e1, e2⟩ := each its rv
    have hL : zs.length ≤ sizeLine := by
      rw [← e1.length, ← rv.length]
      exact hz
    refine PySem.W.sorted_data (enc := fun b : V × PyData => b.2) hl.isList e1 e2 hal hso hL (fun b hb => ?_) fun out ho eo => fin its out hL eo
    have := hdp b hb
    omega
  · obtain ⟨its, rv, pl, hz⟩ := I.tuple hs
    obtain ⟨e1, e2⟩ := each its rv
    obtain ⟨o, g1, g2, n, g3⟩ := pl
    have hL : zs.length ≤ sizeLine := by
      rw [← e1.length, ← rv.length]
      exact hz
    refine sorted_tup_data (enc := fun b : V × PyData => b.2) g1 g2 g3 e1 e2 hal hso hL (fun b hb => ?_) fun out ho eo => fin its out hL eo
    have := hdp b hb
    omega
end
/-! ### pairs of texts -/
def tx (p : Str × Str) : PyData := .tuple [.str p.1, .str p.2]
theorem tx_alike (l : List (Str × Str)) : PySem.W.AllAlike (l.map tx) := PySem.W.AllAlike.of fun b b' => by
  simp [tx, PySem.W.alike, PySem.W.alikeAll]
theorem tx_sortable (l : List (Str × Str)) : PySem.W.Sortable (l.map tx) := PySem.W.Sortable.tuples fun b => ⟨_, _, rfl⟩
theorem tx_depth (p : Str × Str) : (tx p).depth ≤ 60 := by
  simp [tx, PyData.depth, PyData.depthAll]
def leP (p q : Str × Str) : Bool := PySem.W.dataLe false tx p q
theorem leP_total : PySem.W.TotalLe leP := PySem.W.sortLe_total (listOrd itemOrd) false fun b => PySem.W.keyToks (tx b)
theorem eqv_str (a b : Str) : PyData.eqv (.str a) (.str b) = decide (a = b) := by
  simp only [PyData.eqv]
  exact Bool.beq_eq_decide_eq a b
theorem lt_str_anti {a b : Str} (h1 : PySem.W.dataLt (.str a) (.str b) = false) (h2 : PySem.W.dataLt (.str b) (.str a) = false) : a = b := by
  rw [PySem.W.dataLt_str, decide_eq_false_iff_not] at h1 h2
  exact PySem.W.str_of_cps (List.le_antisymm (List.not_lt.mp h2) (List.not_lt.mp h1))
theorem leP_anti {p q : Str × Str} (h1 : leP p q = true) (h2 : leP q p = true) : p = q := by
  obtain ⟨a, b⟩ := p
  obtain ⟨c, d⟩ := q
  have g1 : PySem.W.dataLt (tx (c, d)) (tx (a, b)) = false := by
    have : (!PySem.W.dataLt (tx (c, d)) (tx (a, b))) = true := h1
    simpa using this
  have g2 : PySem.W.dataLt (tx (a, b)) (tx (c, d)) = false := by
    have : (!PySem.W.dataLt (tx (a, b)) (tx (c, d))) = true := h2
    simpa using this
  have al : ∀ x y : Str, PySem.W.alike (.str x) (.str y) = true := fun x y => by simp [PySem.W.alike]
  unfold tx at g1 g2
  rw [PySem.W.dataLt_pair (al _ _) (al _ _), eqv_str, eqv_str] at g1 g2
  by_cases e1 : a = c
  · subst e1
    rw [if_pos (decide_eq_true rfl)] at g1 g2
    by_cases e2 : b = d
    · rw [e2]
    · rw [if_neg (by simpa using fun z => e2 z.symm)] at g1
      rw [if_neg (by simpa using e2)] at g2
      exact absurd (lt_str_anti g2 g1) e2
  · rw [if_neg (by simpa using fun z => e1 z.symm)] at g1
    rw [if_neg (by simpa using e1)] at g2
    exact absurd (lt_str_anti g2 g1) e1
/-- what is sorted, as texts -/
theorem sort_tx {zs : List (V × PyData)} {l : List (Str × Str)} (h : zs.map Prod.snd = l.map tx) : (zs.mergeSort ordD).map Prod.snd = (l.mergeSort leP).map tx := by
  rw [PySem.W.sort_maps (r := ordD) (s := PySem.W.dataLe false (fun d : PyData => d)) Prod.snd (fun a _ b _ => rfl), h]
  exact (PySem.W.sort_maps (r := leP) tx (fun a _ b _ => rfl)).symm
theorem sort_perm {l m : List (Str × Str)} (h : l.Perm m) : l.mergeSort leP = m.mergeSort leP :=
  List.Perm.eq_of_pairwise (fun a b _ _ x y => leP_anti x y) (PySem.W.sort_pairwise leP_total l) (PySem.W.sort_pairwise leP_total m) (((List.mergeSort_perm l leP).trans h).trans (List.mergeSort_perm m leP).symm)
end CS
namespace K03
open PySem PySem.Spec PyProof.Rows L2 CS
def top (i : Nat) : Stmt := PySem.Challenge.pw_countedsteps_k03_whole_exit_lists_tell_a.main.body.getD i (.Pass ⟨0, 0, 0, 0⟩)
abbrev sSteps : Stmt := top 1
abbrev sVisits : Stmt := top 2
abbrev sExits : Stmt := top 3
abbrev sEntries : Stmt := top 4
abbrev sTurned : Stmt := top 5
abbrev sBox : Stmt := top 7
abbrev sTake : Stmt := top 8
abbrev sCells : Stmt := top 9
abbrev sOf : Stmt := top 10
abbrev sPick : Stmt := top 11
abbrev sSame : Stmt := top 12
abbrev sTags : Stmt := top 13
abbrev sWalk : Stmt := top 14
abbrev sFollowed : Stmt := top 15
abbrev sRight : Stmt := top 16
abbrev sCase : Stmt := top 17
abbrev sLaw : Stmt := top 18

/-! ### heaps and lists -/
theorem same_upd {H : Hp} {p : Addr} {o : HO} (h : H p = none) : Same H (upd H p o) := fun b x e => by
  rw [upd_ne (ne_of_none e h)]
  exact e
theorem cut1 (xs : List V) : cutV xs (some 1) none = xs.drop 1 := by
  unfold cutV
  rw [show HT.sIx xs.length 0 (some 1) = min 1 xs.length from HT.sIx_nat xs.length 0 1, HT.sIx_none]
  cases xs with
  | nil => rfl
  | cons x r =>
    rw [show min 1 (x :: r).length = 1 by
      rw [List.length_cons]
      omega]
    show (List.take ((x :: r).length - 1) r) = r
    rw [List.length_cons, Nat.add_sub_cancel]
    exact List.take_length
theorem sIx_one {n : Nat} (h : 0 < n) : HT.sIx n 0 (some 1) = 1 := by
  rw [show HT.sIx n 0 (some 1) = min 1 n from HT.sIx_nat n 0 1]
  omega
theorem sqT_same {K : PySem.W.Frag} {H H' : Hp} {a : Addr} {xs : List V} (e : Same H H') (h : SqT K H a xs) : SqT K H' a xs := by
  rcases h with (h | ⟨o, h⟩) | h
  · exact .inl (.inl (e _ _ h))
  · exact .inl (.inr ⟨o, e _ _ h⟩)
  · exact .inr h
/-- a tuple or a list of texts -/
def Jr (K : PySem.W.Frag) (H : Hp) (a : Addr) (ss : List Str) : Prop := SqT K H a (ss.map V.str) ∨ SqL K H a (ss.map V.str)
theorem Jr.keep {K : PySem.W.Frag} {H H' : Hp} {a : Addr} {ss : List Str} (h : Jr K H a ss) (s : Same H H') : Jr K H' a ss := by
  rcases h with h | h
  · exact .inl (sqT_same s h)
  · exact .inr (s.seq h)
section
variable {P : Program} {w : World} {K : PySem.W.Frag} {mg : Str → Option Value} {base : Heap}
/-! ### steps_of -/
def spSteps (K : PySem.W.Frag) : Sp := fun vs H Q _ => ∃ (a : Addr) (ss : List Str), vs = [.ref a] ∧ Jr K H a ss ∧ 0 < ss.length ∧
  ∀ (H' : Hp) (p : Addr) (as : List Addr), Same H H' → H p = none → H' p = some (.tup (as.map V.ref)) → as.length = ss.length - 1 → PairsAt (ss.map V.str) (ss.tail.map V.str) as H' → Q (.ref p) H'
theorem scSteps : FnScope ["journey"] ["journey"] (defScope sSteps) := ⟨rfl, rfl, rfl, by decide +kernel, rfl, by decide +kernel, by decide +kernel⟩
theorem ok_steps {f : Addr} {fd : FuncData} {k : Nat} (F : Fun K "steps_of" "steps_of" sSteps f fd) (mt : mg "tuple" = none) (mz : mg "zip" = none) : FnOk P w K mg base CX0 (k + 1) f fd ["journey"] (spSteps K) := by
  refine F.ok scSteps (fun vs H Q E h => ?_) (fun cdv A outer s H vs Q E hr h => ?_)
  · obtain ⟨a, ss, rfl, _⟩ := h
    rfl
  · obtain ⟨a, ss, rfl, hJ, h0, q⟩ := h
    refine ⟨_, pss_one (ps_ret (pe_tupZip (by rfl) mt (by rfl) mz (pa_cons (pv 0) (pa_cons (pe_slice (SlR.or sl_tup sl_list) (pv 0) (po_some pe_int) po_none) pa_nil)))), ?_⟩
    have hne : ¬ (HT.sIx (ss.map V.str).length 0 (some 1) = 0 ∧ HT.sIx (ss.map V.str).length (ss.map V.str).length none = (ss.map V.str).length) := fun z => by
      rw [sIx_one (by rw [List.length_map]; exact h0)] at z
      exact absurd z.1 (by decide)
    have fin : ∀ (H1 Hc : Hp) (p : Addr) (as : List Addr), Same H H1 → Same H1 Hc → as.length = min (ss.map V.str).length (cutV (ss.map V.str) (some 1) none).length → PairsAt (ss.map V.str) (cutV (ss.map V.str) (some 1) none) as Hc → Hc p = none → Q (.ref p) (upd Hc p (.tup (as.map V.ref))) := fun H1 Hc p as s1 s2 l pr np => by
      rw [cut1, ← List.map_drop, List.drop_one] at pr l
      have s3 : Same H Hc := s1.trans s2
      refine q _ p as (s3.trans (same_upd np)) (s3.free np) upd_same ?_ ?_
      · rw [l, List.length_map, List.length_map, List.length_tail]
        omega
      · exact fun j a x y e1 e2 e3 => by rw [upd_ne (ne_of_none (pr j a x y e1 e2 e3) np)]; exact pr j a x y e1 e2 e3
    refine ⟨.ref a, rfl, .ref a, rfl, 1, rfl, ?_⟩
    rcases hJ with hJ | hJ
    · refine .inl ⟨a, _, rfl, hJ, hne, fun c nc => ⟨a, c, _, _, rfl, .inl ⟨sqT_same (same_upd nc) hJ, .inl (.inl upd_same)⟩, fun Hc p as s2 l pr np => fin _ Hc p as (same_upd nc) s2 l pr np⟩⟩
    · refine .inr ⟨a, _, rfl, hJ, fun c nc => ⟨a, c, _, _, rfl, .inr ⟨(same_upd nc).seq hJ, .inl (.inl upd_same)⟩, fun Hc p as s2 l pr np => fin _ Hc p as (same_upd nc) s2 l pr np⟩⟩
/-! ### exits, entries -/
def prs (ss : List Str) : List (Str × Str) := ss.zip ss.tail
theorem prs_len (ss : List Str) : (prs ss).length = ss.length - 1 := by
  unfold prs
  rw [List.length_zip, List.length_tail]
  omega
theorem prs_at {H : Hp} {ss : List Str} {as : List Addr} (h : PairsAt (ss.map V.str) (ss.tail.map V.str) as H) (hl : as.length = ss.length - 1) {j : Nat} {v : V} (hv : (as.map V.ref)[j]? = some v) :
    ∃ (T : Addr) (x y : Str), v = .ref T ∧ (prs ss)[j]? = some (x, y) ∧ H T = some (.tup [.str x, .str y]) := by
  rw [List.getElem?_map] at hv
  have hj : j < ss.length - 1 := by
    rw [← hl]
    refine Classical.byContradiction fun z => ?_
    rw [List.getElem?_eq_none (by omega)] at hv
    cases hv
  have h1 : j < as.length := by omega
  have h2 : j < ss.length := by omega
  have h3 : j < ss.tail.length := by rw [List.length_tail]; exact hj
  rw [List.getElem?_eq_getElem h1] at hv
  refine ⟨as[j], ss[j], ss.tail[j], (Option.some.inj hv).symm, ?_, h j _ _ _ (List.getElem?_eq_getElem h1) ?_ ?_⟩
  · unfold prs
    rw [List.getElem?_zip_eq_some]
    exact ⟨List.getElem?_eq_getElem h2, List.getElem?_eq_getElem h3⟩
  · rw [List.getElem?_map, List.getElem?_eq_getElem h2]
    rfl
  · rw [List.getElem?_map, List.getElem?_eq_getElem h3]
    rfl
def exL (pl : Str) (l : List (Str × Str)) : List Str := (l.filter fun p => p.1 == pl).map (·.2)
def enL (pl : Str) (l : List (Str × Str)) : List Str := (l.filter fun p => p.2 == pl).map (·.1)
theorem take_snoc {α : Type} {l : List α} {i : Nat} {x : α} (h : l[i]? = some x) : l.take (i + 1) = l.take i ++ [x] := by
  rw [List.take_add_one, h]
  rfl
theorem exL_snoc (pl : Str) (l : List (Str × Str)) (x y : Str) : exL pl (l ++ [(x, y)]) = exL pl l ++ if x = pl then [y] else [] := by
  unfold exL
  rw [List.filter_append, List.map_append]
  by_cases h : x = pl
  · simp [h]
  · simp [h]
theorem enL_snoc (pl : Str) (l : List (Str × Str)) (x y : Str) : enL pl (l ++ [(x, y)]) = enL pl l ++ if y = pl then [x] else [] := by
  unfold enL
  rw [List.filter_append, List.map_append]
  by_cases h : y = pl
  · simp [h]
  · simp [h]
theorem exL_len (pl : Str) (l : List (Str × Str)) : (exL pl l).length ≤ l.length := by
  unfold exL
  rw [List.length_map]
  exact List.length_filter_le _ _
theorem enL_len (pl : Str) (l : List (Str × Str)) : (enL pl l).length ≤ l.length := by
  unfold enL
  rw [List.length_map]
  exact List.length_filter_le _ _
def spPl (K : PySem.W.Frag) (g : List Str → Str → List V) : Sp := fun vs H Q _ => ∃ (a : Addr) (ss : List Str) (pl : Str), vs = [.ref a, .str pl] ∧ Jr K H a ss ∧ 0 < ss.length ∧ ss.length ≤ 1000 ∧
  ∀ (H' : Hp) (p : Addr), Same H H' → H p = none → H' p = some (.tup (g ss pl)) → Q (.ref p) H'
def gEx (ss : List Str) (pl : Str) : List V := (exL pl (prs ss)).map V.str
def gEn (ss : List Str) (pl : Str) : List V := (enL pl (prs ss)).map V.str
theorem scExits : FnScope ["journey", "place", "one", "other"] ["journey", "place"] (defScope sExits) := ⟨rfl, rfl, rfl, by decide +kernel, rfl, by decide +kernel, by decide +kernel⟩
theorem ok_exits {f g : Addr} {fd gd : FuncData} {k : Nat} (F : Fun K "exits" "exits" sExits f fd) (G : FnOk P w K mg base CX0 k g gd ["journey"] (spSteps K)) (bG : Binds K gd ["journey"] []) (kG : PySem.W.keepIn K (.ref g) = true) (mG : mg "steps_of" = some (.ref g)) (mt : mg "tuple" = none) :
    FnOk P w K mg base CX0 (k + 1) f fd ["journey", "place"] (spPl K gEx) := by
  refine F.ok scExits (fun vs H Q E h => ?_) (fun cdv A outer s H vs Q E hr h => ?_)
  · obtain ⟨a, ss, pl, rfl, _⟩ := h
    rfl
  · obtain ⟨a, ss, pl, rfl, hJ, h0, h1, q⟩ := h
    refine ⟨_, pss_one (ps_ret (pe_tupleOf (by rfl) mt (pe_lc (own := [("one", 2), ("other", 3)]) (g := gTup K 2 (gCons (gName 2) (gCons (gName 3) gNil))) (by rfl) scExits.nd (pi_tup (pe_call G hr (by rfl) mG kG bG .nil pass0 (pa_cons (pv 0) pa_nil)))
      (blkOk_by (own := [("one", 2), ("other", 3)]) (N := ["journey", "place", "one", "other"]) (sc := defScope sExits) (by decide +kernel))
      (fun _ _ _ _ _ => pg_tup rfl (pgs_cons (pg_name (i := 2) scExits.nd rfl (Or.inl rfl) (.inr rfl)) (pgs_cons (pg_name (i := 3) scExits.nd rfl (Or.inl rfl) (.inr rfl)) pgs_nil)))
      (fun _ _ _ _ _ => pts_one (pt_cmpR op_eq (pv 2) (pv 1) (nomark _))) (fun _ _ _ _ _ => pv 3)))), ?_⟩
    refine ⟨.ref a, rfl, a, ss, rfl, hJ, h0, fun H1 p0 as s1 n0 e0 hl hp => ?_⟩
    have hT : SqT K H1 p0 (as.map V.ref) := SqT.of e0
    refine ⟨p0, rfl, ⟨_, hT⟩, fun D nD => lc_tup (K := K) (a := p0) (xs := as.map V.ref) (fun i H' => Same H1 H' ∧ H' D = some (.lst ((exL pl ((prs ss).take i)).map V.str))) ⟨same_upd nD, upd_same⟩ (fun i H' _ z => sqT_same z.1 hT) ?_ ?_⟩
    · rintro i x H2 hx ⟨s2, eD⟩
      obtain ⟨T, x1, y1, rfl, hij, hT2⟩ := prs_at hp hl hx
      refine ⟨T, [.str x1, .str y1], rfl, SqT.of (s2 _ _ hT2), rfl, .str x1, [.str y1], rfl, .str y1, [], rfl, rfl, ?_⟩
      refine ⟨rfl, .str x1, rfl, .str pl, rfl, rfl, _, rfl, ?_⟩
      rw [take_snoc hij, exL_snoc]
      refine ite2 (fun c => ?_) (fun c => ?_)
      · have c' : x1 = pl := V.str.inj (of_decide_eq_true c)
        rw [if_pos c', List.map_append]
        refine ⟨.str y1, rfl, _, eD, ?_, fun b o e => ?_, upd_same⟩
        · rw [List.length_map]
          exact Nat.lt_of_le_of_lt (Nat.le_trans (exL_len _ _) (by rw [List.length_take, prs_len]; omega)) (small1000 h1)
        · rw [upd_ne (ne_of_none e nD)]
          exact s2 _ _ e
      · have c' : ¬ x1 = pl := fun z => c (decide_eq_true (congrArg V.str z))
        rw [if_neg c', List.append_nil]
        exact ⟨s2, eD⟩
    · rintro H2 ⟨s2, eD⟩
      have e3 : (as.map V.ref).length = (prs ss).length := by rw [List.length_map, hl, prs_len]
      rw [e3, List.take_length] at eD
      refine .inl ⟨D, _, rfl, SqL.of eD, fun p np => ?_⟩
      exact q _ p (s1.trans (s2.trans (same_upd np))) (s1.free (s2.free np)) upd_same
theorem scEntries : FnScope ["journey", "place", "one", "other"] ["journey", "place"] (defScope sEntries) := ⟨rfl, rfl, rfl, by decide +kernel, rfl, by decide +kernel, by decide +kernel⟩
theorem ok_entries {f g : Addr} {fd gd : FuncData} {k : Nat} (F : Fun K "entries" "entries" sEntries f fd) (G : FnOk P w K mg base CX0 k g gd ["journey"] (spSteps K)) (bG : Binds K gd ["journey"] []) (kG : PySem.W.keepIn K (.ref g) = true) (mG : mg "steps_of" = some (.ref g)) (mt : mg "tuple" = none) :
    FnOk P w K mg base CX0 (k + 1) f fd ["journey", "place"] (spPl K gEn) := by
  refine F.ok scEntries (fun vs H Q E h => ?_) (fun cdv A outer s H vs Q E hr h => ?_)
  · obtain ⟨a, ss, pl, rfl, _⟩ := h
    rfl
  · obtain ⟨a, ss, pl, rfl, hJ, h0, h1, q⟩ := h
    refine ⟨_, pss_one (ps_ret (pe_tupleOf (by rfl) mt (pe_lc (own := [("one", 2), ("other", 3)]) (g := gTup K 2 (gCons (gName 2) (gCons (gName 3) gNil))) (by rfl) scEntries.nd (pi_tup (pe_call G hr (by rfl) mG kG bG .nil pass0 (pa_cons (pv 0) pa_nil)))
      (blkOk_by (own := [("one", 2), ("other", 3)]) (N := ["journey", "place", "one", "other"]) (sc := defScope sEntries) (by decide +kernel))
      (fun _ _ _ _ _ => pg_tup rfl (pgs_cons (pg_name (i := 2) scEntries.nd rfl (Or.inl rfl) (.inr rfl)) (pgs_cons (pg_name (i := 3) scEntries.nd rfl (Or.inl rfl) (.inr rfl)) pgs_nil)))
      (fun _ _ _ _ _ => pts_one (pt_cmpR op_eq (pv 3) (pv 1) (nomark _))) (fun _ _ _ _ _ => pv 2)))), ?_⟩
    refine ⟨.ref a, rfl, a, ss, rfl, hJ, h0, fun H1 p0 as s1 n0 e0 hl hp => ?_⟩
    have hT : SqT K H1 p0 (as.map V.ref) := SqT.of e0
    refine ⟨p0, rfl, ⟨_, hT⟩, fun D nD => lc_tup (K := K) (a := p0) (xs := as.map V.ref) (fun i H' => Same H1 H' ∧ H' D = some (.lst ((enL pl ((prs ss).take i)).map V.str))) ⟨same_upd nD, upd_same⟩ (fun i H' _ z => sqT_same z.1 hT) ?_ ?_⟩
    · rintro i x H2 hx ⟨s2, eD⟩
      obtain ⟨T, x1, y1, rfl, hij, hT2⟩ := prs_at hp hl hx
      refine ⟨T, [.str x1, .str y1], rfl, SqT.of (s2 _ _ hT2), rfl, .str x1, [.str y1], rfl, .str y1, [], rfl, rfl, ?_⟩
      refine ⟨rfl, .str y1, rfl, .str pl, rfl, rfl, _, rfl, ?_⟩
      rw [take_snoc hij, enL_snoc]
      refine ite2 (fun c => ?_) (fun c => ?_)
      · have c' : y1 = pl := V.str.inj (of_decide_eq_true c)
        rw [if_pos c', List.map_append]
        refine ⟨.str x1, rfl, _, eD, ?_, fun b o e => ?_, upd_same⟩
        · rw [List.length_map]
          exact Nat.lt_of_le_of_lt (Nat.le_trans (enL_len _ _) (by rw [List.length_take, prs_len]; omega)) (small1000 h1)
        · rw [upd_ne (ne_of_none e nD)]
          exact s2 _ _ e
      · have c' : ¬ y1 = pl := fun z => c (decide_eq_true (congrArg V.str z))
        rw [if_neg c', List.append_nil]
        exact ⟨s2, eD⟩
    · rintro H2 ⟨s2, eD⟩
      have e3 : (as.map V.ref).length = (prs ss).length := by rw [List.length_map, hl, prs_len]
      rw [e3, List.take_length] at eD
      refine .inl ⟨D, _, rfl, SqL.of eD, fun p np => ?_⟩
      exact q _ p (s1.trans (s2.trans (same_upd np))) (s1.free (s2.free np)) upd_same
/-! ### turned -/
def spTurned (K : PySem.W.Frag) : Sp := fun vs H Q _ => ∃ (a : Addr) (ss : List Str), vs = [.ref a] ∧ Jr K H a ss ∧ ∀ (H' : Hp) (p : Addr), Same H H' → H p = none → H' p = some (.tup (ss.reverse.map V.str)) → Q (.ref p) H'
theorem scTurned : FnScope ["journey"] ["journey"] (defScope sTurned) := ⟨rfl, rfl, rfl, by decide +kernel, rfl, by decide +kernel, by decide +kernel⟩
theorem ok_turned {f : Addr} {fd : FuncData} {k : Nat} (F : Fun K "turned" "turned" sTurned f fd) (mt : mg "tuple" = none) : FnOk P w K mg base CX0 (k + 1) f fd ["journey"] (spTurned K) := by
  refine F.ok scTurned (fun vs H Q E h => ?_) (fun cdv A outer s H vs Q E hr h => ?_)
  · obtain ⟨a, ss, rfl, _⟩ := h
    rfl
  · obtain ⟨a, ss, rfl, hJ, q⟩ := h
    refine ⟨_, pss_one (ps_ret (pe_tupleOf (by rfl) mt (pe_back (pv 0) (pe_un un_neg pe_int)))), ?_⟩
    refine ⟨.ref a, rfl, 1, rfl, rfl, a, ss.map V.str, rfl, ?_⟩
    rcases hJ with hJ | hJ
    · refine .inl ⟨hJ, fun p np => .inr ⟨p, _, rfl, SqT.of upd_same, q _ p (same_upd np) np ?_⟩⟩
      rw [upd_same, List.map_reverse]
    · refine .inr ⟨hJ, fun l nl => .inl ⟨l, _, rfl, SqL.of upd_same, fun p np => q _ p ((same_upd nl).trans (same_upd np)) ((same_upd nl).free np) ?_⟩⟩
      rw [upd_same, List.map_reverse]
/-! ### visits -/
def viL (pl : Str) : Nat → List Str → List Int
  | _, [] => []
  | n, s :: r => if s = pl then (n : Int) :: viL pl (n + 1) r else viL pl (n + 1) r
theorem viL_snoc (pl : Str) (x : Str) : ∀ (n : Nat) (l : List Str), viL pl n (l ++ [x]) = viL pl n l ++ if x = pl then [((n + l.length : Nat) : Int)] else []
  | n, [] => by
    show (if x = pl then (n : Int) :: viL pl (n + 1) [] else viL pl (n + 1) []) = [] ++ if x = pl then [((n + 0 : Nat) : Int)] else []
    rfl
  | n, s :: r => by
    have ih := viL_snoc pl x (n + 1) r
    have e : n + 1 + r.length = n + (s :: r).length := by rw [List.length_cons]; omega
    rw [e] at ih
    show (if s = pl then (n : Int) :: viL pl (n + 1) (r ++ [x]) else viL pl (n + 1) (r ++ [x])) = (if s = pl then (n : Int) :: viL pl (n + 1) r else viL pl (n + 1) r) ++ _
    rw [ih]
    by_cases c : s = pl
    · rw [if_pos c, if_pos c]
      rfl
    · rw [if_neg c, if_neg c]
theorem viL_len (pl : Str) : ∀ (n : Nat) (l : List Str), (viL pl n l).length ≤ l.length
  | _, [] => Nat.le_refl _
  | n, s :: r => by
    have ih := viL_len pl (n + 1) r
    show (if s = pl then (n : Int) :: viL pl (n + 1) r else viL pl (n + 1) r).length ≤ r.length + 1
    by_cases c : s = pl
    · rw [if_pos c]
      exact Nat.succ_le_succ ih
    · rw [if_neg c]
      exact Nat.le_succ_of_le ih
def gVi (ss : List Str) (pl : Str) : List V := (viL pl 0 ss).map V.int
theorem scVisits : FnScope ["journey", "place", "at", "here"] ["journey", "place"] (defScope sVisits) := ⟨rfl, rfl, rfl, by decide +kernel, rfl, by decide +kernel, by decide +kernel⟩
theorem ok_visits {f : Addr} {fd : FuncData} {k : Nat} (F : Fun K "visits" "visits" sVisits f fd) (me : mg "enumerate" = none) (mt : mg "tuple" = none) :
    FnOk P w K mg base CX0 (k + 1) f fd ["journey", "place"] (spPl K gVi) := by
  refine F.ok scVisits (fun vs H Q E h => ?_) (fun cdv A outer s H vs Q E hr h => ?_)
  · obtain ⟨a, ss, pl, rfl, _⟩ := h
    rfl
  · obtain ⟨a, ss, pl, rfl, hJ, h0, h1, q⟩ := h
    refine ⟨_, pss_one (ps_ret (pe_tupleOf (by rfl) mt (pe_lc (own := [("at", 2), ("here", 3)]) (g := gTup K 2 (gCons (gName 2) (gCons (gName 3) gNil))) (by rfl) scVisits.nd (pi_enumT (by rfl) me (pa_cons (pv 0) pa_nil))
      (blkOk_by (own := [("at", 2), ("here", 3)]) (N := ["journey", "place", "at", "here"]) (sc := defScope sVisits) (by decide +kernel))
      (fun _ _ _ _ _ => pg_tup rfl (pgs_cons (pg_name (i := 2) scVisits.nd rfl (Or.inl rfl) (.inr rfl)) (pgs_cons (pg_name (i := 3) scVisits.nd rfl (Or.inl rfl) (.inr rfl)) pgs_nil)))
      (fun _ _ _ _ _ => pts_one (pt_cmpR op_eq (pv 3) (pv 1) (nomark _))) (fun _ _ _ _ _ => pv 2)))), ?_⟩
    have turn : ∀ (D : Addr) (i : Nat) (v : V) (H2 H3 : Hp), H D = none → i < (ss.map V.str).length → (Same H H2 ∧ H2 D = some (.lst ((viL pl 0 (ss.take i)).map V.int))) → YPair (fun i => some (.int (i : Nat))) (fun i => (ss.map V.str)[i]?) i H2 v H3 →
        ∃ (T : Addr) (x : Str), v = .ref T ∧ H3 T = some (.tup [.int (i : Nat), .str x]) ∧ ss[i]? = some x ∧ Same H H3 ∧ H3 D = some (.lst ((viL pl 0 (ss.take i)).map V.int)) := by
      rintro D i v H2 H3 nD hi ⟨s2, eD⟩ ⟨T, x, y, rfl, nT, rfl, hx, hy⟩
      cases hx
      replace hy : (ss.map V.str)[i]? = some y := hy
      rw [List.getElem?_map] at hy
      cases e : ss[i]? with
      | none =>
        rw [e] at hy
        cases hy
      | some z =>
        rw [e] at hy
        cases hy
        exact ⟨T, z, rfl, upd_same, rfl, s2.trans (same_upd nT), by rw [upd_ne (ne_of_none eD nT)]; exact eD⟩
    refine ⟨.ref a, rfl, a, ss.map V.str, rfl, ?_⟩
    rcases hJ with hJ | hJ
    · refine .inl ⟨hJ, fun D nD => lc_it (walk_enumT (K := K) (a := a) (xs := ss.map V.str)) (fun i H' => Same H H' ∧ H' D = some (.lst ((viL pl 0 (ss.take i)).map V.int))) ⟨same_upd nD, upd_same⟩ (fun i H' _ z => sqT_same z.1 hJ) ?_ ?_⟩
      · intro i v H2 H3 hi hP hY
        obtain ⟨T, x, rfl, hT, hx, s3, eD⟩ := turn D i v H2 H3 nD hi hP hY
        have hil : i ≤ ss.length := by rw [List.length_map] at hi; omega
        refine ⟨T, [.int (i : Nat), .str x], rfl, SqT.of hT, rfl, .int (i : Nat), [.str x], rfl, .str x, [], rfl, rfl, ?_⟩
        refine ⟨rfl, .str x, rfl, .str pl, rfl, rfl, _, rfl, ?_⟩
        rw [take_snoc hx, viL_snoc]
        refine ite2 (fun c => ?_) (fun c => ?_)
        · have c' : x = pl := V.str.inj (of_decide_eq_true c)
          rw [if_pos c', List.map_append]
          refine ⟨.int (i : Nat), rfl, _, eD, ?_, fun b o e => ?_, ?_⟩
          · rw [List.length_map]
            exact Nat.lt_of_le_of_lt (Nat.le_trans (viL_len _ _ _) (by rw [List.length_take]; omega)) (small1000 h1)
          · rw [upd_ne (ne_of_none e nD)]
            exact s3 _ _ e
          · rw [upd_same, List.length_take, Nat.zero_add, Nat.min_eq_left hil]
            rfl
        · have c' : ¬ x = pl := fun z => c (decide_eq_true (congrArg V.str z))
          rw [if_neg c', List.append_nil]
          exact ⟨s3, eD⟩
      · rintro H2 ⟨s2, eD⟩
        rw [List.length_map, List.take_length] at eD
        refine .inl ⟨D, _, rfl, SqL.of eD, fun p np => ?_⟩
        exact q _ p (s2.trans (same_upd np)) (s2.free np) upd_same
    · refine .inr ⟨hJ, fun D nD => lc_it (walk_enum (K := K) (a := a) (xs := ss.map V.str)) (fun i H' => Same H H' ∧ H' D = some (.lst ((viL pl 0 (ss.take i)).map V.int))) ⟨same_upd nD, upd_same⟩ (fun i H' _ z => z.1.seq hJ) ?_ ?_⟩
      · intro i v H2 H3 hi hP hY
        obtain ⟨T, x, rfl, hT, hx, s3, eD⟩ := turn D i v H2 H3 nD hi hP hY
        have hil : i ≤ ss.length := by rw [List.length_map] at hi; omega
        refine ⟨T, [.int (i : Nat), .str x], rfl, SqT.of hT, rfl, .int (i : Nat), [.str x], rfl, .str x, [], rfl, rfl, ?_⟩
        refine ⟨rfl, .str x, rfl, .str pl, rfl, rfl, _, rfl, ?_⟩
        rw [take_snoc hx, viL_snoc]
        refine ite2 (fun c => ?_) (fun c => ?_)
        · have c' : x = pl := V.str.inj (of_decide_eq_true c)
          rw [if_pos c', List.map_append]
          refine ⟨.int (i : Nat), rfl, _, eD, ?_, fun b o e => ?_, ?_⟩
          · rw [List.length_map]
            exact Nat.lt_of_le_of_lt (Nat.le_trans (viL_len _ _ _) (by rw [List.length_take]; omega)) (small1000 h1)
          · rw [upd_ne (ne_of_none e nD)]
            exact s3 _ _ e
          · rw [upd_same, List.length_take, Nat.zero_add, Nat.min_eq_left hil]
            rfl
        · have c' : ¬ x = pl := fun z => c (decide_eq_true (congrArg V.str z))
          rw [if_neg c', List.append_nil]
          exact ⟨s3, eD⟩
      · rintro H2 ⟨s2, eD⟩
        rw [List.length_map, List.take_length] at eD
        refine .inl ⟨D, _, rfl, SqL.of eD, fun p np => ?_⟩
        exact q _ p (s2.trans (same_upd np)) (s2.free np) upd_same
end
end K03
namespace K03
open PySem PySem.Spec PyProof.Rows L2 CS
/-- all but b is as it was -/
def Keep (b : Addr) (H H' : Hp) : Prop := ∀ c o, c ≠ b → H c = some o → H' c = some o
theorem Keep.refl (b : Addr) (H : Hp) : Keep b H H := fun _ _ _ e => e
theorem Keep.trans {b : Addr} {H H1 H2 : Hp} (x : Keep b H H1) (y : Keep b H1 H2) : Keep b H H2 := fun c o n e => y c o n (x c o n e)
theorem Keep.of_same {b : Addr} {H H1 : Hp} (x : Same H H1) : Keep b H H1 := fun c o _ e => x c o e
theorem Keep.upd {b : Addr} (H : Hp) (o : HO) : Keep b H (L2.upd H b o) := fun c u n e => by rw [upd_ne n]; exact e
theorem Keep.sqL {K : PySem.W.Frag} {b a : Addr} {H H' : Hp} {xs : List V} (x : Keep b H H') (n : a ≠ b) (h : SqL K H a xs) : SqL K H' a xs := by
  rcases h with (h | ⟨o, h⟩) | h
  · exact .inl (.inl (x _ _ n h))
  · exact .inl (.inr ⟨o, x _ _ n h⟩)
  · exact .inr h
theorem Keep.sqT {K : PySem.W.Frag} {b a : Addr} {H H' : Hp} {xs : List V} (x : Keep b H H') (n : a ≠ b) (h : SqT K H a xs) : SqT K H' a xs := by
  rcases h with (h | ⟨o, h⟩) | h
  · exact .inl (.inl (x _ _ n h))
  · exact .inl (.inr ⟨o, x _ _ n h⟩)
  · exact .inr h
theorem b01 (c : Bool) : 0 ≤ (if c = true then (1 : Int) else 0) ∧ (if c = true then (1 : Int) else 0) ≤ 1 := by cases c <;> decide
theorem abs0 (i : Int) : 0 ≤ (if i < 0 then -i else i) := by split <;> omega
theorem mul01 (i : Int) (c : Bool) : CMul i (if c = true then (1 : Int) else 0) := by
  have q := b01 c
  exact .inr ⟨by omega, by omega⟩
theorem dv64 (i : Int) : CDivN i 64 := ⟨by decide, by decide⟩
theorem dvM (i : Int) : CDivN i 1000003 := ⟨by decide, by decide⟩
section
variable {P : Program} {w : World} {K : PySem.W.Frag} {mg : Str → Option Value} {base : Heap}
/-! ### the box of draws -/
/-- a box at b: what is left of the number, the seed, how often it was asked -/
def BoxAt (H : Hp) (b : Addr) (n : Nat) : Prop := ∃ A B C : Int, H b = some (.lst [.int A, .int B, .int C]) ∧ 0 ≤ A ∧ 0 ≤ B ∧ B < 2 ^ 62 ∧ 0 ≤ C ∧ C ≤ n
def spBox (K : PySem.W.Frag) : Sp := fun vs H Q _ => ∃ (a : Addr) (ns : List Int) (k : Nat), vs = [.ref a, .int (k : Nat)] ∧ SqL K H a (ns.map V.int) ∧ k < ns.length ∧ ns.length ≤ 1000 ∧ ∀ (H' : Hp) (p : Addr), Same H H' → H p = none → BoxAt H' p 0 → Q (.ref p) H'
theorem scBox : FnScope ["_law_script", "_law_k", "_law_cell"] ["_law_script", "_law_k"] (defScope sBox) := ⟨rfl, rfl, rfl, by decide +kernel, rfl, by decide +kernel, by decide +kernel⟩
theorem ok_box {f : Addr} {fd : FuncData} {k : Nat} (F : Fun K "_law_box" "_law_box" sBox f fd) (ml : mg "len" = none) (ma : mg "abs" = none) (mi : mg "int" = none) : FnOk P w K mg base CX0 (k + 1) f fd ["_law_script", "_law_k"] (spBox K) := by
  refine F.ok scBox (fun vs H Q E h => ?_) (fun cdv A outer s H vs Q E hr h => ?_)
  · obtain ⟨a, ns, k, rfl, _⟩ := h
    rfl
  · obtain ⟨a, ns, k, rfl, hS, hk, h1, q⟩ := h
    refine ⟨_, pss_cons (ps_set (i := 2) scBox.nd rfl (.inl rfl) (pe_ifExp (pt_cmpR op_lt (pv 1) (pe_callB call_len_seq (by rfl) ml PySem.boot_len (pa_cons (pv 0) pa_nil)) (nomark _)) (pe_ix ix_list (pv 0) (pv 1) (fun _ _ => rfl)) pe_int))
      (pss_one (ps_ret (pe_lst (pa_cons (pe_op op_mul (pe_callB call_abs (by rfl) ma (by decide +kernel) (pa_cons (pv 2) pa_nil)) (pe_callTy call_int1 (by rfl) mi (by decide +kernel) (pa_cons (pe_cmpR op_ge (pe_callB call_abs (by rfl) ma (by decide +kernel) (pa_cons (pv 2) pa_nil)) (pe_op op_pow pe_int pe_int) (nomark _)) pa_nil)))
        (pa_cons (pe_op op_add (pe_op op_add (pe_op op_modN (pe_callTy call_int1 (by rfl) mi (by decide +kernel) (pa_cons (pv 2) pa_nil)) pe_int) (pe_op op_mul pe_int (pv 1))) pe_int) (pa_cons pe_int pa_nil)))))), ?_⟩
    have hx : (ns.map V.int)[k]? = some (.int ns[k]) := by rw [List.getElem?_map, List.getElem?_eq_getElem hk]; rfl
    have hd : decide ((k : Int) < ((ns.map V.int).length : Nat)) = true := decide_eq_true (by rw [List.length_map]; omega)
    refine ⟨.int (k : Nat), rfl, .ref a, rfl, a, _, rfl, .inl hS, _, _, rfl, rfl, _, rfl, ?_⟩
    rw [hd]
    refine ⟨.ref a, rfl, .int (k : Nat), rfl, a, _, _, _, rfl, rfl, hS, atI_nat hx, ?_⟩
    have e1 := Int.fmod_nonneg_of_pos ns[k] (b := 2305843009213693951) (by decide)
    have e2 := Int.fmod_lt_of_pos ns[k] (b := 2305843009213693951) (by decide)
    refine ⟨.int ns[k], rfl, _, rfl, .int ns[k], rfl, _, rfl, 10, 18, rfl, rfl, ⟨by decide, by decide, by decide⟩, _, _, rfl, rfl, .inr ⟨_, rfl, _, _, rfl, rfl, mul01 _ _, ?_⟩⟩
    refine ⟨.int ns[k], rfl, .inl ⟨_, rfl, _, _, rfl, rfl, (by show (2305843009213693951 : Int) ≠ 0; decide), _, rfl, _, _, rfl, rfl, .inl (by decide), _, _, rfl, rfl, _, _, rfl, rfl, ?_⟩⟩
    refine ⟨by show 3 ≤ sizeLine; decide, fun p np => q _ p (same_upd np) np ?_⟩
    refine ⟨_, _, 0, upd_same, Int.mul_nonneg (abs0 _) (b01 _).1, ?_, ?_, Int.le_refl 0, Int.le_refl 0⟩
    · have : (0 : Int) ≤ k := Int.natCast_nonneg k
      omega
    · have : (k : Int) < 1000 := by omega
      omega
/-! ### a draw -/
def spTake : Sp := fun vs H Q _ => ∃ (b : Addr) (n : Nat) (m : Int), vs = [.ref b, .int m] ∧ BoxAt H b n ∧ n ≤ 1000000 ∧ 0 < m ∧ m < 1000000 ∧ ∀ (H' : Hp) (r : Int), Keep b H H' → BoxAt H' b (n + 1) → 0 ≤ r → r < m → Q (.int r) H'
theorem scTake : FnScope ["_law_box_here", "_law_below", "_law_digit_so", "_law_once", "_law_odd", "_law_twice"] ["_law_box_here", "_law_below"] (defScope sTake) := ⟨rfl, rfl, rfl, by decide +kernel, rfl, by decide +kernel, by decide +kernel⟩
theorem ok_take {f : Addr} {fd : FuncData} {k : Nat} (F : Fun K "_law_take" "_law_take" sTake f fd) (mi : mg "int" = none) : FnOk P w K mg base CX0 (k + 1) f fd ["_law_box_here", "_law_below"] spTake := by
  refine F.ok scTake (fun vs H Q E h => ?_) (fun cdv A outer s H vs Q E hr h => ?_)
  · obtain ⟨b, n, m, rfl, _⟩ := h
    rfl
  · obtain ⟨b, n, m, rfl, ⟨A, B, C, hb, hA, hB, hB2, hC, hC2⟩, hn, hm, hm2, q⟩ := h
    refine ⟨_, pss_cons (ps_if (pt_cmpR op_gt (pe_ix ix_list (pv 0) pe_int (fun _ _ => rfl)) pe_int (nomark _))
        (pss_cons (ps_set (i := 2) scTake.nd rfl (.inl rfl) (pe_op op_modN (pe_callTy call_int1 (by rfl) mi (by decide +kernel) (pa_cons (pe_ix ix_list (pv 0) pe_int (fun _ _ => rfl)) pa_nil)) (pv 1)))
          (pss_cons (ps_asg (pe_op op_fdivN (pe_ix ix_list (pv 0) pe_int (fun _ _ => rfl)) (pv 1)) (pg_sub (pv 0) pe_int set_list)) (pss_one (ps_ret (pv 2))))) pss_nil)
      (pss_cons (ps_asg (pe_op op_add (pe_ix ix_list (pv 0) pe_int (fun _ _ => rfl)) pe_int) (pg_sub (pv 0) pe_int set_list))
      (pss_cons (ps_set (i := 3) scTake.nd rfl (.inl rfl) (pe_op op_modN (pe_callTy call_int1 (by rfl) mi (by decide +kernel) (pa_cons (pe_op op_mul (pe_op op_add (pe_ix ix_list (pv 0) pe_int (fun _ _ => rfl)) (pe_op op_mul pe_int (pe_ix ix_list (pv 0) pe_int (fun _ _ => rfl)))) (pe_op op_add pe_int (pe_ix ix_list (pv 0) pe_int (fun _ _ => rfl)))) pa_nil)) pe_int))
      (pss_cons (ps_set (i := 4) scTake.nd rfl (.inl rfl) (pe_op op_add (pe_op op_modN (pe_callTy call_int1 (by rfl) mi (by decide +kernel) (pa_cons (pv 3) pa_nil)) pe_int) pe_int))
      (pss_cons (ps_set (i := 5) scTake.nd rfl (.inl rfl) (pe_op op_modN (pe_callTy call_int1 (by rfl) mi (by decide +kernel) (pa_cons (pe_op op_mul (pe_op op_add (pe_op op_add (pv 3) (pe_ix ix_list (pv 0) pe_int (fun _ _ => rfl))) (pe_op op_fdivN (pe_ix ix_list (pv 0) pe_int (fun _ _ => rfl)) pe_int)) (pv 4)) pa_nil)) pe_int))
      (pss_one (ps_ret (pe_op op_modN (pe_callTy call_int1 (by rfl) mi (by decide +kernel) (pa_cons (pe_op op_fdivN (pe_op op_modN (pe_callTy call_int1 (by rfl) mi (by decide +kernel) (pa_cons (pe_op op_add (pe_op op_mul (pv 5) pe_int) (pv 3)) pa_nil)) pe_int) pe_int) pa_nil)) (pv 1)))))))), ?_⟩
    refine ⟨.ref b, rfl, b, _, 0, .int A, rfl, rfl, SqL.of hb, atI_nat (j := 0) rfl, _, _, rfl, rfl, _, rfl, ?_⟩
    refine ite2 (fun c => ?_) (fun c => ?_)
    · have hg : 0 < A := of_decide_eq_true c
      have r0 := Int.fmod_nonneg_of_pos A hm
      have r1 := Int.fmod_lt_of_pos A hm
      have d0 := Int.fdiv_nonneg hA (Int.le_of_lt hm)
      refine ⟨.ref b, rfl, b, _, 0, .int A, rfl, rfl, SqL.of hb, atI_nat (j := 0) rfl, .inl ⟨A, rfl, .int m, rfl, A, m, rfl, rfl, by omega, ?_⟩⟩
      refine ⟨.ref b, rfl, b, _, 0, .int A, rfl, rfl, SqL.of hb, atI_nat (j := 0) rfl, .int m, rfl, A, m, rfl, rfl, ⟨by omega, by omega⟩, ?_⟩
      refine ⟨.ref b, rfl, b, _, 0, 0, rfl, rfl, hb, rfl, ?_⟩
      refine ⟨_, rfl, ?_⟩
      exact q _ _ (Keep.upd H _) ⟨_, B, C, upd_same, d0, hB, hB2, hC, by omega⟩ r0 r1
    · refine ⟨.ref b, rfl, b, _, 2, .int C, rfl, rfl, SqL.of hb, atI_nat (j := 2) rfl, _, _, rfl, rfl, ?_⟩
      refine ⟨.ref b, rfl, b, _, 2, 2, rfl, rfl, hb, rfl, ?_⟩
      have hb2 : SqL K (upd H b (.lst [.int A, .int B, .int (C + 1)])) b [.int A, .int B, .int (C + 1)] := SqL.of upd_same
      have i1 : atI [V.int A, V.int B, V.int (C + 1)] 1 = some (V.int B) := atI_nat (j := 1) rfl
      have i2 : atI [V.int A, V.int B, V.int (C + 1)] 2 = some (V.int (C + 1)) := atI_nat (j := 2) rfl
      refine ⟨.ref b, rfl, b, _, 1, .int B, rfl, rfl, hb2, i1, .ref b, rfl, b, _, 2, .int (C + 1), rfl, rfl, hb2, i2, _, _, rfl, rfl, .inl (by decide), _, _, rfl, rfl, .ref b, rfl, b, _, 2, .int (C + 1), rfl, rfl, hb2, i2, _, _, rfl, rfl,
        _, _, rfl, rfl, .inr (by omega), .inl ⟨_, rfl, _, _, rfl, rfl, (by show (2147483647 : Int) ≠ 0; decide), ?_⟩⟩
      have o0 := Int.fmod_nonneg_of_pos ((B + 48271 * (C + 1)) * (39373 + (C + 1))) (b := 2147483647) (by decide)
      have o1 := Int.fmod_lt_of_pos ((B + 48271 * (C + 1)) * (39373 + (C + 1))) (b := 2147483647) (by decide)
      dsimp only
      revert o0 o1
      generalize Int.fmod ((B + 48271 * (C + 1)) * (39373 + (C + 1))) 2147483647 = o
      intro o0 o1
      refine ⟨.int o, rfl, .inl ⟨_, rfl, _, _, rfl, rfl, (by show (40009 : Int) ≠ 0; decide), _, _, rfl, rfl, ?_⟩⟩
      have v0 := Int.fmod_nonneg_of_pos o (b := 40009) (by decide)
      have v1 := Int.fmod_lt_of_pos o (b := 40009) (by decide)
      dsimp only
      revert v0 v1
      generalize Int.fmod o 40009 = v
      intro v0 v1
      refine ⟨.int o, rfl, .ref b, rfl, b, _, 2, .int (C + 1), rfl, rfl, hb2, i2, _, _, rfl, rfl, .ref b, rfl, b, _, 1, .int B, rfl, rfl, hb2, i1, _, _, rfl, rfl, dvM _, _, _, rfl, rfl, .int (v + 7), rfl, _, _, rfl, rfl, .inr (by omega),
        .inl ⟨_, rfl, _, _, rfl, rfl, (by show (2147483629 : Int) ≠ 0; decide), ?_⟩⟩
      refine ⟨.int _, rfl, _, _, rfl, rfl, .inr (by decide), .int o, rfl, _, _, rfl, rfl, .inl ⟨_, rfl, _, _, rfl, rfl, (by show (2147483587 : Int) ≠ 0; decide), _, _, rfl, rfl, dv64 _, .inl ⟨_, rfl, .int m, rfl, _, _, rfl, rfl, (by omega), ?_⟩⟩⟩
      exact q _ _ (Keep.upd H _) ⟨A, B, C + 1, upd_same, hA, hB, hB2, by omega, by omega⟩ (Int.fmod_nonneg_of_pos _ hm) (Int.fmod_lt_of_pos _ hm)
end
end K03
namespace K03
open PySem PySem.Spec PyProof.Rows L2 CS
theorem BoxAt.same {H H' : Hp} {b : Addr} {n : Nat} (h : BoxAt H b n) (s : Same H H') : BoxAt H' b n := by
  obtain ⟨A, B, C, e, r⟩ := h
  exact ⟨A, B, C, s _ _ e, r⟩
theorem BoxAt.up {H : Hp} {b : Addr} {n m : Nat} (h : BoxAt H b n) (l : n ≤ m) : BoxAt H b m := by
  obtain ⟨A, B, C, e, a1, a2, a3, a4, a5⟩ := h
  exact ⟨A, B, C, e, a1, a2, a3, a4, by omega⟩
theorem drop_map {α β : Type} (f : α → β) : ∀ (l : List α) (i : Nat), (l.map f).eraseIdx i = (l.eraseIdx i).map f
  | [], _ => rfl
  | _ :: _, 0 => rfl
  | x :: l, i + 1 => by
    show f x :: (l.map f).eraseIdx i = f x :: (l.eraseIdx i).map f
    rw [drop_map f l i]
theorem out_perm {α : Type} : ∀ {l : List α} {i : Nat} (h : i < l.length), List.Perm (l[i] :: l.eraseIdx i) l
  | [], _, h => absurd h (Nat.not_lt_zero _)
  | _ :: _, 0, _ => List.Perm.refl _
  | x :: l, i + 1, h => (List.Perm.swap x _ _).trans ((out_perm (l := l) (i := i) (Nat.lt_of_succ_lt_succ h)).cons x)
/-- the signs of a text -/
def signs (z : Str) : List Str := z.cps.toList.map fun c => ⟨#[c]⟩
section
variable {X : Cx}
theorem vals_signs : ∀ (l : List Nat) (us : List Value), us.length = l.length → (∀ (j : Nat) (u : Value), us[j]? = some u → ∃ (c : Nat) (t : Tok), l[j]? = some c ∧ u = Value.str ⟨#[c]⟩ t) → Vals (l.map fun c => V.str ⟨#[c]⟩) us
  | [], [], _, _ => .nil
  | [], _ :: _, h, _ => by cases h
  | _ :: _, [], h, _ => by cases h
  | c :: l, u :: us, h, q => by
    obtain ⟨c', t, e1, e2⟩ := q 0 u rfl
    cases e1
    refine .cons ⟨t, e2⟩ (vals_signs l us (Nat.succ.inj h) fun j v e => q (j + 1) v e)
theorem call_list_txt (hc : X.calm = true) : CallR X (.type "list") (fun xs H Q => ∃ z : Str, xs = [.str z] ∧ z.cps.size ≤ 1000 ∧ ∀ l, H l = none → Q (.ref l) (upd H l (.lst ((signs z).map V.str)))) := by
  intro pins s σ H xs us Q I r h
  obtain ⟨z, rfl, hz, q⟩ := h
  obtain ⟨u, rfl, rx⟩ := vals1 r
  obtain ⟨t, rfl⟩ := rx
  have hfit : z.cps.size ≤ sizeLine := Nat.le_of_lt (small1000 hz)
  refine call_list_str (I.ok.hd hc) z t (fun h' tk acc c' hk hS it => ?_) hfit
  have rv : Vals ((signs z).map V.str) acc.toList := by
    unfold signs
    rw [List.map_map]
    refine vals_signs z.cps.toList acc.toList (by rw [Array.length_toList, Array.length_toList]; exact it.1) fun j u e => ?_
    rw [Array.getElem?_toList] at e
    obtain ⟨c, u', e1, e2⟩ := it.2 j u e
    exact ⟨c, u', by rw [Array.getElem?_toList]; exact e1, e2⟩
  refine ⟨.ref s.heap.objs.size, _, I.laid (t' := tk) hk (Nat.le_refl _) (show ObjOk X.prog X.w _ h' _ (.lst _) from ⟨?_, acc.toList, c', rv, ?_⟩), rfl, q _ (I.hok.fresh (Nat.le_refl _))⟩
  · unfold signs
    rw [List.length_map, List.length_map, Array.length_toList]
    exact hfit
  · simpa using hS
end
section
variable {P : Program} {w : World} {K : PySem.W.Frag} {mg : Str → Option Value} {base : Heap}
/-! ### of -/
def spOf (K : PySem.W.Frag) : Sp := fun vs H Q _ => ∃ (b t : Addr) (n : Nat) (xs : List V), vs = [.ref b, .ref t] ∧ BoxAt H b n ∧ n ≤ 1000000 ∧ t ≠ b ∧ SqL K H t xs ∧ 0 < xs.length ∧ xs.length < 1000000 ∧
  ∀ (H' : Hp) (i : Nat) (x : V), Keep b H H' → BoxAt H' b (n + 1) → xs[i]? = some x → Q x H'
theorem scOf : FnScope ["_law_box_here", "_law_some"] ["_law_box_here", "_law_some"] (defScope sOf) := ⟨rfl, rfl, rfl, by decide +kernel, rfl, by decide +kernel, by decide +kernel⟩
theorem ok_of {f g : Addr} {fd gd : FuncData} {k : Nat} (F : Fun K "_law_of" "_law_of" sOf f fd) (G : FnOk P w K mg base CX0 k g gd ["_law_box_here", "_law_below"] spTake) (bG : Binds K gd ["_law_box_here", "_law_below"] []) (kG : PySem.W.keepIn K (.ref g) = true) (mG : mg "_law_take" = some (.ref g)) (ml : mg "len" = none) :
    FnOk P w K mg base CX0 (k + 1) f fd ["_law_box_here", "_law_some"] (spOf K) := by
  refine F.ok scOf (fun vs H Q E h => ?_) (fun cdv A outer s H vs Q E hr h => ?_)
  · obtain ⟨b, t, n, xs, rfl, _⟩ := h
    rfl
  · obtain ⟨b, t, n, xs, rfl, hb, hn, ntb, hS, h0, h1, q⟩ := h
    refine ⟨_, pss_one (ps_ret (pe_ix ix_list (pv 1) (pe_call G hr (by rfl) mG kG bG .nil pass0 (pa_cons (pv 0) (pa_cons (pe_callB call_len_seq (by rfl) ml PySem.boot_len (pa_cons (pv 1) pa_nil)) pa_nil))) (fun _ _ => rfl))), ?_⟩
    refine ⟨.ref t, rfl, .ref b, rfl, .ref t, rfl, t, _, rfl, .inl hS, ?_⟩
    refine ⟨b, n, _, rfl, hb, hn, (by omega), (by omega), fun H' r k1 b1 r0 r1 => ?_⟩
    have hlt : r.toNat < xs.length := by omega
    have hx : xs[r.toNat]? = some xs[r.toNat] := List.getElem?_eq_getElem hlt
    refine ⟨t, xs, r, xs[r.toNat], rfl, rfl, k1.sqL ntb hS, ?_, q H' r.toNat _ k1 b1 hx⟩
    have za := atI_nat hx
    rw [show ((r.toNat : Nat) : Int) = r by omega] at za
    exact za
/-! ### pick -/
def spPick (K : PySem.W.Frag) : Sp := fun vs H Q _ => ∃ (b : Addr) (v : V) (m : Int) (n : Nat) (ss : List Str), vs = [.ref b, v, .int m] ∧ BoxAt H b n ∧ n ≤ 900000 ∧ 0 ≤ m ∧ ss.length ≤ 100 ∧
  ((∃ t, v = .ref t ∧ t ≠ b ∧ SqL K H t (ss.map V.str)) ∨ ∃ z, v = .str z ∧ signs z = ss) ∧
  ∀ (H' : Hp) (p : Addr) (fs rs : List Str), Keep b H H' → BoxAt H' b (n + 100) → (H p = none) → p ≠ b → H' p = some (.lst (fs.map V.str)) → (fs.length : Int) = min m ss.length → List.Perm (fs ++ rs) ss → Q (.ref p) H'
theorem scPick : FnScope ["_law_box_here", "_law_pool_so", "_law_many_so", "_law_rest", "_law_found", "_law_turn"] ["_law_box_here", "_law_pool_so", "_law_many_so"] (defScope sPick) := ⟨rfl, rfl, rfl, by decide +kernel, rfl, by decide +kernel, by decide +kernel⟩
theorem ok_pick {f g : Addr} {fd gd : FuncData} {k : Nat} (F : Fun K "_law_pick" "_law_pick" sPick f fd) (G : FnOk P w K mg base CX0 k g gd ["_law_box_here", "_law_below"] spTake) (bG : Binds K gd ["_law_box_here", "_law_below"] []) (kG : PySem.W.keepIn K (.ref g) = true) (mG : mg "_law_take" = some (.ref g)) (ml : mg "len" = none) (mL : mg "list" = none) (mr : mg "range" = none) (mm : mg "min" = none) :
    FnOk P w K mg base CX0 (k + 1) f fd ["_law_box_here", "_law_pool_so", "_law_many_so"] (spPick K) := by
  refine F.ok scPick (fun vs H Q E h => ?_) (fun cdv A outer s H vs Q E hr h => ?_)
  · obtain ⟨b, v, m, n, ss, rfl, _⟩ := h
    rfl
  · obtain ⟨b, v, m, n, ss, rfl, hb, hn, hm, h1, hv, q⟩ := h
    refine ⟨_, pss_cons (ps_par (i := 3) (j := 4) (by rfl) scPick.nd rfl rfl (by decide) rfl rfl (pa_cons (pe_callTy (CallR.or call_list_of (call_list_txt (by rfl))) (by rfl) mL (by decide +kernel) (pa_cons (pv 1) pa_nil)) (pa_cons (pe_lst pa_nil) pa_nil)) (by rfl))
      (pss_cons (ps_for PassesOwn.never rfl (pi_range1 (by rfl) mr (pa_cons (pe_callB (call_min2 rfl) (by rfl) mm (by decide +kernel) (pa_cons (pv 2) (pa_cons (pe_callB call_len_seq (by rfl) ml PySem.boot_len (pa_cons (pv 3) pa_nil)) pa_nil))) pa_nil)) (pg_name (i := 5) scPick.nd rfl (.inl rfl))
        (pss_one (ps_expr (pe_bm PySem.F.plainAttrs_list PySem.F.slot_list_append PySem.F.type_list_append mt_append (pv 4)
          (pa_cons (pe_bm PySem.F.plainAttrs_list PySem.F.slot_list_pop PySem.F.type_list_pop mt_popAt (pv 3) (pa_cons (pe_call G hr (by rfl) mG kG bG .nil pass0 (pa_cons (pv 0) (pa_cons (pe_callB call_len_seq (by rfl) ml PySem.boot_len (pa_cons (pv 3) pa_nil)) pa_nil))) pa_nil)) pa_nil)))))
      (pss_one (ps_ret (pv 4)))), ?_⟩
    have hz0 : ∀ z : Str, signs z = ss → z.cps.size ≤ 1000 := fun z e => by
      rw [← e] at h1
      unfold signs at h1
      rw [List.length_map, Array.length_toList] at h1
      omega
    rcases hv with ⟨t, hv1, _, hS⟩ | ⟨z, hv1, hv2⟩
    · refine ⟨v, rfl, .inl ⟨t, _, (by rw [hv1]), .inl hS, fun l nl => ?_⟩⟩
      refine ⟨Nat.zero_le _, fun o no => ⟨_, _, rfl, ?_⟩⟩
      have nbl : b ≠ l := fun z => by
        obtain ⟨_, _, _, e, _⟩ := hb
        rw [z, nl] at e
        cases e
      have nlo : l ≠ o := fun z => by
        rw [← z, upd_same] at no
        cases no
      have nbo : b ≠ o := fun z => by
        obtain ⟨_, _, _, e, _⟩ := hb
        rw [← z, upd_ne nbl, e] at no
        cases no
      have hL : SqL K (upd (upd H l (.lst (ss.map V.str))) o (.lst [])) l (ss.map V.str) := by
        refine SqL.of ?_
        rw [upd_ne nlo]
        exact upd_same
      have s0 : Same H (upd (upd H l (.lst (ss.map V.str))) o (.lst [])) := (same_upd nl).trans (same_upd no)
      have noH : H o = none := by
        rw [upd_ne nlo.symm] at no
        exact no
      have hmn : (if (((ss.map V.str).length : Nat) : Int) < m then (((ss.map V.str).length : Nat) : Int) else m) = min m ss.length := by
        rw [List.length_map]
        split <;> omega
      refine ⟨.int m, rfl, .ref l, rfl, l, _, rfl, .inl hL, _, _, rfl, ?_⟩
      rw [hmn]
      refine ⟨_, rfl, by omega, by omega, for_range (fun i σ H' => ∃ (y5 : Option V) (fs rs : List Str), σ = [some (.ref b), some v, some (.int m), some (.ref l), some (.ref o), y5] ∧ Keep b H H' ∧ BoxAt H' b (n + i) ∧ H' l = some (.lst (rs.map V.str)) ∧ H' o = some (.lst (fs.map V.str)) ∧ fs.length = i ∧ List.Perm (fs ++ rs) ss)
        ⟨none, [], ss, rfl, Keep.of_same s0, hb.same s0, (by rw [upd_ne nlo]; exact upd_same), upd_same, rfl, List.Perm.refl _⟩ ?_ ?_⟩
      · rintro i σ H' hi ⟨y5, fs, rs, rfl, k1, b1, eL, eO, hfl, hp⟩
        have hrl : fs.length + rs.length = ss.length := by
          have z := hp.length_eq
          rw [List.length_append] at z
          exact z
        have hil : i < ss.length := by omega
        refine ⟨.ref o, rfl, .inl ⟨rfl, _, SqL.of eO⟩, .ref l, rfl, .inl ⟨rfl, _, SqL.of eL⟩, .ref b, rfl, .ref l, rfl, l, _, rfl, .inl (SqL.of eL), b, n + i, _, rfl, b1, by omega, (by rw [List.length_map]; omega), (by rw [List.length_map]; omega), fun H2 r k2 b2 r0 r1 => ?_⟩
        rw [List.length_map] at r1
        have hlt : r.toNat < rs.length := by omega
        have eL2 : H2 l = some (.lst (rs.map V.str)) := k2 _ _ nbl.symm eL
        have eO2 : H2 o = some (.lst (fs.map V.str)) := k2 _ _ nbo.symm eO
        have hx : (rs.map V.str)[r.toNat]? = some (.str rs[r.toNat]) := by
          rw [List.getElem?_map, List.getElem?_eq_getElem hlt]
          rfl
        refine ⟨l, _, r, r.toNat, _, rfl, rfl, eL2, by omega, by omega, ?_, hx, ?_⟩
        · unfold seqIndex?
          rw [List.length_map, if_neg (show ¬ r < 0 by omega)]
          simp only [Bool.and_eq_true, decide_eq_true_eq]
          rw [if_pos ⟨r0, r1⟩]
        · refine ⟨o, _, _, rfl, rfl, (by rw [upd_ne nlo.symm]; exact eO2), ?_, ?_⟩
          · rw [List.length_map]
            exact Nat.lt_of_le_of_lt (show fs.length ≤ 1000 by omega) (small1000 (Nat.le_refl _))
          · refine ⟨_, fs ++ [rs[r.toNat]], rs.eraseIdx r.toNat, rfl, fun c u nc e => ?_, ?_, ?_, ?_, ?_, ?_⟩
            · have e2 := k2 c u nc (k1 c u nc e)
              have ncl : c ≠ l := ne_of_none e nl
              have nco : c ≠ o := ne_of_none e noH
              rw [upd_ne nco, upd_ne ncl]
              exact e2
            · obtain ⟨A1, B1, C1, eb, rr⟩ := b2
              exact ⟨A1, B1, C1, by rw [upd_ne nbo, upd_ne nbl]; exact eb, rr⟩
            · rw [upd_ne nlo, upd_same, drop_map]
            · rw [upd_same, List.map_append]
              rfl
            · rw [List.length_append, hfl]
              rfl
            · rw [List.append_assoc]
              exact (List.Perm.append_left fs (out_perm hlt)).trans hp
      · rintro σ H' ⟨y5, fs, rs, rfl, k1, b1, eL, eO, hfl, hp⟩
        exact ⟨.ref o, rfl, q H' o fs rs k1 (b1.up (by omega)) noH nbo.symm eO (by rw [hfl]; omega) hp⟩
    · refine ⟨v, rfl, .inr ⟨z, (by rw [hv1]), hz0 z hv2, fun l nl => ?_⟩⟩
      rw [hv2]
      refine ⟨Nat.zero_le _, fun o no => ⟨_, _, rfl, ?_⟩⟩
      have nbl : b ≠ l := fun z => by
        obtain ⟨_, _, _, e, _⟩ := hb
        rw [z, nl] at e
        cases e
      have nlo : l ≠ o := fun z => by
        rw [← z, upd_same] at no
        cases no
      have nbo : b ≠ o := fun z => by
        obtain ⟨_, _, _, e, _⟩ := hb
        rw [← z, upd_ne nbl, e] at no
        cases no
      have hL : SqL K (upd (upd H l (.lst (ss.map V.str))) o (.lst [])) l (ss.map V.str) := by
        refine SqL.of ?_
        rw [upd_ne nlo]
        exact upd_same
      have s0 : Same H (upd (upd H l (.lst (ss.map V.str))) o (.lst [])) := (same_upd nl).trans (same_upd no)
      have noH : H o = none := by
        rw [upd_ne nlo.symm] at no
        exact no
      have hmn : (if (((ss.map V.str).length : Nat) : Int) < m then (((ss.map V.str).length : Nat) : Int) else m) = min m ss.length := by
        rw [List.length_map]
        split <;> omega
      refine ⟨.int m, rfl, .ref l, rfl, l, _, rfl, .inl hL, _, _, rfl, ?_⟩
      rw [hmn]
      refine ⟨_, rfl, by omega, by omega, for_range (fun i σ H' => ∃ (y5 : Option V) (fs rs : List Str), σ = [some (.ref b), some v, some (.int m), some (.ref l), some (.ref o), y5] ∧ Keep b H H' ∧ BoxAt H' b (n + i) ∧ H' l = some (.lst (rs.map V.str)) ∧ H' o = some (.lst (fs.map V.str)) ∧ fs.length = i ∧ List.Perm (fs ++ rs) ss)
        ⟨none, [], ss, rfl, Keep.of_same s0, hb.same s0, (by rw [upd_ne nlo]; exact upd_same), upd_same, rfl, List.Perm.refl _⟩ ?_ ?_⟩
      · rintro i σ H' hi ⟨y5, fs, rs, rfl, k1, b1, eL, eO, hfl, hp⟩
        have hrl : fs.length + rs.length = ss.length := by
          have z := hp.length_eq
          rw [List.length_append] at z
          exact z
        have hil : i < ss.length := by omega
        refine ⟨.ref o, rfl, .inl ⟨rfl, _, SqL.of eO⟩, .ref l, rfl, .inl ⟨rfl, _, SqL.of eL⟩, .ref b, rfl, .ref l, rfl, l, _, rfl, .inl (SqL.of eL), b, n + i, _, rfl, b1, by omega, (by rw [List.length_map]; omega), (by rw [List.length_map]; omega), fun H2 r k2 b2 r0 r1 => ?_⟩
        rw [List.length_map] at r1
        have hlt : r.toNat < rs.length := by omega
        have eL2 : H2 l = some (.lst (rs.map V.str)) := k2 _ _ nbl.symm eL
        have eO2 : H2 o = some (.lst (fs.map V.str)) := k2 _ _ nbo.symm eO
        have hx : (rs.map V.str)[r.toNat]? = some (.str rs[r.toNat]) := by
          rw [List.getElem?_map, List.getElem?_eq_getElem hlt]
          rfl
        refine ⟨l, _, r, r.toNat, _, rfl, rfl, eL2, by omega, by omega, ?_, hx, ?_⟩
        · unfold seqIndex?
          rw [List.length_map, if_neg (show ¬ r < 0 by omega)]
          simp only [Bool.and_eq_true, decide_eq_true_eq]
          rw [if_pos ⟨r0, r1⟩]
        · refine ⟨o, _, _, rfl, rfl, (by rw [upd_ne nlo.symm]; exact eO2), ?_, ?_⟩
          · rw [List.length_map]
            exact Nat.lt_of_le_of_lt (show fs.length ≤ 1000 by omega) (small1000 (Nat.le_refl _))
          · refine ⟨_, fs ++ [rs[r.toNat]], rs.eraseIdx r.toNat, rfl, fun c u nc e => ?_, ?_, ?_, ?_, ?_, ?_⟩
            · have e2 := k2 c u nc (k1 c u nc e)
              have ncl : c ≠ l := ne_of_none e nl
              have nco : c ≠ o := ne_of_none e noH
              rw [upd_ne nco, upd_ne ncl]
              exact e2
            · obtain ⟨A1, B1, C1, eb, rr⟩ := b2
              exact ⟨A1, B1, C1, by rw [upd_ne nbo, upd_ne nbl]; exact eb, rr⟩
            · rw [upd_ne nlo, upd_same, drop_map]
            · rw [upd_same, List.map_append]
              rfl
            · rw [List.length_append, hfl]
              rfl
            · rw [List.append_assoc]
              exact (List.Perm.append_left fs (out_perm hlt)).trans hp
      · rintro σ H' ⟨y5, fs, rs, rfl, k1, b1, eL, eO, hfl, hp⟩
        exact ⟨.ref o, rfl, q H' o fs rs k1 (b1.up (by omega)) noH nbo.symm eO (by rw [hfl]; omega) hp⟩
end
end K03
namespace K03
open PySem PySem.Spec PyProof.Rows L2 CS
theorem Keep.free {b p : Addr} {H H' : Hp} (k : Keep b H H') (n : p ≠ b) (h : H' p = none) : H p = none := by
  cases e : H p with
  | none => rfl
  | some o =>
    rw [k _ _ n e] at h
    cases h
section
variable {P : Program} {w : World} {K : PySem.W.Frag} {mg : Str → Option Value} {base : Heap}
/-! ### tags -/
def spTags (K : PySem.W.Frag) : Sp := fun vs H Q _ => ∃ (b : Addr) (m : Int) (n : Nat), vs = [.ref b, .int m] ∧ BoxAt H b n ∧ n ≤ 800000 ∧ 0 ≤ m ∧ m ≤ 8 ∧
  ∀ (H' : Hp) (p : Addr) (fs : List Str), Keep b H H' → BoxAt H' b (n + 101) → H p = none → p ≠ b → H' p = some (.lst (fs.map V.str)) → (fs.length : Int) = m → fs.Nodup → (∀ z ∈ fs, PyData.strOk z = true) → Q (.ref p) H'
def pool0 : List Str := ["a", "b", "c", "d", "e", "f", "g", "h"]
def pool1 : List Str := ["a", "ab", "abc", "b", "ba", "z", "zzzzzzzz", "y"]
def pool2 : List Str := ["hall", "hal", "desk", "shop", "yard", "gate", "inn", "ford"]
theorem part_nodup {fs rs ss : List Str} (h : List.Perm (fs ++ rs) ss) (n : ss.Nodup) : fs.Nodup := by
  have q := h.nodup_iff.mpr n
  exact (List.nodup_append.mp q).1
theorem scTags : FnScope ["_law_box_here", "_law_many_so", "_law_kind_so"] ["_law_box_here", "_law_many_so"] (defScope sTags) := ⟨rfl, rfl, rfl, by decide +kernel, rfl, by decide +kernel, by decide +kernel⟩
theorem ok_tags {f g g2 : Addr} {fd gd gd2 : FuncData} {k : Nat} (F : Fun K "_law_tags" "_law_tags" sTags f fd) (G : FnOk P w K mg base CX0 k g gd ["_law_box_here", "_law_below"] spTake) (bG : Binds K gd ["_law_box_here", "_law_below"] []) (kG : PySem.W.keepIn K (.ref g) = true) (mG : mg "_law_take" = some (.ref g))
    (G2 : FnOk P w K mg base CX0 (k + 1) g2 gd2 ["_law_box_here", "_law_pool_so", "_law_many_so"] (spPick K)) (bG2 : Binds K gd2 ["_law_box_here", "_law_pool_so", "_law_many_so"] []) (kG2 : PySem.W.keepIn K (.ref g2) = true) (mG2 : mg "_law_pick" = some (.ref g2)) :
    FnOk P w K mg base CX0 (k + 2) f fd ["_law_box_here", "_law_many_so"] (spTags K) := by
  refine F.ok scTags (fun vs H Q E h => ?_) (fun cdv A outer s H vs Q E hr h => ?_)
  · obtain ⟨b, m, n, rfl, _⟩ := h
    rfl
  · obtain ⟨b, m, n, rfl, hb, hn, hm, hm2, q⟩ := h
    have hr1 : Room k _ := hr.mono (by omega)
    refine ⟨_, pss_cons (ps_set (i := 2) scTags.nd rfl (.inl rfl) (pe_call G hr1 (by rfl) mG kG bG .nil pass0 (pa_cons (pv 0) (pa_cons pe_int pa_nil))))
      (pss_cons (ps_if (pt_cmpR op_eq (pv 2) pe_int (nomark _)) (pss_one (ps_ret (pe_call G2 hr (by rfl) mG2 kG2 bG2 .nil pass0 (pa_cons (pv 0) (pa_cons pe_str (pa_cons (pv 1) pa_nil)))))) pss_nil)
      (pss_cons (ps_if (pt_cmpR op_eq (pv 2) pe_int (nomark _)) (pss_one (ps_ret (pe_call G2 hr (by rfl) mG2 kG2 bG2 .nil pass0 (pa_cons (pv 0) (pa_cons (pe_lst (pa_cons pe_str (pa_cons pe_str (pa_cons pe_str (pa_cons pe_str (pa_cons pe_str (pa_cons pe_str (pa_cons pe_str (pa_cons pe_str pa_nil))))))))) (pa_cons (pv 1) pa_nil)))))) pss_nil)
      (pss_one (ps_ret (pe_call G2 hr (by rfl) mG2 kG2 bG2 .nil pass0 (pa_cons (pv 0) (pa_cons (pe_lst (pa_cons pe_str (pa_cons pe_str (pa_cons pe_str (pa_cons pe_str (pa_cons pe_str (pa_cons pe_str (pa_cons pe_str (pa_cons pe_str pa_nil))))))))) (pa_cons (pv 1) pa_nil)))))))), ?_⟩
    refine ⟨.ref b, rfl, b, n, 3, rfl, hb, by omega, by decide, by decide, fun H1 r k1 b1 r0 r1 => ?_⟩
    have tail : ∀ (H2 : Hp) (ss : List Str), Keep b H H2 → BoxAt H2 b (n + 1) → ss.length = 8 → ss.Nodup → ss.all PyData.strOk = true → ∀ (H' : Hp) (p : Addr) (fs rs : List Str), Keep b H2 H' → BoxAt H' b (n + 1 + 100) → H2 p = none → p ≠ b → H' p = some (.lst (fs.map V.str)) → (fs.length : Int) = min m ss.length → List.Perm (fs ++ rs) ss → Q (.ref p) H' := by
      intro H2 ss k2 b2 hl hnd hok H' p fs rs k3 b3 np npb ep el hp
      refine q H' p fs (k2.trans k3) (b3.up (by omega)) (k2.free npb np) npb ep ?_ (part_nodup hp hnd) fun z hz => List.all_eq_true.mp hok z (hp.mem_iff.mp (List.mem_append_left _ hz))
      rw [el, hl]
      omega
    refine ⟨.int r, rfl, rfl, _, rfl, ?_⟩
    refine ite2 (fun c => ?_) (fun c => ?_)
    · refine ⟨.ref b, rfl, .int m, rfl, b, _, m, n + 1, pool0, rfl, b1, by omega, hm, by decide, .inr ⟨_, rfl, by decide +kernel⟩, ?_⟩
      exact tail H1 pool0 k1 b1 rfl (by decide +kernel) (by decide +kernel)
    · refine ⟨.int r, rfl, rfl, _, rfl, ?_⟩
      refine ite2 (fun c => ?_) (fun c => ?_)
      · refine ⟨.ref b, rfl, (by show 8 ≤ sizeLine; decide), fun t nt => ?_⟩
        have ntb : t ≠ b := fun z => by
          obtain ⟨_, _, _, e, _⟩ := b1
          rw [← z, nt] at e
          cases e
        refine ⟨.int m, rfl, b, _, m, n + 1, pool1, rfl, b1.same (same_upd nt), by omega, hm, by decide, .inl ⟨t, rfl, ntb, SqL.of upd_same⟩, ?_⟩
        exact tail _ pool1 (k1.trans (Keep.of_same (same_upd nt))) (b1.same (same_upd nt)) rfl (by decide +kernel) (by decide +kernel)
      · refine ⟨.ref b, rfl, (by show 8 ≤ sizeLine; decide), fun t nt => ?_⟩
        have ntb : t ≠ b := fun z => by
          obtain ⟨_, _, _, e, _⟩ := b1
          rw [← z, nt] at e
          cases e
        refine ⟨.int m, rfl, b, _, m, n + 1, pool2, rfl, b1.same (same_upd nt), by omega, hm, by decide, .inl ⟨t, rfl, ntb, SqL.of upd_same⟩, ?_⟩
        exact tail _ pool2 (k1.trans (Keep.of_same (same_upd nt))) (b1.same (same_upd nt)) rfl (by decide +kernel) (by decide +kernel)
end
end K03
namespace K03
open PySem PySem.Spec PyProof.Rows L2 CS
section
variable {P : Program} {w : World} {K : PySem.W.Frag} {mg : Str → Option Value} {base : Heap}
/-! ### walk -/
def spWalk (K : PySem.W.Frag) : Sp := fun vs H Q _ => ∃ (b t : Addr) (m : Int) (n : Nat) (ss : List Str), vs = [.ref b, .ref t, .int m] ∧ BoxAt H b n ∧ n ≤ 700000 ∧ t ≠ b ∧ SqL K H t (ss.map V.str) ∧ 2 ≤ ss.length ∧ ss.length ≤ 100 ∧ ss.Nodup ∧ 0 ≤ m ∧ m ≤ 100 ∧
  ∀ (H' : Hp) (p : Addr) (rs : List Str), Keep b H H' → BoxAt H' b (n + 1000) → H p = none → p ≠ b → H' p = some (.tup (rs.map V.str)) → 0 < rs.length → (rs.length : Int) ≤ m + 2 → (∀ r ∈ rs, r ∈ ss) → Q (.ref p) H'
abbrev nWalk : List Str := ["_law_box_here", "_law_tags_here", "_law_most_so", "_law_row_so", "_law_turn", "_law_near", "_law_back_so", "_law_tag"]
theorem scWalk : FnScope nWalk ["_law_box_here", "_law_tags_here", "_law_most_so"] (defScope sWalk) := ⟨rfl, rfl, rfl, by decide +kernel, rfl, by decide +kernel, by decide +kernel⟩
theorem some_other {ss : List Str} (h : 2 ≤ ss.length) (n : ss.Nodup) (x : Str) : 0 < (ss.filter fun y => !decide (V.str y = V.str x)).length := by
  match ss, h, n with
  | a :: c :: r, _, n =>
    have hac : a ≠ c := fun e => by
      have q := (List.nodup_cons.mp n).1
      rw [e] at q
      exact q (List.mem_cons_self ..)
    refine List.length_pos_of_mem (a := if a = x then c else a) ?_
    by_cases e : a = x
    · rw [if_pos e]
      refine List.mem_filter.mpr ⟨List.mem_cons_of_mem _ (List.mem_cons_self ..), ?_⟩
      simp only [Bool.not_eq_true', decide_eq_false_iff_not, V.str.injEq]
      exact fun z => hac (e.trans z.symm)
    · rw [if_neg e]
      refine List.mem_filter.mpr ⟨List.mem_cons_self .., ?_⟩
      simp only [Bool.not_eq_true', decide_eq_false_iff_not, V.str.injEq]
      exact e
theorem atI_neg {xs : List V} {x : V} {j : Nat} (h : xs[xs.length - j]? = some x) (h0 : 0 < j) (hj : j ≤ xs.length) : atI xs (-(j : Int)) = some x := by
  have e : ixN xs.length (-(j : Int)) = some (xs.length - j) := by
    unfold ixN
    rw [if_neg (by omega), if_pos (by omega)]
    congr 1
    omega
  unfold atI
  rw [e]
  exact h
theorem ok_walk {f g g2 : Addr} {fd gd gd2 : FuncData} {k : Nat} (F : Fun K "_law_walk" "_law_walk" sWalk f fd) (G : FnOk P w K mg base CX0 k g gd ["_law_box_here", "_law_below"] spTake) (bG : Binds K gd ["_law_box_here", "_law_below"] []) (kG : PySem.W.keepIn K (.ref g) = true) (mG : mg "_law_take" = some (.ref g))
    (G2 : FnOk P w K mg base CX0 (k + 1) g2 gd2 ["_law_box_here", "_law_some"] (spOf K)) (bG2 : Binds K gd2 ["_law_box_here", "_law_some"] []) (kG2 : PySem.W.keepIn K (.ref g2) = true) (mG2 : mg "_law_of" = some (.ref g2)) (mr : mg "range" = none) (ml : mg "len" = none) (mt : mg "tuple" = none) :
    FnOk P w K mg base CX0 (k + 2) f fd ["_law_box_here", "_law_tags_here", "_law_most_so"] (spWalk K) := by
  refine F.ok scWalk (fun vs H Q E h => ?_) (fun cdv A outer s H vs Q E hr h => ?_)
  · obtain ⟨b, t, m, n, ss, rfl, _⟩ := h
    rfl
  · obtain ⟨b, t, m, n, ss, rfl, hb, hn, ntb, hS, hl, hl2, hnd, hm, hm2, q⟩ := h
    have hr1 : Room k _ := hr.mono (by omega)
    refine ⟨_, pss_cons (ps_set (i := 3) scWalk.nd rfl (.inr rfl) (pe_lst (pa_cons (pe_call G2 hr (by rfl) mG2 kG2 bG2 .nil pass0 (pa_cons (pv 0) (pa_cons (pv 1) pa_nil))) pa_nil)))
      (pss_cons (ps_for PassesOwn.never rfl (pi_range1 (by rfl) mr (pa_cons (pe_call G hr1 (by rfl) mG kG bG .nil pass0 (pa_cons (pv 0) (pa_cons (pe_op op_add (pv 2) pe_int) pa_nil))) pa_nil)) (pg_name (i := 4) scWalk.nd rfl (.inl rfl))
        (pss_cons (ps_setLc (i := 5) (own := [("_law_tag", 7)]) (g := gName 7) rfl scWalk.nd rfl rfl (sw_true rfl rfl rfl (by decide +kernel)) (pi_list (pv 1)) (blkOk_by (own := [("_law_tag", 7)]) (N := nWalk) (sc := defScope sWalk) (by decide +kernel))
            (fun _ _ _ _ _ => pg_name (i := 7) scWalk.nd rfl (Or.inl rfl) (.inr rfl)) (fun _ _ _ _ _ => pts_one (pt_cmpR op_ne (pv 7) (pe_ix (r := rIxL K) ix_list (pv 3) (pe_un un_neg pe_int) (fun _ _ => rfl)) (nomark _))) (fun _ _ _ _ _ => pv 7))
        (pss_cons (ps_set (i := 6) scWalk.nd rfl (.inl rfl) (pe_and (pe_cmpR op_gt (pe_callB call_len_seq (by rfl) ml PySem.boot_len (pa_cons (pv 3) pa_nil)) pe_int (nomark _)) (pe_one (pe_cmpR op_eq (pe_call G hr1 (by rfl) mG kG bG .nil pass0 (pa_cons (pv 0) (pa_cons pe_int pa_nil))) pe_int (nomark _)))))
        (pss_one (ps_expr (pe_bm PySem.F.plainAttrs_list PySem.F.slot_list_append PySem.F.type_list_append mt_append (pv 3)
          (pa_cons (pe_ifExp (pt_val (pv 6)) (pe_ix ix_list (pv 3) (pe_un un_neg pe_int) (fun _ _ => rfl)) (pe_call G2 hr (by rfl) mG2 kG2 bG2 .nil pass0 (pa_cons (pv 0) (pa_cons (pv 5) pa_nil)))) pa_nil)))))))
      (pss_cons (ps_if (PW.pt (pw_and (pt_cmpR op_ne (pe_ix ix_list (pv 3) (pe_un un_neg pe_int) (fun _ _ => rfl)) (pe_ix ix_list (pv 3) pe_int (fun _ _ => rfl)) (nomark _))
          (pw_and (pt_cmpR op_le (pe_callB call_len_seq (by rfl) ml PySem.boot_len (pa_cons (pv 3) pa_nil)) (pv 2) (nomark _)) (pw_and1 (pt_cmpR op_eq (pe_call G hr1 (by rfl) mG kG bG .nil pass0 (pa_cons (pv 0) (pa_cons pe_int pa_nil))) pe_int (nomark _))))))
        (pss_one (ps_expr (pe_bm PySem.F.plainAttrs_list PySem.F.slot_list_append PySem.F.type_list_append mt_append (pv 3) (pa_cons (pe_ix ix_list (pv 3) pe_int (fun _ _ => rfl)) pa_nil)))) pss_nil)
      (pss_one (ps_ret (pe_callTy call_tuple_of (by rfl) mt (by decide +kernel) (pa_cons (pv 3) pa_nil)))))), ?_⟩
    have strOf : ∀ (i : Nat) (x : V) (l : List Str), (l.map V.str)[i]? = some x → ∃ z, x = .str z ∧ l[i]? = some z := fun i x l e => by
      rw [List.getElem?_map] at e
      cases e2 : l[i]? with
      | none =>
        rw [e2] at e
        cases e
      | some z =>
        rw [e2] at e
        exact ⟨z, (Option.some.inj e).symm, rfl⟩
    refine ⟨.ref b, rfl, .ref t, rfl, b, t, n, _, rfl, hb, by omega, ntb, hS, (by rw [List.length_map]; omega), (by rw [List.length_map]; omega), fun H1 i0 x0 k1 b1 hx0 => ?_⟩
    obtain ⟨z0, rfl, hz0⟩ := strOf _ _ _ hx0
    refine ⟨(by show 1 ≤ sizeLine; decide), fun l nl => ?_⟩
    have nbl : b ≠ l := fun z => by
      obtain ⟨_, _, _, e, _⟩ := b1
      rw [z, nl] at e
      cases e
    have noH : H l = none := k1.free nbl.symm nl
    -- how many turns
    refine ⟨.ref b, rfl, .int m, rfl, _, _, rfl, rfl, b, n + 1, _, rfl, b1.same (same_upd nl), by omega, by omega, by omega, fun H2 tn k2 b2 t0 t1 => ?_⟩
    have eL2 : H2 l = some (.lst ([z0].map V.str)) := k2 _ _ nbl.symm upd_same
    have k02 : Keep b H H2 := (k1.trans (Keep.of_same (same_upd nl))).trans k2
    refine ⟨tn, rfl, by omega, by omega, for_range (fun i σ H' => ∃ (y4 y5 y6 y7 : Option V) (rs : List Str), σ = [some (.ref b), some (.ref t), some (.int m), some (.ref l), y4, y5, y6, y7] ∧ Keep b H H' ∧ BoxAt H' b (n + 2 + 2 * i) ∧ H' l = some (.lst (rs.map V.str)) ∧ rs.length = i + 1 ∧ ∀ r ∈ rs, r ∈ ss)
      ⟨none, none, none, none, [z0], rfl, k02, b2, eL2, rfl, fun r hr => by rw [List.mem_singleton.mp hr]; exact List.mem_of_getElem? hz0⟩ ?_ ?_⟩
    · rintro i σ H3 hi ⟨y4, y5, y6, y7, rs, rfl, k3, b3, e3, hrl, hin⟩
      have hil : (i : Int) < tn := by omega
      have hS3 : SqL K H3 t (ss.map V.str) := k3.sqL ntb hS
      obtain ⟨la, hla⟩ : ∃ la, rs[rs.length - 1]? = some la := ⟨rs[rs.length - 1]'(by omega), List.getElem?_eq_getElem (by omega)⟩
      have hlaV : (rs.map V.str)[(rs.map V.str).length - 1]? = some (.str la) := by
        rw [List.length_map, List.getElem?_map, hla]
        rfl
      have atla : atI (rs.map V.str) (-1) = some (.str la) := atI_neg (j := 1) hlaV (by decide) (by rw [List.length_map]; omega)
      refine ⟨.ref t, rfl, t, rfl, ⟨_, hS3⟩, fun D nD => lc_list (K := K) (a := t) (xs := ss.map V.str) (fun j H4 => Same H3 H4 ∧ H4 D = some (.lst (((ss.take j).filter fun y => !decide (V.str y = V.str la)).map V.str))) ⟨same_upd nD, upd_same⟩ (fun j H4 _ z => z.1.seq hS3) ?_ ?_⟩
      · rintro j x H4 hx ⟨s4, eD⟩
        obtain ⟨y, rfl, hy⟩ := strOf _ _ _ hx
        refine ⟨rfl, .str y, rfl, .ref l, rfl, 1, rfl, l, _, -1, .str la, rfl, rfl, SqL.of (s4 _ _ e3), atla, rfl, _, rfl, ?_⟩
        have hj : j < ss.length := (List.getElem?_eq_some_iff.mp hy).1
        rw [take_snoc hy, List.filter_append]
        refine ite2 (fun c => ?_) (fun c => ?_)
        · refine ⟨.str y, rfl, _, eD, ?_, fun c2 o e => ?_, ?_⟩
          · rw [List.length_map]
            refine Nat.lt_of_le_of_lt (Nat.le_trans (List.length_filter_le _ _) ?_) (small1000 (n := 100) (by decide))
            rw [List.length_take]
            omega
          · rw [upd_ne (ne_of_none e nD)]
            exact s4 _ _ e
          · rw [upd_same, List.filter_cons, if_pos c, List.filter_nil, List.map_append]
            rfl
        · rw [List.filter_cons, if_neg c, List.filter_nil, List.append_nil]
          exact ⟨s4, eD⟩
      · rintro H4 ⟨s4, eD⟩
        rw [List.length_map, List.take_length] at eD
        have npos := some_other hl hnd la
        have nle := List.length_filter_le (fun y => !decide (V.str y = V.str la)) ss
        have nin : ∀ y ∈ ss.filter (fun y => !decide (V.str y = V.str la)), y ∈ ss := fun y hy => (List.mem_filter.mp hy).1
        generalize (ss.filter fun y => !decide (V.str y = V.str la)) = near at eD npos nle nin
        have k4 : Keep b H H4 := k3.trans (Keep.of_same s4)
        have b4 := b3.same s4
        have e4 := s4 _ _ e3
        have nDb : D ≠ b := fun z => by
          obtain ⟨_, _, _, e, _⟩ := b3
          rw [← z, nD] at e
          cases e
        have nDl : D ≠ l := fun z => by
          rw [← z, nD] at e3
          cases e3
        have sz : (rs.map V.str).length < sizeLine := by
          rw [List.length_map]
          exact small1000 (n := rs.length) (by omega)
        refine ⟨.ref l, rfl, l, _, rfl, .inl (SqL.of e4), _, _, rfl, rfl, _, rfl, ?_⟩
        refine ite2 (fun c => ?_) (fun c => ?_)
        · have c' : (1 : Int) < ((rs.map V.str).length : Nat) := of_decide_eq_true c
          rw [List.length_map] at c'
          refine ⟨.ref b, rfl, b, _, 3, rfl, b4, by omega, by decide, by decide, fun H5 r k5 b5 r0 r1 => ⟨rfl, ?_⟩⟩
          have e5 := k5 _ _ nbl.symm e4
          refine ⟨.ref l, rfl, .inl ⟨rfl, _, SqL.of e5⟩, .bl _, rfl, _, rfl, ?_⟩
          refine ite2 (fun _ => ?_) (fun _ => ?_)
          · obtain ⟨z, hz2⟩ : ∃ z, rs[rs.length - 2]? = some z := ⟨rs[rs.length - 2]'(by omega), List.getElem?_eq_getElem (by omega)⟩
            have hz : z ∈ ss := hin z (List.mem_of_getElem? hz2)
            have hzV : (rs.map V.str)[(rs.map V.str).length - 2]? = some (.str z) := by
              rw [List.length_map, List.getElem?_map, hz2]
              rfl
            refine ⟨.ref l, rfl, 2, rfl, l, _, -2, .str z, rfl, rfl, SqL.of e5, atI_neg (j := 2) hzV (by decide) (by rw [List.length_map]; omega), ?_⟩
            refine ⟨l, _, _, rfl, rfl, e5, sz, _, _, _, _, rs ++ [z], rfl, fun c2 o nc e => ?_, ?_, ?_, ?_, fun r hr => (List.mem_append.mp hr).elim (hin r) fun hr => by rw [List.mem_singleton.mp hr]; exact hz⟩
            · rw [upd_ne (ne_of_none e noH)]
              exact k5 _ _ nc (k4 _ _ nc e)
            · obtain ⟨A1, B1, C1, eb, q1, q2, q3, q4, q5⟩ := b5
              exact ⟨A1, B1, C1, by rw [upd_ne nbl]; exact eb, q1, q2, q3, q4, by omega⟩
            · rw [upd_same, List.map_append]
              rfl
            · rw [List.length_append, hrl]
              rfl
          · refine ⟨.ref b, rfl, .ref D, rfl, b, D, _, near.map V.str, rfl, b5, by omega, nDb, SqL.of (k5 _ _ nDb eD), (by rw [List.length_map]; omega), (by rw [List.length_map]; omega), fun H6 i6 x6 k6 b6 hx6 => ?_⟩
            obtain ⟨z, rfl, hz6⟩ := strOf _ _ _ hx6
            have hz : z ∈ ss := nin z (List.mem_of_getElem? hz6)
            have e6 := k6 _ _ nbl.symm e5
            refine ⟨l, _, _, rfl, rfl, e6, sz, _, _, _, _, rs ++ [z], rfl, fun c2 o nc e => ?_, ?_, ?_, ?_, fun r hr => (List.mem_append.mp hr).elim (hin r) fun hr => by rw [List.mem_singleton.mp hr]; exact hz⟩
            · rw [upd_ne (ne_of_none e noH)]
              exact k6 _ _ nc (k5 _ _ nc (k4 _ _ nc e))
            · obtain ⟨A1, B1, C1, eb, q1, q2, q3, q4, q5⟩ := b6
              exact ⟨A1, B1, C1, by rw [upd_ne nbl]; exact eb, q1, q2, q3, q4, by omega⟩
            · rw [upd_same, List.map_append]
              rfl
            · rw [List.length_append, hrl]
              rfl
        · refine ⟨.ref l, rfl, .inl ⟨rfl, _, SqL.of e4⟩, .bl _, rfl, _, rfl, ?_⟩
          refine ite2 (fun z => absurd z Bool.false_ne_true) (fun _ => ?_)
          refine ⟨.ref b, rfl, .ref D, rfl, b, D, _, near.map V.str, rfl, b4, by omega, nDb, SqL.of eD, (by rw [List.length_map]; omega), (by rw [List.length_map]; omega), fun H6 i6 x6 k6 b6 hx6 => ?_⟩
          obtain ⟨z, rfl, hz6⟩ := strOf _ _ _ hx6
          have hz : z ∈ ss := nin z (List.mem_of_getElem? hz6)
          have e6 := k6 _ _ nbl.symm e4
          refine ⟨l, _, _, rfl, rfl, e6, sz, _, _, _, _, rs ++ [z], rfl, fun c2 o nc e => ?_, ?_, ?_, ?_, fun r hr => (List.mem_append.mp hr).elim (hin r) fun hr => by rw [List.mem_singleton.mp hr]; exact hz⟩
          · rw [upd_ne (ne_of_none e noH)]
            exact k6 _ _ nc (k4 _ _ nc e)
          · obtain ⟨A1, B1, C1, eb, q1, q2, q3, q4, q5⟩ := b6
            exact ⟨A1, B1, C1, by rw [upd_ne nbl]; exact eb, q1, q2, q3, q4, by omega⟩
          · rw [upd_same, List.map_append]
            rfl
          · rw [List.length_append, hrl]
            rfl
    · rintro σ H3 ⟨y4, y5, y6, y7, rs, rfl, k3, b3, e3, hrl, hin⟩
      obtain ⟨la, hla⟩ : ∃ la, rs[rs.length - 1]? = some la := ⟨rs[rs.length - 1]'(by omega), List.getElem?_eq_getElem (by omega)⟩
      have hlaV : (rs.map V.str)[(rs.map V.str).length - 1]? = some (.str la) := by
        rw [List.length_map, List.getElem?_map, hla]
        rfl
      have atla : atI (rs.map V.str) (-1) = some (.str la) := atI_neg (j := 1) hlaV (by decide) (by rw [List.length_map]; omega)
      obtain ⟨fi, hfi⟩ : ∃ fi, rs[0]? = some fi := ⟨rs[0]'(by omega), List.getElem?_eq_getElem (by omega)⟩
      have hfiV : (rs.map V.str)[0]? = some (.str fi) := by
        rw [List.getElem?_map, hfi]
        rfl
      have atfi : atI (rs.map V.str) 0 = some (.str fi) := atI_nat (j := 0) hfiV
      have sz : (rs.map V.str).length < sizeLine := by
        rw [List.length_map]
        exact small1000 (n := rs.length) (by omega)
      refine ⟨.ref l, rfl, 1, rfl, l, _, -1, .str la, rfl, rfl, SqL.of e3, atla, .ref l, rfl, l, _, 0, .str fi, rfl, rfl, SqL.of e3, atfi, rfl, _, rfl, ?_⟩
      refine ite2 (fun c => ?_) (fun c => ?_)
      · refine ⟨.ref l, rfl, l, _, rfl, .inl (SqL.of e3), .int m, rfl, _, _, rfl, rfl, _, rfl, ?_⟩
        refine ite2 (fun c => ?_) (fun c => ?_)
        · have c' : (((rs.map V.str).length : Nat) : Int) ≤ m := of_decide_eq_true c
          rw [List.length_map] at c'
          refine ⟨.ref b, rfl, b, _, 3, rfl, b3, by omega, by decide, by decide, fun H5 r k5 b5 r0 r1 => ⟨rfl, _, rfl, ?_⟩⟩
          have e5 := k5 _ _ nbl.symm e3
          refine ite2 (fun c => ?_) (fun c => ?_)
          · refine ⟨.ref l, rfl, .inl ⟨rfl, _, SqL.of e5⟩, .ref l, rfl, l, _, 0, .str fi, rfl, rfl, SqL.of e5, atfi, ?_⟩
            refine ⟨l, _, _, rfl, rfl, e5, sz, ?_⟩
            have kR : Keep b H (upd H5 l (.lst (rs.map V.str ++ [.str fi]))) := fun c2 o nc e => by
              rw [upd_ne (ne_of_none e noH)]
              exact k5 _ _ nc (k3 _ _ nc e)
            have bR : BoxAt (upd H5 l (.lst (rs.map V.str ++ [.str fi]))) b (n + 2 + 2 * tn.toNat + 1) := by
              obtain ⟨A1, B1, C1, eb, q1⟩ := b5
              exact ⟨A1, B1, C1, by rw [upd_ne nbl]; exact eb, q1⟩
            have eR : upd H5 l (.lst (rs.map V.str ++ [.str fi])) l = some (.lst ((rs ++ [fi]).map V.str)) := by
              rw [upd_same, List.map_append]
              rfl
            have hpos : 0 < (rs ++ [fi]).length := by rw [List.length_append, List.length_singleton]; omega
            have hle : (((rs ++ [fi]).length : Nat) : Int) ≤ m + 2 := by rw [List.length_append, List.length_singleton]; omega
            have hmem : ∀ r ∈ rs ++ [fi], r ∈ ss := fun r hr => (List.mem_append.mp hr).elim (hin r) fun hr => by rw [List.mem_singleton.mp hr]; exact hin _ (List.mem_of_getElem? hfi)
            generalize rs ++ [fi] = rr at eR hpos hle hmem
            exact ⟨.ref l, rfl, l, _, rfl, .inl ⟨SqL.of eR, fun p np => q _ p rr (kR.trans (Keep.of_same (same_upd np))) ((bR.up (by omega)).same (same_upd np)) (kR.free (fun z => by rw [z] at np; obtain ⟨_, _, _, e, _⟩ := bR; rw [np] at e; cases e) np) (fun z => by rw [z] at np; obtain ⟨_, _, _, e, _⟩ := bR; rw [np] at e; cases e) upd_same hpos (by omega) hmem⟩⟩
          · have kR := k3.trans k5
            have bR := b5
            have eR := e5
            have hpos : 0 < rs.length := by omega
            have hle : ((rs.length : Nat) : Int) ≤ m + 2 := by omega
            have hmem := hin
            generalize rs = rr at eR hpos hle hmem
            exact ⟨.ref l, rfl, l, _, rfl, .inl ⟨SqL.of eR, fun p np => q _ p rr (kR.trans (Keep.of_same (same_upd np))) ((bR.up (by omega)).same (same_upd np)) (kR.free (fun z => by rw [z] at np; obtain ⟨_, _, _, e, _⟩ := bR; rw [np] at e; cases e) np) (fun z => by rw [z] at np; obtain ⟨_, _, _, e, _⟩ := bR; rw [np] at e; cases e) upd_same hpos (by omega) hmem⟩⟩
        · have kR := k3
          have bR := b3
          have eR := e3
          have hpos : 0 < rs.length := by omega
          have hle : ((rs.length : Nat) : Int) ≤ m + 2 := by omega
          have hmem := hin
          generalize rs = rr at eR hpos hle hmem
          exact ⟨.ref l, rfl, l, _, rfl, .inl ⟨SqL.of eR, fun p np => q _ p rr (kR.trans (Keep.of_same (same_upd np))) ((bR.up (by omega)).same (same_upd np)) (kR.free (fun z => by rw [z] at np; obtain ⟨_, _, _, e, _⟩ := bR; rw [np] at e; cases e) np) (fun z => by rw [z] at np; obtain ⟨_, _, _, e, _⟩ := bR; rw [np] at e; cases e) upd_same hpos (by omega) hmem⟩⟩
      · have kR := k3
        have bR := b3
        have eR := e3
        have hpos : 0 < rs.length := by omega
        have hle : ((rs.length : Nat) : Int) ≤ m + 2 := by omega
        have hmem := hin
        generalize rs = rr at eR hpos hle hmem
        exact ⟨.ref l, rfl, l, _, rfl, .inl ⟨SqL.of eR, fun p np => q _ p rr (kR.trans (Keep.of_same (same_upd np))) ((bR.up (by omega)).same (same_upd np)) (kR.free (fun z => by rw [z] at np; obtain ⟨_, _, _, e, _⟩ := bR; rw [np] at e; cases e) np) (fun z => by rw [z] at np; obtain ⟨_, _, _, e, _⟩ := bR; rw [np] at e; cases e) upd_same hpos (by omega) hmem⟩⟩
end
end K03
namespace K03
open PySem PySem.Spec PyProof.Rows L2 CS RZ
/-! ### same -/
def okD : Nat → PyData → Prop
  | 0, _ => False
  | _ + 1, .int _ => True
  | _ + 1, .str _ => True
  | n + 1, .list ds => ds.length ≤ 1000 ∧ ∀ d ∈ ds, okD n d
  | n + 1, .tuple ds => ds.length ≤ 1000 ∧ ∀ d ∈ ds, okD n d
  | _ + 1, _ => False
mutual
theorem dp_same {K : PySem.W.Frag} {H H' : Hp} (s : Same H H') : ∀ {v : V} {d : PyData}, Dp K H v d → Dp K H' v d
  | _, _, .non => .non
  | _, _, .bl b => .bl b
  | _, _, .int i => .int i
  | _, _, .str x => .str x
  | _, _, .lst q r => .lst (s.seq q) (dp_sameAll s r)
  | _, _, .tup q r => .tup (sqT_same s q) (dp_sameAll s r)
theorem dp_sameAll {K : PySem.W.Frag} {H H' : Hp} (s : Same H H') : ∀ {vs : List V} {ds : List PyData}, DpAll K H vs ds → DpAll K H' vs ds
  | _, _, .nil => .nil
  | _, _, .cons q r => .cons (dp_same s q) (dp_sameAll s r)
end
theorem dpAll_len {K : PySem.W.Frag} {H : Hp} : ∀ {ds : List PyData} {vs : List V}, DpAll K H vs ds → vs.length = ds.length
  | _, _, .nil => rfl
  | _, _, .cons _ r => congrArg (· + 1) (dpAll_len r)
theorem dpAll_at {K : PySem.W.Frag} {H : Hp} : ∀ {ds : List PyData} {vs : List V}, DpAll K H vs ds → ∀ {i : Nat} {v : V}, vs[i]? = some v → ∃ d, ds[i]? = some d ∧ Dp K H v d
  | _, _, .nil, i, _, h => by cases h
  | _, _, .cons q r, 0, _, h => by cases h; exact ⟨_, rfl, q⟩
  | _, _, .cons q r, i + 1, v, h => dpAll_at r (i := i) h
theorem tyL {K : PySem.W.Frag} {H : Hp} {a : Addr} {xs : List V} (h : SqL K H a xs) : TyX K H (.ref a) (.type "list") := by
  rcases h with (h | ⟨o, h⟩) | ⟨o, its, n, h, c, _⟩
  · exact .base (.lst h)
  · exact .base (.frz h)
  · exact .kList h c
theorem tyT {K : PySem.W.Frag} {H : Hp} {a : Addr} {xs : List V} (h : SqT K H a xs) : TyX K H (.ref a) (.type "tuple") := by
  rcases h with (h | ⟨o, h⟩) | ⟨o, its, n, h, c, _⟩
  · exact .base (.tup h)
  · exact .fTuple h
  · exact .kTuple h c
theorem walk_zipT {K : PySem.W.Frag} {a b : Addr} {xs ys : List V} {n : Nat} (hn : n = min xs.length ys.length) : Walk (ItzT K a b) n (fun H => SqT K H a xs ∧ SqT K H b ys) (YPair (fun i => xs[i]?) (fun i => ys[i]?)) := by
  subst hn
  refine ⟨fun i H hi q => ?_, fun H q => ⟨xs, ys, q.1, q.2, by omega⟩, fun i H v H' hi q y => ?_⟩
  · have l1 : i < xs.length := by omega
    have l2 : i < ys.length := by omega
    exact ⟨xs, ys, xs[i], ys[i], q.1, q.2, by simp [l1], by simp [l2]⟩
  · obtain ⟨T, x, z, e1, e2, e3, e4, e5⟩ := y
    exact ⟨T, x, z, e1, e2, e3, e4 xs q.1, e5 ys q.2⟩
section
variable {P : Program} {w : World} {K : PySem.W.Frag} {mg : Str → Option Value} {base : Heap}
def spSame (K : PySem.W.Frag) (n : Nat) : Sp := fun vs H Q _ => ∃ (x y : V) (d : PyData), vs = [x, y] ∧ Dp K H x d ∧ Dp K H y d ∧ okD n d ∧ ∀ H' : Hp, Same H H' → Q (.bl true) H'
/-- what the top says of the built-ins that same asks -/
structure SmT (mg : Str → Option Value) : Prop where
  is : mg "isinstance" = none
  li : mg "list" = none
  tu : mg "tuple" = none
  le : mg "len" = none
  al : mg "all" = none
  zi : mg "zip" = none
  bo : mg "bool" = none
  st : mg "str" = none
  int : mg "int" = none
abbrev nSame : List Str := ["_law_got", "_law_due", "_law_mine", "_law_its"]
theorem scSame : FnScope nSame ["_law_got", "_law_due"] (defScope sSame) := ⟨rfl, rfl, rfl, by decide +kernel, rfl, by decide +kernel, by decide +kernel⟩
theorem same_none {f : Addr} {fd : FuncData} : FnOk P w K mg base CX0 0 f fd ["_law_got", "_law_due"] (spSame K 0) := by
  have no : ∀ vs H Q E, ¬ spSame K 0 vs H Q E := fun vs H Q E h => by
    obtain ⟨_, _, d, _, _, _, h, _⟩ := h
    cases d <;> exact h
  exact ⟨fun vs H Q E h => absurd h (no vs H Q E), fun A outer s H args us vs Q E _ _ _ _ h => absurd h (no vs H Q E)⟩
theorem isi_one {t c : String} {b : Bool} (h : kitB t c = some b) : PySem.W.kitOne K (.type t) (.type c) = some b := kit_ty h
theorem any_ff {t a b : String} (h1 : kitB t a = some false) (h2 : kitB t b = some false) : PySem.W.kitAny K (.type t) [.type a, .type b] = some false :=
  kitAny_cons (kit_ty h1) (fun _ => kitAny_cons (kit_ty h2) (fun _ => kitAny_nil) fun z => nomatch z) fun z => nomatch z
theorem any_t {t a b : String} (h1 : kitB t a = some true) : PySem.W.kitAny K (.type t) [.type a, .type b] = some true := kitAny_cons (kit_ty h1) (fun z => nomatch z) fun _ => rfl
theorem any_ft {t a b : String} (h1 : kitB t a = some false) (h2 : kitB t b = some true) : PySem.W.kitAny K (.type t) [.type a, .type b] = some true :=
  kitAny_cons (kit_ty h1) (fun _ => kitAny_cons (kit_ty h2) (fun z => nomatch z) fun _ => rfl) fun _ => rfl
theorem all_yes : ∀ n : Nat, (List.replicate n true).all id = true
  | 0 => rfl
  | n + 1 => by
    rw [List.replicate_succ, List.all_cons, all_yes n]
    rfl
theorem ok_same {n : Nat} {f : Addr} {fd : FuncData} (F : Fun K "_law_same" "_law_same" sSame f fd) (G : FnOk P w K mg base CX0 n f fd ["_law_got", "_law_due"] (spSame K n)) (bG : Binds K fd ["_law_got", "_law_due"] []) (mG : mg "_law_same" = some (.ref f)) (T : SmT mg) :
    FnOk P w K mg base CX0 (n + 1) f fd ["_law_got", "_law_due"] (spSame K (n + 1)) := by
  refine F.ok scSame (fun vs H Q E h => ?_) (fun cdv A outer s H vs Q E hr h => ?_)
  · obtain ⟨x, y, d, rfl, _⟩ := h
    rfl
  · obtain ⟨x, y, d, rfl, hx, hy, hd, q⟩ := h
    refine ⟨_, pss_cons (ps_if (pt_val (pe_callB call_isiT (by rfl) T.is (by decide +kernel) (pa_cons (pv 1) (pa_cons (pe_tup (pa_cons (pe_bltn (v := .ty "list") (by rfl) T.li (by decide +kernel) rfl) (pa_cons (pe_bltn (v := .ty "tuple") (by rfl) T.tu (by decide +kernel) rfl) pa_nil))) pa_nil))))
        (pss_cons (ps_if (PW.pt (pw_or (pt_cmpR op_ne (pe_callB call_isi (by rfl) T.is (by decide +kernel) (pa_cons (pv 0) (pa_cons (pe_bltn (v := .ty "list") (by rfl) T.li (by decide +kernel) rfl) pa_nil))) (pe_callB call_isi (by rfl) T.is (by decide +kernel) (pa_cons (pv 1) (pa_cons (pe_bltn (v := .ty "list") (by rfl) T.li (by decide +kernel) rfl) pa_nil))) (nomark _))
            (pw_or1 (pt_cmpR op_ne (pe_callB call_isi (by rfl) T.is (by decide +kernel) (pa_cons (pv 0) (pa_cons (pe_bltn (v := .ty "tuple") (by rfl) T.tu (by decide +kernel) rfl) pa_nil))) (pe_callB call_isi (by rfl) T.is (by decide +kernel) (pa_cons (pv 1) (pa_cons (pe_bltn (v := .ty "tuple") (by rfl) T.tu (by decide +kernel) rfl) pa_nil))) (nomark _)))))
          (pss_one (ps_ret (pe_bl))) pss_nil)
        (pss_one (ps_ret (pe_and (pe_cmpR op_eq (pe_callB call_len_seq (by rfl) T.le PySem.boot_len (pa_cons (pv 0) pa_nil)) (pe_callB call_len_seq (by rfl) T.le PySem.boot_len (pa_cons (pv 1) pa_nil)) (nomark _))
          (pe_one (pe_callB (cr_all rfl) (by rfl) T.al (by decide +kernel) (pa_cons (pe_lc (own := [("_law_mine", 2), ("_law_its", 3)]) (g := gTup K 2 (gCons (gName 2) (gCons (gName 3) gNil))) (by rfl) scSame.nd (pi_zipA (by rfl) T.zi (pa_cons (pv 0) (pa_cons (pv 1) pa_nil)))
            (blkOk_by (own := [("_law_mine", 2), ("_law_its", 3)]) (N := nSame) (sc := defScope sSame) (by decide +kernel))
            (fun _ _ _ _ _ => pg_tup rfl (pgs_cons (pg_name (i := 2) scSame.nd rfl (Or.inl rfl) (.inr rfl)) (pgs_cons (pg_name (i := 3) scSame.nd rfl (Or.inl rfl) (.inr rfl)) pgs_nil))) (fun _ _ _ _ _ => pts_nil)
            (fun _ _ _ _ _ => pe_call G hr (by rfl) mG F.kp bG .nil pass0 (pa_cons (pv 2) (pa_cons (pv 3) pa_nil)))) pa_nil))))))) pss_nil)
      (pss_cons (ps_if (PW.pt (pw_or (pt_cmpR op_isN (pv 1) pe_non (nomark _)) (pw_or1 (pt_val (pe_callB call_isiT (by rfl) T.is (by decide +kernel) (pa_cons (pv 1) (pa_cons (pe_tup (pa_cons (pe_bltn (v := .ty "bool") (by rfl) T.bo (by decide +kernel) rfl) (pa_cons (pe_bltn (v := .ty "str") (by rfl) T.st (by decide +kernel) rfl) pa_nil))) pa_nil)))))))
        (pss_one (ps_ret (pe_and (pe_cmpR op_eq (pv 0) (pv 1) (nomark _)) (pe_and (pe_cmpR op_eq (pe_callB call_isi (by rfl) T.is (by decide +kernel) (pa_cons (pv 0) (pa_cons (pe_bltn (v := .ty "bool") (by rfl) T.bo (by decide +kernel) rfl) pa_nil))) (pe_callB call_isi (by rfl) T.is (by decide +kernel) (pa_cons (pv 1) (pa_cons (pe_bltn (v := .ty "bool") (by rfl) T.bo (by decide +kernel) rfl) pa_nil))) (nomark _))
          (pe_one (pe_cmpR op_eq (pe_cmpR op_isN (pv 0) pe_non (nomark _)) (pe_cmpR op_isN (pv 1) pe_non (nomark _)) (nomark _))))))) pss_nil)
      (pss_one (ps_ret (pe_and (pe_callB call_isi (by rfl) T.is (by decide +kernel) (pa_cons (pv 0) (pa_cons (pe_bltn (v := .ty "int") (by rfl) T.int (by decide +kernel) rfl) pa_nil)))
        (pe_and (pe_not (pe_callB call_isi (by rfl) T.is (by decide +kernel) (pa_cons (pv 0) (pa_cons (pe_bltn (v := .ty "bool") (by rfl) T.bo (by decide +kernel) rfl) pa_nil)))) (pe_one (pe_cmpR op_eq (pv 0) (pv 1) (nomark _)))))))), ?_⟩
    have two : 2 ≤ sizeLine := by decide
    cases d with
    | int i =>
      cases hx
      cases hy
      refine ⟨.int i, rfl, two, fun p np => ⟨_, p, _, _, _, false, rfl, upd_same, .cons (.ty _) (.cons (.ty _) .nil), .base (.int i), any_ff (by decide +kernel) (by decide +kernel), _, rfl, ?_⟩⟩
      refine ite2 (fun z => absurd z Bool.false_ne_true) (fun _ => ?_)
      refine ⟨.int i, rfl, rfl, _, rfl, ?_⟩
      refine ite2 (fun z => absurd (of_decide_eq_true z) (fun e => by cases e)) (fun _ => ?_)
      refine ⟨.int i, rfl, two, fun p2 np2 => ⟨_, p2, _, _, _, false, rfl, upd_same, .cons (.ty _) (.cons (.ty _) .nil), .base (.int i), any_ff (by decide +kernel) (by decide +kernel), _, rfl, ?_⟩⟩
      refine ite2 (fun z => absurd z Bool.false_ne_true) (fun _ => ?_)
      refine ⟨.int i, rfl, _, _, _, _, true, rfl, .ty _, .base (.int i), isi_one (by decide +kernel), _, rfl, ?_⟩
      refine ite2 (fun _ => ?_) (fun z => absurd rfl z)
      refine ⟨.int i, rfl, _, _, _, _, false, rfl, .ty _, .base (.int i), isi_one (by decide +kernel), _, rfl, _, rfl, ?_⟩
      refine ite2 (fun _ => ?_) (fun z => absurd rfl z)
      refine ⟨.int i, rfl, .int i, rfl, rfl, ?_⟩
      have e : decide (V.int i = V.int i) = true := decide_eq_true rfl
      rw [e]
      exact q _ ((same_upd np).trans (same_upd np2))
    | str z =>
      cases hx
      cases hy
      refine ⟨.str z, rfl, two, fun p np => ⟨_, p, _, _, _, false, rfl, upd_same, .cons (.ty _) (.cons (.ty _) .nil), .base (.str z), any_ff (by decide +kernel) (by decide +kernel), _, rfl, ?_⟩⟩
      refine ite2 (fun z => absurd z Bool.false_ne_true) (fun _ => ?_)
      refine ⟨.str z, rfl, rfl, _, rfl, ?_⟩
      refine ite2 (fun z => absurd (of_decide_eq_true z) (fun e => by cases e)) (fun _ => ?_)
      refine ⟨.str z, rfl, two, fun p2 np2 => ⟨_, p2, _, _, _, true, rfl, upd_same, .cons (.ty _) (.cons (.ty _) .nil), .base (.str z), any_ft (by decide +kernel) (by decide +kernel), _, rfl, ?_⟩⟩
      refine ite2 (fun _ => ?_) (fun z => absurd rfl z)
      refine ⟨.str z, rfl, .str z, rfl, rfl, _, rfl, ?_⟩
      refine ite2 (fun _ => ?_) (fun e => absurd (decide_eq_true rfl) e)
      refine ⟨.str z, rfl, _, _, _, _, false, rfl, .ty _, .base (.str z), isi_one (by decide +kernel), .str z, rfl, _, _, _, _, false, rfl, .ty _, .base (.str z), isi_one (by decide +kernel), rfl, _, rfl, ?_⟩
      refine ite2 (fun _ => ?_) (fun e => absurd rfl e)
      refine ⟨.str z, rfl, rfl, .str z, rfl, rfl, rfl, ?_⟩
      have e : decide (V.bl (decide (V.str z = V.non)) = V.bl (decide (V.str z = V.non))) = true := decide_eq_true rfl
      rw [e]
      exact q _ ((same_upd np).trans (same_upd np2))
    | list ds =>
      obtain ⟨hlen, hds⟩ := hd
      cases hx with
      | lst hxs hxa =>
      cases hy with
      | lst hys hya =>
      rename_i a xs b ys
      have lx := dpAll_len hxa
      have ly := dpAll_len hya
      refine ⟨.ref b, rfl, two, fun p np => ⟨_, p, _, _, _, true, rfl, upd_same, .cons (.ty _) (.cons (.ty _) .nil), tyL ((same_upd np).seq hys), any_t (by decide +kernel), _, rfl, ?_⟩⟩
      refine ite2 (fun _ => ?_) (fun z => absurd rfl z)
      have s1 : Same H (upd H p (.tup [.ty "list", .ty "tuple"])) := same_upd np
      have hxs1 := (s1).seq hxs
      have hys1 := (s1).seq hys
      refine ⟨.ref a, rfl, _, _, _, _, true, rfl, .ty _, tyL hxs1, isi_one (by decide +kernel), .ref b, rfl, _, _, _, _, true, rfl, .ty _, tyL hys1, isi_one (by decide +kernel), rfl, _, rfl, ?_⟩
      refine ite2 (fun c => by rw [decide_eq_true rfl] at c; cases c) (fun _ => ?_)
      refine ⟨.ref a, rfl, _, _, _, _, false, rfl, .ty _, tyL hxs1, isi_one (by decide +kernel), .ref b, rfl, _, _, _, _, false, rfl, .ty _, tyL hys1, isi_one (by decide +kernel), rfl, _, rfl, ?_⟩
      refine ite2 (fun c => by rw [decide_eq_true rfl] at c; cases c) (fun _ => ?_)
      refine ⟨.ref a, rfl, a, _, rfl, .inl hxs1, .ref b, rfl, b, _, rfl, .inl hys1, rfl, _, rfl, ?_⟩
      refine ite2 (fun _ => ?_) (fun z => absurd (decide_eq_true (congrArg V.int (by rw [lx, ly]))) z)
      refine ⟨.ref a, rfl, .ref b, rfl, a, b, xs, ys, rfl, .inl ⟨hxs1, hys1, fun D nD => lc_it (walk_zip (K := K) (a := a) (b := b) (xs := xs) (ys := ys) rfl)
        (fun i H' => Same (upd H p (.tup [.ty "list", .ty "tuple"])) H' ∧ H' D = some (.lst ((List.replicate i true).map V.bl))) ⟨same_upd nD, upd_same⟩ (fun i H' _ z => ⟨(z.1).seq hxs1, (z.1).seq hys1⟩) ?_ ?_⟩⟩
      · rintro i v H2 H3 hi ⟨s2, eD⟩ ⟨T1, x1, y1, rfl, nT, rfl, hx1, hy1⟩
        obtain ⟨d1, e1, r1⟩ := dpAll_at hxa hx1
        obtain ⟨d2, e2, r2⟩ := dpAll_at hya hy1
        have ed : d1 = d2 := by
          rw [e1] at e2
          exact Option.some.inj e2
        subst ed
        have s3 : Same (upd H p (.tup [.ty "list", .ty "tuple"])) (upd H2 T1 (.tup [x1, y1])) := s2.trans (same_upd nT)
        have hi' : i < 1000 := by omega
        refine ⟨T1, [x1, y1], rfl, SqT.of upd_same, rfl, x1, [y1], rfl, y1, [], rfl, rfl, ?_⟩
        refine ⟨rfl, ?_⟩
        unfold tYes
        refine ite2 (fun _ => ?_) (fun z => absurd rfl z)
        refine ⟨x1, rfl, y1, rfl, x1, y1, d1, rfl, dp_same (s1.trans s3) r1, dp_same (s1.trans s3) r2, hds d1 (List.mem_of_getElem? e1), fun H4 s4 => ?_⟩
        have eD4 : H4 D = some (.lst ((List.replicate i true).map V.bl)) := s4 _ _ (by rw [upd_ne (ne_of_none eD nT)]; exact eD)
        refine ⟨_, eD4, ?_, fun c o e => ?_, ?_⟩
        · rw [List.length_map, List.length_replicate]
          exact small1000 (Nat.le_of_lt hi')
        · rw [upd_ne (ne_of_none e nD)]
          exact s4 _ _ (s3 _ _ e)
        · rw [upd_same, List.replicate_succ', List.map_append]
          rfl
      · rintro H2 ⟨s2, eD⟩
        refine ⟨D, _, rfl, SqL.of eD, ?_⟩
        rw [all_yes]
        exact q _ (s1.trans s2)
    | tuple ds =>
      obtain ⟨hlen, hds⟩ := hd
      cases hx with
      | tup hxs hxa =>
      cases hy with
      | tup hys hya =>
      rename_i a xs b ys
      have lx := dpAll_len hxa
      have ly := dpAll_len hya
      refine ⟨.ref b, rfl, two, fun p np => ⟨_, p, _, _, _, true, rfl, upd_same, .cons (.ty _) (.cons (.ty _) .nil), tyT (sqT_same (same_upd np) hys), any_ft (by decide +kernel) (by decide +kernel), _, rfl, ?_⟩⟩
      refine ite2 (fun _ => ?_) (fun z => absurd rfl z)
      have s1 : Same H (upd H p (.tup [.ty "list", .ty "tuple"])) := same_upd np
      have hxs1 := sqT_same (s1) hxs
      have hys1 := sqT_same (s1) hys
      refine ⟨.ref a, rfl, _, _, _, _, false, rfl, .ty _, tyT hxs1, isi_one (by decide +kernel), .ref b, rfl, _, _, _, _, false, rfl, .ty _, tyT hys1, isi_one (by decide +kernel), rfl, _, rfl, ?_⟩
      refine ite2 (fun c => by rw [decide_eq_true rfl] at c; cases c) (fun _ => ?_)
      refine ⟨.ref a, rfl, _, _, _, _, true, rfl, .ty _, tyT hxs1, isi_one (by decide +kernel), .ref b, rfl, _, _, _, _, true, rfl, .ty _, tyT hys1, isi_one (by decide +kernel), rfl, _, rfl, ?_⟩
      refine ite2 (fun c => by rw [decide_eq_true rfl] at c; cases c) (fun _ => ?_)
      refine ⟨.ref a, rfl, a, _, rfl, .inr hxs1, .ref b, rfl, b, _, rfl, .inr hys1, rfl, _, rfl, ?_⟩
      refine ite2 (fun _ => ?_) (fun z => absurd (decide_eq_true (congrArg V.int (by rw [lx, ly]))) z)
      refine ⟨.ref a, rfl, .ref b, rfl, a, b, xs, ys, rfl, .inr ⟨hxs1, hys1, fun D nD => lc_it (walk_zipT (K := K) (a := a) (b := b) (xs := xs) (ys := ys) rfl)
        (fun i H' => Same (upd H p (.tup [.ty "list", .ty "tuple"])) H' ∧ H' D = some (.lst ((List.replicate i true).map V.bl))) ⟨same_upd nD, upd_same⟩ (fun i H' _ z => ⟨sqT_same (z.1) hxs1, sqT_same (z.1) hys1⟩) ?_ ?_⟩⟩
      · rintro i v H2 H3 hi ⟨s2, eD⟩ ⟨T1, x1, y1, rfl, nT, rfl, hx1, hy1⟩
        obtain ⟨d1, e1, r1⟩ := dpAll_at hxa hx1
        obtain ⟨d2, e2, r2⟩ := dpAll_at hya hy1
        have ed : d1 = d2 := by
          rw [e1] at e2
          exact Option.some.inj e2
        subst ed
        have s3 : Same (upd H p (.tup [.ty "list", .ty "tuple"])) (upd H2 T1 (.tup [x1, y1])) := s2.trans (same_upd nT)
        have hi' : i < 1000 := by omega
        refine ⟨T1, [x1, y1], rfl, SqT.of upd_same, rfl, x1, [y1], rfl, y1, [], rfl, rfl, ?_⟩
        refine ⟨rfl, ?_⟩
        unfold tYes
        refine ite2 (fun _ => ?_) (fun z => absurd rfl z)
        refine ⟨x1, rfl, y1, rfl, x1, y1, d1, rfl, dp_same (s1.trans s3) r1, dp_same (s1.trans s3) r2, hds d1 (List.mem_of_getElem? e1), fun H4 s4 => ?_⟩
        have eD4 : H4 D = some (.lst ((List.replicate i true).map V.bl)) := s4 _ _ (by rw [upd_ne (ne_of_none eD nT)]; exact eD)
        refine ⟨_, eD4, ?_, fun c o e => ?_, ?_⟩
        · rw [List.length_map, List.length_replicate]
          exact small1000 (Nat.le_of_lt hi')
        · rw [upd_ne (ne_of_none e nD)]
          exact s4 _ _ (s3 _ _ e)
        · rw [upd_same, List.replicate_succ', List.map_append]
          rfl
      · rintro H2 ⟨s2, eD⟩
        refine ⟨D, _, rfl, SqL.of eD, ?_⟩
        rw [all_yes]
        exact q _ (s1.trans s2)
    | _ => exact absurd hd id
end
end K03
namespace K03
open PySem PySem.Spec PyProof.Rows L2 CS
/-- what stood at first stands, and all of H2 but l -/
def KeepTo (H H2 : Hp) (l : Addr) (H' : Hp) : Prop := Same H H' ∧ Keep l H2 H'
theorem cut3 (ns : List Int) : cutV (ns.map V.int) (some 3) (some 63) = ((ns.drop (min 3 ns.length)).take (min 63 ns.length - min 3 ns.length)).map V.int := by
  unfold cutV
  rw [show HT.sIx (ns.map V.int).length 0 (some 3) = min 3 (ns.map V.int).length from HT.sIx_nat _ 0 3, show HT.sIx (ns.map V.int).length (ns.map V.int).length (some 63) = min 63 (ns.map V.int).length from HT.sIx_nat _ _ 63, List.length_map, List.map_take, List.map_drop]
theorem cut0 (ns : List Int) : cutV (ns.map V.int) none (some 3) = (ns.take (min 3 ns.length)).map V.int := by
  unfold cutV
  rw [show HT.sIx (ns.map V.int).length 0 none = 0 from HT.sIx_none _ _, show HT.sIx (ns.map V.int).length (ns.map V.int).length (some 3) = min 3 (ns.map V.int).length from HT.sIx_nat _ _ 3, List.length_map, List.map_take]
  rfl
section
variable {P : Program} {w : World} {K : PySem.W.Frag} {mg : Str → Option Value} {base : Heap}
def spCells (K : PySem.W.Frag) : Sp := fun vs H Q _ => ∃ (a : Addr) (ns : List Int), vs = [.ref a, .int 3] ∧ SqL K H a (ns.map V.int) ∧ ns.length ≤ 63 ∧
  ∀ (H' : Hp) (p : Addr) (ms : List Int), Same H H' → H p = none → H' p = some (.lst (ms.map V.int)) → 1 ≤ ms.length → ms.length ≤ 3 → Q (.ref p) H'
theorem scCells : FnScope ["_law_script", "_law_most_so", "_law_cells_here", "_law_k", "_law_cell", "_law_at_so"] ["_law_script", "_law_most_so"] (defScope sCells) := ⟨rfl, rfl, rfl, by decide +kernel, rfl, by decide +kernel, by decide +kernel⟩
theorem ok_cells {f : Addr} {fd : FuncData} {k : Nat} (F : Fun K "_law_cells" "_law_cells" sCells f fd) (mL : mg "list" = none) (mE : mg "enumerate" = none) (mi : mg "int" = none) : FnOk P w K mg base CX0 (k + 1) f fd ["_law_script", "_law_most_so"] (spCells K) := by
  refine F.ok scCells (fun vs H Q E h => ?_) (fun cdv A outer s H vs Q E hr h => ?_)
  · obtain ⟨a, ns, rfl, _⟩ := h
    rfl
  · obtain ⟨a, ns, rfl, hS, hn, q⟩ := h
    refine ⟨_, pss_cons (ps_set (i := 2) scCells.nd rfl (.inl rfl) (pe_orT (pe_callTy call_list_of (by rfl) mL (by decide +kernel) (pa_cons (pe_slice sl_list (pv 0) po_none (po_some (pv 1))) pa_nil)) (pe_one (pe_lst (pa_cons pe_int pa_nil)))))
      (pss_cons (ps_for PassesOwn.never rfl (pi_enum (by rfl) mE (pa_cons (pe_slice sl_list (pv 0) (po_some (pv 1)) (po_some pe_int)) pa_nil))
          (pg_tup rfl (pgs_cons (pg_name (i := 3) scCells.nd rfl (.inl rfl)) (pgs_cons (pg_name (i := 4) scCells.nd rfl (.inl rfl)) pgs_nil)))
        (pss_cons (ps_set (i := 5) scCells.nd rfl (.inl rfl) (pe_op op_modN (pe_callTy call_int1 (by rfl) mi (by decide +kernel) (pa_cons (pv 3) pa_nil)) (pv 1)))
          (pss_one (ps_asg (pe_op op_add (pe_ix ix_list (pv 2) (pv 5) (fun _ _ => rfl)) (pe_op op_mul (pv 4) (pe_op op_add (pv 3) pe_int))) (pg_sub (pv 2) (pv 5) set_list)))))
      (pss_one (ps_ret (pv 2)))), ?_⟩
    refine ⟨.ref a, rfl, .int 3, rfl, 3, rfl, a, ns.map V.int, rfl, hS, fun c nc => ?_⟩
    rw [cut0]
    refine ⟨c, _, rfl, .inl (SqL.of upd_same), fun l nl0 => ?_⟩
    have s0 : Same H (upd (upd H c (.lst ((ns.take (min 3 ns.length)).map V.int))) l (.lst ((ns.take (min 3 ns.length)).map V.int))) := (same_upd nc).trans (same_upd nl0)
    have nlH : H l = none := (same_upd nc).free nl0
    have hl1 : (ns.take (min 3 ns.length)).length = min 3 ns.length := by
      rw [List.length_take]
      omega
    refine ⟨_, .inl ⟨_, SqL.of upd_same, rfl⟩, ?_⟩
    refine ite2 (fun c1 => ?_) (fun c1 => ?_)
    · have hpos : 0 < ns.length := by
        cases ns with
        | nil => cases c1
        | cons x r => exact Nat.succ_pos _
      have e1 : (upd (upd H c (.lst ((ns.take (min 3 ns.length)).map V.int))) l (.lst ((ns.take (min 3 ns.length)).map V.int))) l = some (.lst ((ns.take (min 3 ns.length)).map V.int)) := upd_same
      generalize upd (upd H c (.lst ((ns.take (min 3 ns.length)).map V.int))) l (.lst ((ns.take (min 3 ns.length)).map V.int)) = H1 at s0 e1
      generalize ns.take (min 3 ns.length) = ms at e1 hl1
      have s1 := s0
      have nl := nlH
      have m1 : 1 ≤ ms.length := by omega
      have m3 : ms.length ≤ 3 := by omega
      have h3 : 3 < ns.length → ms.length = 3 := fun _ => by omega
      refine ⟨.ref a, rfl, .int 3, rfl, 3, rfl, 63, rfl, a, ns.map V.int, rfl, s1.seq hS, fun c2 nc2 => ?_⟩
      rw [cut3]
      have s2 : Same H (upd H1 c2 (.lst (((ns.drop (min 3 ns.length)).take (min 63 ns.length - min 3 ns.length)).map V.int))) := s1.trans (same_upd nc2)
      have ncl : c2 ≠ l := fun z => by
        rw [z, e1] at nc2
        cases nc2
      have hC : SqL K (upd H1 c2 (.lst (((ns.drop (min 3 ns.length)).take (min 63 ns.length - min 3 ns.length)).map V.int))) c2 (((ns.drop (min 3 ns.length)).take (min 63 ns.length - min 3 ns.length)).map V.int) := SqL.of upd_same
      have eL : (upd H1 c2 (.lst (((ns.drop (min 3 ns.length)).take (min 63 ns.length - min 3 ns.length)).map V.int))) l = some (.lst (ms.map V.int)) := by
        rw [upd_ne ncl.symm]
        exact e1
      have hlenr : ((ns.drop (min 3 ns.length)).take (min 63 ns.length - min 3 ns.length)).length = min 63 ns.length - min 3 ns.length := by
        rw [List.length_take, List.length_drop]
        omega
      generalize ((ns.drop (min 3 ns.length)).take (min 63 ns.length - min 3 ns.length)) = rest at s2 hC eL hlenr
      generalize upd H1 c2 (.lst (rest.map V.int)) = H2 at s2 hC eL
      refine ⟨c2, rest.map V.int, rfl, hC, for_it (walk_enum (K := K) (a := c2) (xs := rest.map V.int)) (fun i σ H' => ∃ (y3 y4 y5 : Option V) (zs : List Int), σ = [some (.ref a), some (.int 3), some (.ref l), y3, y4, y5] ∧ KeepTo H H2 l H' ∧ H' l = some (.lst (zs.map V.int)) ∧ zs.length = ms.length)
        ⟨none, none, none, ms, rfl, ⟨s2, fun _ _ _ e => e⟩, eL, rfl⟩ (fun i σ H' _ z => by
          obtain ⟨_, _, _, _, _, kk, _, _⟩ := z
          exact Keep.sqL (b := l) kk.2 ncl hC) ?_ ?_⟩
      · rintro i v σ H3 H4 hi ⟨y3, y4, y5, zs, rfl, kk, e3, hzl⟩ ⟨T, x, y, rfl, nT, rfl, hx, hy⟩
        cases hx
        replace hy : (rest.map V.int)[i]? = some y := hy
        rw [List.getElem?_map] at hy
        rw [List.length_map, hlenr] at hi
        cases e : rest[i]? with
        | none =>
          rw [e] at hy
          cases hy
        | some u =>
          rw [e] at hy
          cases hy
          have hz3 : zs.length = 3 := by rw [hzl]; exact h3 (by omega)
          have f0 := Int.fmod_nonneg_of_pos (i : Int) (b := 3) (by decide)
          have f1 := Int.fmod_lt_of_pos (i : Int) (b := 3) (by decide)
          have nlT : l ≠ T := ne_of_none e3 nT
          have e3T : (upd H3 T (.tup [.int (i : Nat), .int u])) l = some (.lst (zs.map V.int)) := by
            rw [upd_ne nlT]
            exact e3
          refine ⟨T, [.int (i : Nat), .int u], rfl, SqT.of upd_same, rfl, .int (i : Nat), [.int u], rfl, .int u, [], rfl, rfl, ?_⟩
          refine ⟨.int (i : Nat), rfl, .inl ⟨_, rfl, .int 3, rfl, _, _, rfl, rfl, (by show (3 : Int) ≠ 0; decide), ?_⟩⟩
          have hj : (Int.fmod (i : Int) 3).toNat < zs.length := by omega
          have hat : atI (zs.map V.int) (Int.fmod (i : Int) 3) = some (.int zs[(Int.fmod (i : Int) 3).toNat]) := by
            have za := atI_nat (j := (Int.fmod (i : Int) 3).toNat) (xs := zs.map V.int) (v := .int zs[(Int.fmod (i : Int) 3).toNat]) (by rw [List.getElem?_map, List.getElem?_eq_getElem hj]; rfl)
            rw [show (((Int.fmod (i : Int) 3).toNat : Nat) : Int) = Int.fmod (i : Int) 3 by omega] at za
            exact za
          refine ⟨.ref l, rfl, .int _, rfl, l, _, _, _, rfl, rfl, SqL.of e3T, hat, .int u, rfl, .int (i : Nat), rfl, _, _, rfl, rfl, _, _, rfl, rfl, .inr (by omega), _, _, rfl, rfl, ?_⟩
          refine ⟨.ref l, rfl, .int _, rfl, l, _, _, (Int.fmod (i : Int) 3).toNat, rfl, rfl, e3T, ?_, ?_⟩
          · unfold ixN
            rw [List.length_map, if_pos f0, if_pos (by omega)]
          · refine ⟨_, _, _, zs.set (Int.fmod (i : Int) 3).toNat (zs[(Int.fmod (i : Int) 3).toNat] + u * ((i : Int) + 2)), rfl, ⟨fun c o ec => ?_, fun c o nc ec => ?_⟩, ?_, ?_⟩
            · have q3 := kk.1 _ _ ec
              have ncl3 : c ≠ l := ne_of_none ec nl
              rw [upd_ne ncl3, upd_ne (ne_of_none q3 nT)]
              exact q3
            · have q3 := kk.2 _ _ nc ec
              rw [upd_ne nc, upd_ne (ne_of_none q3 nT)]
              exact q3
            · rw [upd_same, List.map_set]
            · rw [List.length_set]
              exact hzl
      · rintro σ H3 ⟨y3, y4, y5, zs, rfl, kk, e3, hzl⟩
        exact ⟨.ref l, rfl, q H3 l zs kk.1 nl e3 (by omega) (by omega)⟩
    · have hnil : ns.length = 0 := by
        cases ns with
        | nil => rfl
        | cons x r =>
          exfalso
          apply c1
          show (!(((x :: r).take (min 3 (r.length + 1))).map V.int).isEmpty) = true
          rw [show min 3 (r.length + 1) = (min 2 r.length) + 1 by omega]
          rfl
      refine ⟨(by show 1 ≤ sizeLine; decide), fun l2 nl2 => ?_⟩
      have s1 := s0.trans (same_upd (o := .lst [.int 0]) nl2)
      have nl : H l2 = none := s0.free nl2
      have e1 : (upd (upd (upd H c (.lst ((ns.take (min 3 ns.length)).map V.int))) l (.lst ((ns.take (min 3 ns.length)).map V.int))) l2 (.lst [.int 0])) l2 = some (.lst (([0] : List Int).map V.int)) := upd_same
      generalize upd (upd (upd H c (.lst ((ns.take (min 3 ns.length)).map V.int))) l (.lst ((ns.take (min 3 ns.length)).map V.int))) l2 (.lst [.int 0]) = H1 at s1 e1
      generalize l2 = l at nl e1
      generalize ems : ([0] : List Int) = ms at e1
      have m1 : 1 ≤ ms.length := by rw [← ems]; decide
      have m3 : ms.length ≤ 3 := by rw [← ems]; decide
      have h3 : 3 < ns.length → ms.length = 3 := fun z => by omega
      refine ⟨.ref a, rfl, .int 3, rfl, 3, rfl, 63, rfl, a, ns.map V.int, rfl, s1.seq hS, fun c2 nc2 => ?_⟩
      rw [cut3]
      have s2 : Same H (upd H1 c2 (.lst (((ns.drop (min 3 ns.length)).take (min 63 ns.length - min 3 ns.length)).map V.int))) := s1.trans (same_upd nc2)
      have ncl : c2 ≠ l := fun z => by
        rw [z, e1] at nc2
        cases nc2
      have hC : SqL K (upd H1 c2 (.lst (((ns.drop (min 3 ns.length)).take (min 63 ns.length - min 3 ns.length)).map V.int))) c2 (((ns.drop (min 3 ns.length)).take (min 63 ns.length - min 3 ns.length)).map V.int) := SqL.of upd_same
      have eL : (upd H1 c2 (.lst (((ns.drop (min 3 ns.length)).take (min 63 ns.length - min 3 ns.length)).map V.int))) l = some (.lst (ms.map V.int)) := by
        rw [upd_ne ncl.symm]
        exact e1
      have hlenr : ((ns.drop (min 3 ns.length)).take (min 63 ns.length - min 3 ns.length)).length = min 63 ns.length - min 3 ns.length := by
        rw [List.length_take, List.length_drop]
        omega
      generalize ((ns.drop (min 3 ns.length)).take (min 63 ns.length - min 3 ns.length)) = rest at s2 hC eL hlenr
      generalize upd H1 c2 (.lst (rest.map V.int)) = H2 at s2 hC eL
      refine ⟨c2, rest.map V.int, rfl, hC, for_it (walk_enum (K := K) (a := c2) (xs := rest.map V.int)) (fun i σ H' => ∃ (y3 y4 y5 : Option V) (zs : List Int), σ = [some (.ref a), some (.int 3), some (.ref l), y3, y4, y5] ∧ KeepTo H H2 l H' ∧ H' l = some (.lst (zs.map V.int)) ∧ zs.length = ms.length)
        ⟨none, none, none, ms, rfl, ⟨s2, fun _ _ _ e => e⟩, eL, rfl⟩ (fun i σ H' _ z => by
          obtain ⟨_, _, _, _, _, kk, _, _⟩ := z
          exact Keep.sqL (b := l) kk.2 ncl hC) ?_ ?_⟩
      · rintro i v σ H3 H4 hi ⟨y3, y4, y5, zs, rfl, kk, e3, hzl⟩ ⟨T, x, y, rfl, nT, rfl, hx, hy⟩
        cases hx
        replace hy : (rest.map V.int)[i]? = some y := hy
        rw [List.getElem?_map] at hy
        rw [List.length_map, hlenr] at hi
        cases e : rest[i]? with
        | none =>
          rw [e] at hy
          cases hy
        | some u =>
          rw [e] at hy
          cases hy
          have hz3 : zs.length = 3 := by rw [hzl]; exact h3 (by omega)
          have f0 := Int.fmod_nonneg_of_pos (i : Int) (b := 3) (by decide)
          have f1 := Int.fmod_lt_of_pos (i : Int) (b := 3) (by decide)
          have nlT : l ≠ T := ne_of_none e3 nT
          have e3T : (upd H3 T (.tup [.int (i : Nat), .int u])) l = some (.lst (zs.map V.int)) := by
            rw [upd_ne nlT]
            exact e3
          refine ⟨T, [.int (i : Nat), .int u], rfl, SqT.of upd_same, rfl, .int (i : Nat), [.int u], rfl, .int u, [], rfl, rfl, ?_⟩
          refine ⟨.int (i : Nat), rfl, .inl ⟨_, rfl, .int 3, rfl, _, _, rfl, rfl, (by show (3 : Int) ≠ 0; decide), ?_⟩⟩
          have hj : (Int.fmod (i : Int) 3).toNat < zs.length := by omega
          have hat : atI (zs.map V.int) (Int.fmod (i : Int) 3) = some (.int zs[(Int.fmod (i : Int) 3).toNat]) := by
            have za := atI_nat (j := (Int.fmod (i : Int) 3).toNat) (xs := zs.map V.int) (v := .int zs[(Int.fmod (i : Int) 3).toNat]) (by rw [List.getElem?_map, List.getElem?_eq_getElem hj]; rfl)
            rw [show (((Int.fmod (i : Int) 3).toNat : Nat) : Int) = Int.fmod (i : Int) 3 by omega] at za
            exact za
          refine ⟨.ref l, rfl, .int _, rfl, l, _, _, _, rfl, rfl, SqL.of e3T, hat, .int u, rfl, .int (i : Nat), rfl, _, _, rfl, rfl, _, _, rfl, rfl, .inr (by omega), _, _, rfl, rfl, ?_⟩
          refine ⟨.ref l, rfl, .int _, rfl, l, _, _, (Int.fmod (i : Int) 3).toNat, rfl, rfl, e3T, ?_, ?_⟩
          · unfold ixN
            rw [List.length_map, if_pos f0, if_pos (by omega)]
          · refine ⟨_, _, _, zs.set (Int.fmod (i : Int) 3).toNat (zs[(Int.fmod (i : Int) 3).toNat] + u * ((i : Int) + 2)), rfl, ⟨fun c o ec => ?_, fun c o nc ec => ?_⟩, ?_, ?_⟩
            · have q3 := kk.1 _ _ ec
              have ncl3 : c ≠ l := ne_of_none ec nl
              rw [upd_ne ncl3, upd_ne (ne_of_none q3 nT)]
              exact q3
            · have q3 := kk.2 _ _ nc ec
              rw [upd_ne nc, upd_ne (ne_of_none q3 nT)]
              exact q3
            · rw [upd_same, List.map_set]
            · rw [List.length_set]
              exact hzl
      · rintro σ H3 ⟨y3, y4, y5, zs, rfl, kk, e3, hzl⟩
        exact ⟨.ref l, rfl, q H3 l zs kk.1 nl e3 (by omega) (by omega)⟩
end
end K03
namespace K03
open PySem PySem.Spec PyProof.Rows L2 CS RZ
/-! ### calls by keywords alone -/
section
variable {X : Cx} {CX : CXT} {k : Nat} {f : Addr} {fd : FuncData} {ps ks : List Str} {sp : Sp} {E : XK} {x : Str} {p pos : Pos} {kws : List Keyword} {tk : TA} {g : List Value → List Value → List Value} {gV : List V → List V → List V}
theorem pe_callK0 (F : FnOk X.prog X.w X.K X.mg X.base CX k f fd ps sp) (hr : Room k X.A) (gx : Gl X x) (mx : X.mg x = some (.ref f)) (kx : PySem.W.keepIn X.K (.ref f) = true) (kb : KBinds X.K fd ps ks g gV) (px : Passes CX X E) (hkw : PK X kws tk)
    (hall : (backToKw pos (keywordEach kws X.env)).all (·.1.isSome) = true := by rfl) (hks : (backToKw pos (keywordEach kws X.env)).filterMap (·.1) = ks := by rfl) (hdb : (x == ("__debug__" : Str)) = false := by decide)
    (hpl : ((backTo pos (starEach [] X.env)).any (·.1) || (backToKw pos (keywordEach kws X.env)).any (·.1.isNone)) = false := by rfl) : PE X (.Call (.Name x p) [] kws pos) (tCallK sp gV E tNil tk) := by
  refine ⟨fun pins s0 σ H0 Q0 I0 hw => ?_⟩
  refine wpAny_Call_Name_kw (ld_glob I0 gx mx ?_ hdb)
  refine PySem.W.callWith_KW0 (h₀ := X.base) I0.ok.mod.kin kx hall ?_ hpl
  refine thn (hkw.run pos pins s0 σ H0 _ I0 hw) fun ws s2 ⟨zs, H2, I2, rz, q2⟩ => ⟨I2.kIn, ?_⟩
  rw [hks]
  exact run_fnk (us := []) (vs := []) F hr kb px I2 .nil rz q2
end
def kw1 {α : Type} : List α → List α → List α
  | [], [x] => [x]
  | _, _ => []
def kw2 {α : Type} : List α → List α → List α
  | [], [x, y] => [y, x]
  | _, _ => []
section
variable {K : PySem.W.Frag}
theorem kb1 {x qual : Str} {st : Stmt} {f : Addr} {fd : FuncData} {a : Str} (F : Fun K x qual st f fd)
    (h : ∀ (kV doc pm : Value) (an : Option Addr) (cdv ct u : Value), bindArgs (PySem.W.fnOf x qual (defArgs st) (defBody st) (defScope st) .none kV doc pm an cdv ct) ⟨[], [(a, u)]⟩ = pure [(a, u)]) : KBinds K fd [a] [a] kw1 kw1 := by
  obtain ⟨oc, od, kV, doc, pm, an, cdv, ct, osl, rfl, lk, hcd⟩ := F.ex
  refine ⟨fun s us ws _ hl => ?_, fun r1 r2 => ?_⟩
  · match us, ws, hl with
    | [], [u], _ => exact .of_eq (h kV doc pm an cdv ct u)
    | [], [], e => cases e
    | [], _ :: _ :: _, e => cases e
    | _ :: _, _, e => cases e
  · cases r1 with
    | nil =>
      cases r2 with
      | nil => exact .nil
      | cons a1 t1 =>
        cases t1 with
        | nil => exact .cons a1 .nil
        | cons _ _ => exact .nil
    | cons _ _ => exact .nil
theorem kb2 {x qual : Str} {st : Stmt} {f : Addr} {fd : FuncData} {a b : Str} (F : Fun K x qual st f fd)
    (h : ∀ (kV doc pm : Value) (an : Option Addr) (cdv ct u v : Value), bindArgs (PySem.W.fnOf x qual (defArgs st) (defBody st) (defScope st) .none kV doc pm an cdv ct) ⟨[], [(b, u), (a, v)]⟩ = pure [(a, v), (b, u)]) : KBinds K fd [a, b] [b, a] kw2 kw2 := by
  obtain ⟨oc, od, kV, doc, pm, an, cdv, ct, osl, rfl, lk, hcd⟩ := F.ex
  refine ⟨fun s us ws _ hl => ?_, fun r1 r2 => ?_⟩
  · match us, ws, hl with
    | [], [u, v], _ => exact .of_eq (h kV doc pm an cdv ct u v)
    | [], [], e => cases e
    | [], [_], e => cases e
    | [], _ :: _ :: _ :: _, e => cases e
    | _ :: _, _, e => cases e
  · cases r1 with
    | nil =>
      cases r2 with
      | nil => exact .nil
      | cons a1 t1 =>
        cases t1 with
        | nil => exact .nil
        | cons a2 t2 =>
          cases t2 with
          | nil => exact .cons a2 (.cons a1 .nil)
          | cons _ _ => exact .nil
    | cons _ _ => exact .nil
theorem kbTurned {f : Addr} {fd : FuncData} (F : Fun K "turned" "turned" sTurned f fd) : KBinds K fd ["journey"] ["journey"] kw1 kw1 := kb1 F fun _ _ _ _ _ _ _ => rfl
theorem kbVisits {f : Addr} {fd : FuncData} (F : Fun K "visits" "visits" sVisits f fd) : KBinds K fd ["journey", "place"] ["place", "journey"] kw2 kw2 := kb2 F fun _ _ _ _ _ _ _ _ => rfl
/-! ### the data that are compared -/
def dS (ss : List Str) : List PyData := ss.map PyData.str
def dI (ns : List Int) : List PyData := ns.map PyData.int
def dP (ps : List (Str × Str)) : List PyData := ps.map fun p => PyData.tuple [.str p.1, .str p.2]
theorem dpS {H : Hp} : ∀ ss : List Str, DpAll K H (ss.map V.str) (dS ss)
  | [] => .nil
  | z :: r => .cons (.str z) (dpS r)
theorem dpI {H : Hp} : ∀ ns : List Int, DpAll K H (ns.map V.int) (dI ns)
  | [] => .nil
  | z :: r => .cons (.int z) (dpI r)
theorem dpP {H : Hp} : ∀ (as : List Addr) (ps : List (Str × Str)), as.length = ps.length → (∀ (j : Nat) (a : Addr) (x y : Str), as[j]? = some a → ps[j]? = some (x, y) → H a = some (.tup [.str x, .str y])) → DpAll K H (as.map V.ref) (dP ps)
  | [], [], _, _ => .nil
  | [], _ :: _, e, _ => by cases e
  | _ :: _, [], e, _ => by cases e
  | a :: as, (x, y) :: ps, e, h => .cons (.tup (SqT.of (h 0 a x y rfl rfl)) (.cons (.str x) (.cons (.str y) .nil))) (dpP as ps (Nat.succ.inj e) fun j b u v e1 e2 => h (j + 1) b u v e1 e2)
theorem okS (n : Nat) (ss : List Str) (h : ss.length ≤ 1000) : okD (n + 2) (.tuple (dS ss)) := ⟨by unfold dS; rw [List.length_map]; exact h, fun d hd => by
  unfold dS at hd
  obtain ⟨z, _, rfl⟩ := List.mem_map.mp hd
  trivial⟩
theorem okI (n : Nat) (ns : List Int) (h : ns.length ≤ 1000) : okD (n + 2) (.tuple (dI ns)) := ⟨by unfold dI; rw [List.length_map]; exact h, fun d hd => by
  unfold dI at hd
  obtain ⟨z, _, rfl⟩ := List.mem_map.mp hd
  trivial⟩
theorem okP (n : Nat) (ps : List (Str × Str)) (h : ps.length ≤ 1000) : okD (n + 3) (.tuple (dP ps)) := ⟨by unfold dP; rw [List.length_map]; exact h, fun d hd => by
  unfold dP at hd
  obtain ⟨z, _, rfl⟩ := List.mem_map.mp hd
  refine ⟨by show 2 ≤ 1000; decide, fun d hd => ?_⟩
  rcases List.mem_cons.mp hd with rfl | hd
  · trivial
  · rw [List.mem_singleton.mp hd]
    trivial⟩
/-- all that is told of a row and a place -/
def dAll (ss : List Str) (t : Str) : List PyData := [.tuple (dP (prs ss)), .tuple (dI (viL t 0 ss)), .tuple (dS (exL t (prs ss))), .tuple (dS (enL t (prs ss)))]
theorem okAll (ss : List Str) (t : Str) (h : ss.length ≤ 900) : okD 4 (.list (dAll ss t)) := by
  have l1 := prs_len ss
  have l2 := viL_len t 0 ss
  have l3 := exL_len t (prs ss)
  have l4 := enL_len t (prs ss)
  refine ⟨by show 4 ≤ 1000; decide, fun d hd => ?_⟩
  rcases List.mem_cons.mp hd with rfl | hd
  · exact okP 0 _ (by omega)
  rcases List.mem_cons.mp hd with rfl | hd
  · exact okI 1 _ (by omega)
  rcases List.mem_cons.mp hd with rfl | hd
  · exact okS 1 _ (by omega)
  rcases List.mem_cons.mp hd with rfl | hd
  · exact okS 1 _ (by omega)
  · cases hd
end
end K03
namespace K03
open PySem PySem.Spec PyProof.Rows L2 CS RZ
/-! ### rows and exit lists -/
theorem prs_cut {ss : List Str} {i : Nat} {x y : Str} (h : (prs ss)[i]? = some (x, y)) : prs ss = (prs ss).take i ++ (x, y) :: (prs ss).drop (i + 1) := by
  have e := (List.take_append_drop i (prs ss)).symm
  obtain ⟨hl, he⟩ := List.getElem?_eq_some_iff.mp h
  rw [List.drop_eq_getElem_cons hl, he] at e
  exact e
theorem exL_app (t : Str) (l m : List (Str × Str)) : exL t (l ++ m) = exL t l ++ exL t m := by
  unfold exL
  rw [List.filter_append, List.map_append]
theorem enL_app (t : Str) (l m : List (Str × Str)) : enL t (l ++ m) = enL t l ++ enL t m := by
  unfold enL
  rw [List.filter_append, List.map_append]
theorem exL_at {ss : List Str} {i : Nat} {x y : Str} (h : (prs ss)[i]? = some (x, y)) : (exL x (prs ss))[(exL x ((prs ss).take i)).length]? = some y := by
  conv => lhs; arg 1; rw [prs_cut h]
  rw [exL_app, List.getElem?_append_right (Nat.le_refl _), Nat.sub_self]
  unfold exL
  rw [List.filter_cons_of_pos (by simp)]
  rfl
theorem exL_up {ss : List Str} {i : Nat} {x y : Str} (h : (prs ss)[i]? = some (x, y)) (t : Str) : (exL t ((prs ss).take (i + 1))).length = (exL t ((prs ss).take i)).length + if x = t then 1 else 0 := by
  rw [take_snoc h, exL_snoc, List.length_append]
  by_cases c : x = t
  · rw [if_pos c, if_pos c]
    rfl
  · rw [if_neg c, if_neg c]
    rfl
theorem exL_lt {ss : List Str} {i : Nat} {x y : Str} (h : (prs ss)[i]? = some (x, y)) : (exL x ((prs ss).take i)).length < (exL x (prs ss)).length := by
  have e := exL_at h
  exact (List.getElem?_eq_some_iff.mp e).1
theorem prs_rev (ss : List Str) : prs ss.reverse = ((prs ss).map Prod.swap).reverse := by
  unfold prs
  have h1 : (ss.reverse.zip ss.reverse.tail).length = ss.length - 1 := by
    rw [List.length_zip, List.length_tail, List.length_reverse]
    omega
  have h2 : (ss.zip ss.tail).length = ss.length - 1 := by
    rw [List.length_zip, List.length_tail]
    omega
  refine List.ext_getElem (by rw [h1, List.length_reverse, List.length_map, h2]) fun j u v => ?_
  have v' := v
  rw [List.length_reverse, List.length_map, h2] at v'
  rw [List.getElem_reverse, List.getElem_map, List.getElem_zip, List.getElem_zip, List.getElem_reverse, List.getElem_tail, List.getElem_tail, List.getElem_reverse]
  have gg : ∀ (a b : Nat) (ha : a < ss.length) (hb : b < ss.length), a = b → ss[a] = ss[b] := fun a b ha hb e => by
    subst e
    rfl
  refine Prod.ext (gg _ _ _ _ ?_) (gg _ _ _ _ ?_)
  · simp only [List.length_map, List.length_zip, List.length_tail]
    omega
  · simp only [List.length_map, List.length_zip, List.length_tail]
    omega
theorem exL_rev (t : Str) (ss : List Str) : exL t (prs ss.reverse) = (enL t (prs ss)).reverse := by
  rw [prs_rev]
  unfold exL enL
  rw [List.filter_reverse, List.filter_map, List.map_reverse, List.map_map]
  rfl
theorem enL_rev (t : Str) (ss : List Str) : enL t (prs ss.reverse) = (exL t (prs ss)).reverse := by
  rw [prs_rev]
  unfold exL enL
  rw [List.filter_reverse, List.filter_map, List.map_reverse, List.map_map]
  rfl
/-- all steps, place by place -/
def byTags (tags : List Str) (l : List (Str × Str)) : List (Str × Str) := tags.flatMap fun t => (exL t l).map fun y => (t, y)
theorem exL_pairs (t : Str) (l : List (Str × Str)) : (exL t l).map (fun y => (t, y)) = l.filter fun p => p.1 == t := by
  unfold exL
  rw [List.map_map]
  conv => rhs; rw [← List.map_id (l.filter fun p => p.1 == t)]
  refine List.map_congr_left fun p hp => ?_
  have e : p.1 = t := by simpa using (List.mem_filter.mp hp).2
  show (t, p.2) = p
  rw [← e]
theorem byTags_perm (l : List (Str × Str)) : ∀ tags : List Str, tags.Nodup → (byTags tags l).Perm (l.filter fun p => tags.contains p.1)
  | [], _ => by
    unfold byTags
    simp
  | t :: tags, nd => by
    have ih := byTags_perm l tags (List.nodup_cons.mp nd).2
    have nt := (List.nodup_cons.mp nd).1
    unfold byTags at ih ⊢
    rw [List.flatMap_cons, exL_pairs]
    refine (List.Perm.append_left _ ih).trans ?_
    have e1 : (l.filter fun p => p.1 == t) = (l.filter fun p => (t :: tags).contains p.1).filter fun p => p.1 == t := by
      rw [List.filter_filter]
      refine List.filter_congr fun p _ => ?_
      by_cases c : p.1 = t
      · simp [c]
      · simp [c]
    have e2 : (l.filter fun p => tags.contains p.1) = (l.filter fun p => (t :: tags).contains p.1).filter fun p => !(p.1 == t) := by
      rw [List.filter_filter]
      refine List.filter_congr fun p _ => ?_
      by_cases c : p.1 = t
      · have : ¬ t ∈ tags := nt
        simp [c, this]
      · simp [c]
    rw [e1, e2]
    exact List.filter_append_perm _ _
theorem byTags_all {tags : List Str} {ss : List Str} (nd : tags.Nodup) (h : ∀ r ∈ ss, r ∈ tags) : (byTags tags (prs ss)).Perm (prs ss) := by
  refine (byTags_perm (prs ss) tags nd).trans ?_
  rw [List.filter_eq_self.mpr]
  rintro ⟨x, y⟩ hp
  have : x ∈ ss := by
    unfold prs at hp
    exact (List.of_mem_zip hp).1
  simpa using h x this
end K03
namespace K03
open PySem PySem.Spec PyProof.Rows L2 CS RZ
/-! ### dicts of places -/
theorem valV_out {kvs : List (Key × V)} {k : Key} (h : ¬ k ∈ kvs.map Prod.fst) : valV kvs k = none := by
  have e := valV_any k kvs
  have f : (kvs.any fun kv => decide (kv.1 = k)) = false := by
    rw [List.any_eq_false]
    intro kv hkv c
    exact h (by rw [← of_decide_eq_true c]; exact List.mem_map_of_mem hkv)
  rw [f] at e
  cases z : valV kvs k with
  | none => rfl
  | some x =>
    rw [z] at e
    cases e
theorem mergeK_nodup : ∀ (more kvs : List (Key × V)), ((kvs ++ more).map Prod.fst).Nodup → mergeK kvs more = kvs ++ more
  | [], kvs, _ => by simp [mergeK]
  | m :: more, kvs, h => by
    have hn : valV kvs m.1 = none := valV_out fun z => by
      rw [List.map_append, List.map_cons] at h
      exact (List.nodup_append.mp h).2.2 _ z _ (List.mem_cons_self ..) rfl
    show mergeK (putK kvs m.1 m.2) more = _
    rw [putK_new m.2 hn, mergeK_nodup more (kvs ++ [(m.1, m.2)]) (by simpa using h)]
    simp
theorem valV_at : ∀ {kvs : List (Key × V)}, (kvs.map Prod.fst).Nodup → ∀ {j : Nat} {k : Key} {v : V}, kvs[j]? = some (k, v) → valV kvs k = some v
  | [], _, _, _, _, h => by cases h
  | (k0, v0) :: kvs, nd, 0, k, v, h => by
    cases h
    exact valV_pos rfl
  | (k0, v0) :: kvs, nd, j + 1, k, v, h => by
    have hm : k ∈ kvs.map Prod.fst := List.mem_map_of_mem (f := Prod.fst) (List.mem_of_getElem? (show kvs[j]? = some (k, v) from h))
    have ne : ¬ k0 = k := fun e => (List.nodup_cons.mp nd).1 (by rw [e]; exact hm)
    rw [valV_neg ne]
    exact valV_at (List.nodup_cons.mp nd).2 (show kvs[j]? = some (k, v) from h)
theorem keys_nodup {tags : List Str} (nd : tags.Nodup) : (tags.map (Sum.inr : Str → Key)).Nodup :=
  List.Pairwise.map _ (fun a b (h : a ≠ b) => fun e => h (Sum.inr.inj e)) nd
theorem putK_len (kvs : List (Key × V)) (k : Key) (v : V) : (putK kvs k v).length ≤ kvs.length + 1 := by
  unfold putK
  split
  · rw [List.length_map]
    exact Nat.le_succ _
  · rw [List.length_append]
    exact Nat.le_refl _
/-- a table of the places: each has its tuple of texts -/
structure Tab (K : PySem.W.Frag) (H : Hp) (d : Addr) (tags : List Str) (f : Str → List Str) : Prop where
  ex : ∃ kvs : List (Key × V), H d = some (.dK kvs) ∧ kvs.map Prod.fst = tags.map Sum.inr ∧ ∀ t ∈ tags, ∃ a, valV kvs (.inr t) = some (.ref a) ∧ SqT K H a ((f t).map V.str)
section
variable {P : Program} {w : World} {K : PySem.W.Frag} {mg : Str → Option Value} {base : Heap}
theorem Tab.keep {H H' : Hp} {d : Addr} {tags : List Str} {f : Str → List Str} (T : Tab K H d tags f) (s : Same H H') : Tab K H' d tags f := by
  obtain ⟨kvs, e1, e2, e3⟩ := T.ex
  refine ⟨kvs, s _ _ e1, e2, fun t ht => ?_⟩
  obtain ⟨a, h1, h2⟩ := e3 t ht
  exact ⟨a, h1, sqT_same s h2⟩
def spFol (K : PySem.W.Frag) : Sp := fun vs H Q _ => ∃ (d : Addr) (z : Str) (tags ss : List Str), vs = [.str z, .ref d] ∧ Tab K H d tags (fun t => exL t (prs ss)) ∧ tags.Nodup ∧ tags.length ≤ 100 ∧ ss[0]? = some z ∧ ss.length ≤ 900 ∧ (∀ r ∈ ss, r ∈ tags) ∧
  ∀ (H' : Hp) (p : Addr), Same H H' → H p = none → H' p = some (.tup (ss.map V.str)) → Q (.ref p) H'
abbrev nFol : List Str := ["_law_first_so", "_law_table", "_law_found", "_law_used", "_law_here", "_law_tag"]
theorem scFollowed : FnScope nFol ["_law_first_so", "_law_table"] (defScope sFollowed) := ⟨rfl, rfl, rfl, by decide +kernel, rfl, by decide +kernel, by decide +kernel⟩
theorem atI_neg1 {xs : List Str} {x : Str} (h : xs[xs.length - 1]? = some x) : atI (xs.map V.str) (-1) = some (.str x) := by
  have hl := (List.getElem?_eq_some_iff.mp h).1
  refine atI_neg (j := 1) (x := .str x) ?_ (by decide) (by rw [List.length_map]; omega)
  rw [List.length_map, List.getElem?_map, h]
  rfl
theorem ok_followed {f : Addr} {fd : FuncData} {k : Nat} (F : Fun K "_law_followed" "_law_followed" sFollowed f fd) (md : mg "dict" = none) (ml : mg "len" = none) (mt : mg "tuple" = none) :
    FnOk P w K mg base CX0 (k + 1) f fd ["_law_first_so", "_law_table"] (spFol K) := by
  refine F.ok scFollowed (fun vs H Q E h => ?_) (fun cdv A outer s H vs Q E hr h => ?_)
  · obtain ⟨d, z, tags, ss, rfl, _⟩ := h
    rfl
  · obtain ⟨d, z, tags, ss, rfl, T, nd, hl, h0, h9, hin, q⟩ := h
    have hu := hu_of hr
    refine ⟨_, pss_cons (ps_par (i := 2) (j := 3) (by rfl) scFollowed.nd rfl rfl (by decide) rfl rfl (pa_cons (pe_lst (pa_cons (pv 0) pa_nil)) (pa_cons (pe_callTy (call_dictP (by rfl)) (by rfl) md (by decide +kernel) (pa_cons (pe_lock (pe_lc (own := [("_law_tag", 5)]) (g := gName 5) (by rfl) scFollowed.nd (pi_keys (pv 1))
          (blkOk_by (own := [("_law_tag", 5)]) (N := nFol) (sc := defScope sFollowed) (by decide +kernel)) (fun _ _ _ _ _ => pg_name (i := 5) scFollowed.nd rfl (Or.inl rfl) (.inr rfl)) (fun _ _ _ _ _ => pts_nil) (fun _ _ _ _ _ => pe_tup (pa_cons (pv 5) (pa_cons pe_int pa_nil))))) pa_nil)) pa_nil)) (by rfl))
      (pss_cons (ps_while PassesOwn.never (PW.pt (pw_and (pt_cmp (pc_din hu (pe_ix (r := rIxL K) ix_list (pv 2) (pe_un un_neg pe_int) (fun _ _ => rfl)) (pv 1)) rfl)
            (pw_and1 (pt_cmpR op_lt (pe_dget hu (pv 3) (pe_ix (r := rIxL K) ix_list (pv 2) (pe_un un_neg pe_int) (fun _ _ => rfl)) (fun _ _ => rfl)) (pe_callB call_len_seq (by rfl) ml PySem.boot_len (pa_cons (pe_dget hu (pv 1) (pe_ix (r := rIxL K) ix_list (pv 2) (pe_un un_neg pe_int) (fun _ _ => rfl)) (fun _ _ => rfl)) pa_nil)) (nomark _)))))
          (pss_cons (ps_set (i := 4) scFollowed.nd rfl (.inl rfl) (pe_ix (r := rIxL K) ix_list (pv 2) (pe_un un_neg pe_int) (fun _ _ => rfl)))
          (pss_cons (ps_expr (pe_bm PySem.F.plainAttrs_list PySem.F.slot_list_append PySem.F.type_list_append mt_append (pv 2) (pa_cons (pe_ix (r := rIxT K) ix_tup (pe_dget hu (pv 1) (pv 4) (fun _ _ => rfl)) (pe_dget hu (pv 3) (pv 4) (fun _ _ => rfl)) (fun _ _ => rfl)) pa_nil)))
          (pss_one (ps_dput hu (pv 3) (pv 4) (pe_op op_add (pe_dget hu (pv 3) (pv 4) (fun _ _ => rfl)) pe_int) rfl)))))
      (pss_one (ps_ret (pe_callTy call_tuple_of (by rfl) mt (by decide +kernel) (pa_cons (pv 2) pa_nil))))), ?_⟩
    obtain ⟨kvs, e1, e2, e3⟩ := T.ex
    have lk : kvs.length = tags.length := by
      have z := congrArg List.length e2
      rw [List.length_map, List.length_map] at z
      exact z
    refine ⟨.str z, rfl, (by show 1 ≤ sizeLine; decide), fun l nl => ?_⟩
    have e1' := same_upd (o := .lst [.str z]) nl _ _ e1
    refine ⟨d, .dK kvs, e1', trivial, fun od => ⟨.ref d, rfl, d, od, rfl, .inl ⟨kvs, upd_same, fun D nD => ?_⟩⟩⟩
    have ndD : D ≠ d := fun z => by
      rw [z, upd_same] at nD
      cases nD
    refine lc_it (walk_keys (d := d) (o := od) (kvs := kvs)) (fun i H' => ∃ as : List Addr, as.length = i ∧ Same (upd (upd H l (.lst [.str z])) d (.frz od (.dK kvs))) H' ∧ H' D = some (.lst (as.map V.ref)) ∧ ∀ (j : Nat) (a : Addr) (t : Str), as[j]? = some a → tags[j]? = some t → H' a = some (.tup [.str t, .int 0]))
      ⟨[], rfl, same_upd nD, upd_same, fun j a t z => by cases z⟩ (fun i H' _ hP => by
        obtain ⟨as, _, s2, _⟩ := hP
        exact s2 _ _ upd_same) ?_ ?_
    · rintro i x H2 H3 hi ⟨as, la, s2, eD, hp⟩ ⟨rfl, k0, v0, hk, rfl⟩
      have hi' : i < tags.length := by omega
      have ek : k0 = .inr tags[i] := by
        have z := congrArg (fun l => l[i]?) e2
        simp only [List.getElem?_map, hk, List.getElem?_eq_getElem hi', Option.map_some] at z
        exact Option.some.inj z
      subst ek
      refine ⟨rfl, ?_⟩
      unfold tYes
      refine ite2 (fun _ => ?_) (fun z => absurd rfl z)
      refine ⟨.str tags[i], rfl, (by show 2 ≤ sizeLine; decide), fun T nT => ⟨_, same_upd nT _ _ eD, ?_, as ++ [T], by rw [List.length_append, la]; rfl, fun c o e => ?_, ?_, ?_⟩⟩
      · rw [List.length_map, la]
        exact small1000 (by omega)
      · rw [upd_ne (ne_of_none e nD)]
        exact same_upd nT _ _ (s2 _ _ e)
      · rw [upd_same, List.map_append]
        rfl
      · intro j a t ha ht
        have nTD : T ≠ D := fun z => by
          rw [z, eD] at nT
          cases nT
        by_cases hj : j < as.length
        · rw [List.getElem?_append_left hj] at ha
          have z := hp j a t ha ht
          rw [upd_ne (ne_of z eD (by intro z; cases z)), upd_ne (ne_of_none z nT)]
          exact z
        · have hl2 := (List.getElem?_eq_some_iff.mp ha).1
          rw [List.length_append, List.length_singleton] at hl2
          have ej : j = as.length := by omega
          subst ej
          rw [List.getElem?_append_right (Nat.le_refl _), Nat.sub_self] at ha
          have ea : T = a := Option.some.inj ha
          subst ea
          rw [la, List.getElem?_eq_getElem hi'] at ht
          rw [upd_ne nTD, upd_same, Option.some.inj ht]
    · rintro H2 ⟨as, la, s2, eD, hp⟩
      refine ⟨s2 _ _ upd_same, ?_⟩
      have sH4 : Same (upd H l (.lst [.str z])) (upd H2 d (.dK kvs)) := fun c o e => by
        by_cases hc : c = d
        · subst hc
          rw [upd_same]
          rw [e1'] at e
          exact e
        · rw [upd_ne hc]
          exact s2 _ _ (by rw [upd_ne hc]; exact e)
      have eD4 : (upd H2 d (.dK kvs)) D = some (.lst (as.map V.ref)) := by
        rw [upd_ne ndD]
        exact eD
      have hp4 : ∀ (j : Nat) (a : Addr) (t : Str), as[j]? = some a → tags[j]? = some t → (upd H2 d (.dK kvs)) a = some (.tup [.str t, .int 0]) := fun j a t ha ht => by
        have z := hp j a t ha ht
        rw [upd_ne (ne_of z (s2 _ _ upd_same) (by intro z; cases z))]
        exact z
      generalize upd H2 d (.dK kvs) = H4 at sH4 eD4 hp4
      obtain ⟨kv0, ekv⟩ : ∃ kv0 : List (Key × V), kv0 = tags.map fun t => ((.inr t : Key), V.int 0) := ⟨_, rfl⟩
      have k0k : kv0.map Prod.fst = tags.map Sum.inr := by
        rw [ekv, List.map_map]
        rfl
      have pr : Paired (fun p (kv : Key × V) => SqT K H4 p [kV kv.1, kv.2]) as kv0 := by
        rw [ekv]
        have aux : ∀ (as : List Addr) (tags : List Str), as.length = tags.length → (∀ (j : Nat) (a : Addr) (t : Str), as[j]? = some a → tags[j]? = some t → H4 a = some (.tup [.str t, .int 0])) → Paired (fun p (kv : Key × V) => SqT K H4 p [kV kv.1, kv.2]) as (tags.map fun t => ((.inr t : Key), V.int 0)) := by
          intro as
          induction as with
          | nil =>
            intro tags hl _
            cases tags with
            | nil => exact .nil
            | cons _ _ => cases hl
          | cons a as ih =>
            intro tags hl hh
            cases tags with
            | nil => cases hl
            | cons t tags => exact .cons (SqT.of (hh 0 a t rfl rfl)) (ih tags (Nat.succ.inj hl) fun j b u x y => hh (j + 1) b u x y)
        exact aux as tags (by omega) hp4
      refine ⟨D, as, kv0, rfl, SqL.of eD4, pr, fun u nu => ⟨_, _, rfl, ?_⟩⟩
      rw [mergeK_nodup kv0 [] (by rw [List.nil_append, k0k]; exact keys_nodup nd), List.nil_append]
      have lk0 : kv0.length = tags.length := by rw [ekv, List.length_map]
      have v0 : ∀ t ∈ tags, valV kv0 (.inr t) = some (.int 0) := fun t ht => by
        obtain ⟨j, hj⟩ := List.getElem?_of_mem ht
        refine valV_at (j := j) (by rw [k0k]; exact keys_nodup nd) ?_
        rw [ekv, List.getElem?_map, hj]
        rfl
      have nul : u ≠ l := fun z => by
        rw [z, sH4 _ _ upd_same] at nu
        cases nu
      have s0 : Same H (upd H4 u (.dK kv0)) := ((same_upd nl).trans sH4).trans (same_upd nu)
      have nuH : H u = none := ((same_upd (o := .lst [.str z]) nl).trans sH4).free nu
      have el0 : (upd H4 u (.dK kv0)) l = some (.lst ([z].map V.str)) := same_upd nu _ _ (sH4 _ _ upd_same)
      have eu0 : (upd H4 u (.dK kv0)) u = some (.dK kv0) := upd_same
      generalize upd H4 u (.dK kv0) = H5 at s0 el0 eu0
      have hs0 : 0 < ss.length := (List.getElem?_eq_some_iff.mp h0).1
      have t1 : ss.take 1 = [z] := by
        cases ss with
        | nil => cases h0
        | cons a r =>
          cases h0
          rfl
      obtain ⟨W, eW⟩ : ∃ W : Nat → L2.St → Hp → Prop, W = fun m σ' H' => ∃ (i : Nat) (y4 : Option V) (us : List (Key × V)), m = ss.length - i ∧ i < ss.length ∧ σ' = [some (.str z), some (.ref d), some (.ref l), some (.ref u), y4, none] ∧ Same H H' ∧ H' l = some (.lst ((ss.take (i + 1)).map V.str)) ∧ H' u = some (.dK us) ∧ us.length ≤ 100 + i ∧
          ∀ t ∈ tags, valV us (.inr t) = some (.int ((exL t ((prs ss).take i)).length : Nat)) := ⟨_, rfl⟩
      refine ⟨W, ⟨ss.length, ?_⟩, ?_⟩
      · rw [eW]
        exact ⟨0, none, kv0, rfl, hs0, rfl, s0, by rw [t1]; exact el0, eu0, by omega, v0⟩
      · intro m σ' H' hW
        rw [eW] at hW
        obtain ⟨i, y4, us, rfl, hi, rfl, s6, el, eu, lu, hv⟩ := hW
        obtain ⟨x, hx⟩ : ∃ x, ss[i]? = some x := ⟨ss[i], List.getElem?_eq_getElem hi⟩
        have hxt : x ∈ tags := hin x (List.mem_of_getElem? hx)
        have hat : atI ((ss.take (i + 1)).map V.str) (-1) = some (.str x) := atI_neg1 (by
          rw [List.length_take, Nat.min_eq_left (by omega), Nat.add_sub_cancel, List.getElem?_take, if_pos (by omega)]
          exact hx)
        have g : SqL K H' l ((ss.take (i + 1)).map V.str) := SqL.of el
        obtain ⟨a, ga, gT⟩ := e3 x hxt
        have gT' := sqT_same s6 gT
        have g1 : DGet H' d (.str x) (some (.ref a)) := by
          have z := DGet.k (k := (.inr x : Key)) (s6 _ _ e1)
          rw [ga] at z
          exact z
        have g2 : DGet H' u (.str x) (some (.int ((exL x ((prs ss).take i)).length : Nat))) := by
          have z := DGet.k (k := (.inr x : Key)) eu
          rw [hv x hxt] at z
          exact z
        refine ⟨.ref l, rfl, 1, rfl, l, _, -1, .str x, rfl, rfl, g, hat, .ref d, rfl, d, some (.ref a), rfl, g1, _, rfl, ?_⟩
        refine ite2 (fun _ => ?_) (fun z => absurd rfl z)
        refine ⟨.ref u, rfl, .ref l, rfl, 1, rfl, l, _, -1, .str x, rfl, rfl, g, hat, u, _, rfl, g2, .ref d, rfl, .ref l, rfl, 1, rfl, l, _, -1, .str x, rfl, rfl, g, hat, d, .ref a, rfl, g1, a, _, rfl, .inr gT', _, _, rfl, rfl, _, rfl, ?_⟩
        refine ite2 (fun c => ?_) (fun c => ?_)
        · have hlt := of_decide_eq_true c
          rw [List.length_map] at hlt
          have lp := prs_len ss
          have hil : i + 1 < ss.length := by
            refine Classical.byContradiction fun z => ?_
            rw [List.take_of_length_le (by omega)] at hlt
            omega
          have hy : ss[i + 1]? = some ss[i + 1] := List.getElem?_eq_getElem hil
          have hpi : (prs ss)[i]? = some (x, ss[i + 1]) := by
            unfold prs
            rw [List.getElem?_zip_eq_some]
            exact ⟨hx, by rw [List.getElem?_tail]; exact hy⟩
          refine ⟨W (ss.length - (i + 1)), fun σ' H' w => ⟨_, by omega, w⟩, ?_⟩
          have hat2 : atI ((exL x (prs ss)).map V.str) (((exL x ((prs ss).take i)).length : Nat) : Int) = some (.str ss[i + 1]) := atI_nat (by
            rw [List.getElem?_map, exL_at hpi]
            rfl)
          refine ⟨.ref l, rfl, 1, rfl, l, _, -1, .str x, rfl, rfl, g, hat, .ref l, rfl, .inl ⟨rfl, _, g⟩, .ref d, rfl, .str x, rfl, d, .ref a, rfl, g1, .ref u, rfl, .str x, rfl, u, _, rfl, g2, a, _, _, _, rfl, rfl, gT', hat2, l, _, _, rfl, rfl, el, ?_, ?_⟩
          · rw [List.length_map, List.length_take]
            exact small1000 (by omega)
          · have eu2 : (upd H' l (.lst ((ss.take (i + 1)).map V.str ++ [.str ss[i + 1]]))) u = some (.dK us) := by
              rw [upd_ne nul]
              exact eu
            have g3 : DGet (upd H' l (.lst ((ss.take (i + 1)).map V.str ++ [.str ss[i + 1]]))) u (.str x) (some (.int ((exL x ((prs ss).take i)).length : Nat))) := by
              have z := DGet.k (k := (.inr x : Key)) eu2
              rw [hv x hxt] at z
              exact z
            refine ⟨.ref u, rfl, .str x, rfl, u, _, rfl, g3, _, _, rfl, rfl, .ref u, rfl, .str x, rfl, u, _, rfl, DPut.k (k := (.inr x : Key)) eu2 (Nat.lt_of_le_of_lt lu (small1000 (by omega))), ?_⟩
            rw [eW]
            refine ⟨i + 1, _, _, rfl, hil, rfl, fun c o e => ?_, ?_, upd_same, ?_, fun t ht => ?_⟩
            · rw [upd_ne (ne_of_none e nuH), upd_ne (ne_of_none e nl)]
              exact s6 _ _ e
            · rw [upd_ne nul.symm, upd_same, take_snoc hy, List.map_append]
              rfl
            · exact Nat.le_trans (putK_len us (.inr x) _) (by omega)
            · rw [valV_put, exL_up hpi t]
              by_cases ct : t = x
              · subst ct
                rw [if_pos rfl, if_pos rfl]
                rfl
              · rw [if_neg (fun z => ct (Sum.inr.inj z)), if_neg (fun z => ct z.symm)]
                exact hv t ht
        · have hge : ss.length = i + 1 := by
            refine Classical.byContradiction fun z => c (decide_eq_true ?_)
            have hil : i + 1 < ss.length := by omega
            have hpi : (prs ss)[i]? = some (x, ss[i + 1]) := by
              unfold prs
              rw [List.getElem?_zip_eq_some]
              exact ⟨hx, by rw [List.getElem?_tail]; exact List.getElem?_eq_getElem hil⟩
            have := exL_lt hpi
            rw [List.length_map]
            omega
          rw [← hge, List.take_length] at el
          refine ⟨.ref l, rfl, l, _, rfl, .inl ⟨SqL.of el, fun p np => q _ p (s6.trans (same_upd np)) (s6.free np) upd_same⟩⟩
end
end K03
namespace K03
open PySem PySem.Spec PyProof.Rows L2 CS RZ
/-! ### neighbours by their indexes -/
theorem prs_nil : prs [] = [] := rfl
theorem prs_one (s : Str) : prs [s] = [] := rfl
theorem prs_two (s y : Str) (r : List Str) : prs (s :: y :: r) = (s, y) :: prs (y :: r) := rfl
theorem exL_cons (t x y : Str) (l : List (Str × Str)) : exL t ((x, y) :: l) = (if x = t then [y] else []) ++ exL t l := by
  unfold exL
  by_cases h : x = t
  · simp [h]
  · simp [h]
theorem enL_cons (t x y : Str) (l : List (Str × Str)) : enL t ((x, y) :: l) = (if y = t then [x] else []) ++ enL t l := by
  unfold enL
  by_cases h : y = t
  · simp [h]
  · simp [h]
def aft (ss : List Str) (k : Int) : Option Str := ss[(k + 1).toNat]?
def ahd (ss : List Str) (k : Int) : Option Str := if 0 < k then ss[(k - 1).toNat]? else none
theorem viL_cons (t s : Str) (n : Nat) (r : List Str) : viL t n (s :: r) = (if s = t then [(n : Int)] else []) ++ viL t (n + 1) r := by
  show (if s = t then (n : Int) :: viL t (n + 1) r else viL t (n + 1) r) = _
  by_cases h : s = t
  · rw [if_pos h, if_pos h]
    rfl
  · rw [if_neg h, if_neg h]
    rfl
theorem aft_all (t : Str) : ∀ (r pre : List Str), (viL t pre.length r).filterMap (aft (pre ++ r)) = exL t (prs r)
  | [], pre => rfl
  | [s], pre => by
    rw [viL_cons, prs_one]
    by_cases h : s = t
    · rw [if_pos h]
      have e : aft (pre ++ [s]) (pre.length : Nat) = none := by
        unfold aft
        rw [List.getElem?_eq_none]
        rw [List.length_append]
        show pre.length + 1 ≤ _
        omega
      show List.filterMap _ [((pre.length : Nat) : Int)] = _
      rw [List.filterMap_cons, e]
      rfl
    · rw [if_neg h]
      rfl
  | s :: y :: r, pre => by
    have ih := aft_all t (y :: r) (pre ++ [s])
    rw [List.length_append, List.append_assoc] at ih
    rw [viL_cons, prs_two, exL_cons, List.filterMap_append]
    have e : pre.length + [s].length = pre.length + 1 := rfl
    rw [e] at ih
    have e2 : (pre ++ ([s] ++ y :: r)) = pre ++ s :: y :: r := rfl
    rw [e2] at ih
    rw [ih]
    congr 1
    by_cases h : s = t
    · rw [if_pos h, if_pos h]
      have e : aft (pre ++ s :: y :: r) (pre.length : Nat) = some y := by
        unfold aft
        show (pre ++ s :: y :: r)[pre.length + 1]? = some y
        rw [List.getElem?_append_right (by omega), Nat.add_sub_cancel_left]
        rfl
      rw [List.filterMap_cons, e]
      rfl
    · rw [if_neg h, if_neg h]
      rfl
theorem ahd_some (t : Str) : ∀ (r pre : List Str) (p : Str), (viL t (pre.length + 1) r).filterMap (ahd (pre ++ p :: r)) = enL t (prs (p :: r))
  | [], pre, p => rfl
  | s :: r, pre, p => by
    have ih := ahd_some t r (pre ++ [p]) s
    rw [List.length_append, List.append_assoc] at ih
    have e1 : pre.length + [p].length = pre.length + 1 := rfl
    rw [e1] at ih
    have e2 : (pre ++ ([p] ++ s :: r)) = pre ++ p :: s :: r := rfl
    rw [e2] at ih
    rw [viL_cons, prs_two, enL_cons, List.filterMap_append, ih]
    congr 1
    by_cases h : s = t
    · rw [if_pos h, if_pos h]
      have e : ahd (pre ++ p :: s :: r) ((pre.length + 1 : Nat) : Int) = some p := by
        unfold ahd
        rw [if_pos (by omega)]
        have e4 : (((pre.length + 1 : Nat) : Int) - 1).toNat = pre.length := by omega
        rw [e4, List.getElem?_append_right (Nat.le_refl _), Nat.sub_self]
        rfl
      rw [List.filterMap_cons, e]
      rfl
    · rw [if_neg h, if_neg h]
      rfl
theorem ahd_all (t : Str) : ∀ ss : List Str, (viL t 0 ss).filterMap (ahd ss) = enL t (prs ss)
  | [] => rfl
  | s :: r => by
    have ih := ahd_some t r [] s
    rw [viL_cons, List.filterMap_append]
    have ih' : (viL t (0 + 1) r).filterMap (ahd (s :: r)) = enL t (prs (s :: r)) := ih
    rw [ih']
    by_cases h : s = t
    · rw [if_pos h]
      rfl
    · rw [if_neg h]
      rfl
theorem viL_in (t : Str) : ∀ (n : Nat) (l : List Str) (k : Int), k ∈ viL t n l → (n : Int) ≤ k ∧ k < (n + l.length : Nat)
  | n, [], k, h => by cases h
  | n, s :: r, k, h => by
    rw [viL_cons, List.mem_append] at h
    rw [List.length_cons]
    rcases h with h | h
    · by_cases c : s = t
      · rw [if_pos c, List.mem_singleton] at h
        omega
      · rw [if_neg c] at h
        cases h
    · have := viL_in t (n + 1) r k h
      omega
/-! ### data -/
theorem layS : ∀ ss : List Str, (∀ z ∈ ss, PyData.strOk z = true) → PyData.canLayAll0 (dS ss) = true
  | [], _ => rfl
  | z :: r, h => by
    show (PyData.canLay0 (.str z) && PyData.canLayAll0 (dS r)) = true
    rw [layS r fun y hy => h y (List.mem_cons_of_mem _ hy), Bool.and_true]
    exact h z (List.mem_cons_self ..)
theorem depS : ∀ ss : List Str, PyData.depthAll (dS ss) = 0
  | [] => rfl
  | z :: r => by
    show max (PyData.depth (.str z)) (PyData.depthAll (dS r)) = 0
    rw [depS r]
    rfl
theorem shS (ss : List Str) (h : ∀ z ∈ ss, PyData.strOk z = true) : SeqAt.shaped (.list (dS ss)) = true := by
  unfold SeqAt.shaped
  rw [Bool.and_eq_true]
  refine ⟨layS ss h, decide_eq_true ?_⟩
  show PyData.depthAll (dS ss) + 1 ≤ 64
  rw [depS]
  decide
theorem prs_all {ss : List Str} {as : List Addr} {H : Hp} (h : PairsAt (ss.map V.str) (ss.tail.map V.str) as H) (j : Nat) (a : Addr) (x y : Str) (ha : as[j]? = some a) (hp : (prs ss)[j]? = some (x, y)) : H a = some (.tup [.str x, .str y]) := by
  unfold prs at hp
  rw [List.getElem?_zip_eq_some] at hp
  exact h j a _ _ ha (by rw [List.getElem?_map, hp.1]; rfl) (by rw [List.getElem?_map, hp.2]; rfl)
theorem shT (ss : List Str) (h : ∀ z ∈ ss, PyData.strOk z = true) : SeqAt.shaped (.tuple (dS ss)) = true := by
  unfold SeqAt.shaped
  rw [Bool.and_eq_true]
  refine ⟨layS ss h, decide_eq_true ?_⟩
  show PyData.depthAll (dS ss) + 1 ≤ 64
  rw [depS]
  decide
def PP (as : List Addr) (l : List (Str × Str)) (H : Hp) : Prop := as.length = l.length ∧ ∀ (j : Nat) (a : Addr) (x y : Str), as[j]? = some a → l[j]? = some (x, y) → H a = some (.tup [.str x, .str y])
end K03
namespace K03
open PySem PySem.Spec PyProof.Rows L2 CS RZ
theorem layP : ∀ l : List (Str × Str), (∀ p ∈ l, PyData.strOk p.1 = true ∧ PyData.strOk p.2 = true) → PyData.canLayAll0 (l.map tx) = true
  | [], _ => rfl
  | p :: r, h => by
    have hp := h p (List.mem_cons_self ..)
    show ((PyData.strOk p.1 && (PyData.strOk p.2 && true)) && PyData.canLayAll0 (r.map tx)) = true
    rw [layP r fun y hy => h y (List.mem_cons_of_mem _ hy), hp.1, hp.2]
    rfl
theorem depP : ∀ l : List (Str × Str), PyData.depthAll (l.map tx) ≤ 1
  | [] => Nat.zero_le _
  | p :: r => by
    have ih := depP r
    have e : PyData.depth (tx p) = 1 := by simp [tx, PyData.depth, PyData.depthAll]
    show max (PyData.depth (tx p)) (PyData.depthAll (r.map tx)) ≤ 1
    rw [e]
    omega
theorem shP (l : List (Str × Str)) (h : ∀ p ∈ l, PyData.strOk p.1 = true ∧ PyData.strOk p.2 = true) : SeqAt.shaped (.list (l.map tx)) = true := by
  unfold SeqAt.shaped
  rw [Bool.and_eq_true]
  refine ⟨layP l h, decide_eq_true ?_⟩
  show PyData.depthAll (l.map tx) + 1 ≤ 64
  have := depP l
  omega
/-- e[::-1] within a comprehension: the fragment told from outside -/
theorem pe_backK {X : Cx} {e st : Expr} {te ts : TE} {p2 pos : Pos} {K : PySem.W.Frag} (hK : X.K = K) (he : PE X e te) (hst : PE X st ts) : PE X (.Subscript e (.Slice none none (some st) p2) pos) (tBack K te ts) := by
  subst hK
  exact pe_back he hst
/-- len(e) within a comprehension -/
def rLenS (K : PySem.W.Frag) : List V → Hp → VK → Prop := fun xs H Q => ∃ p ys, xs = [V.ref p] ∧ (SqL K H p ys ∨ SqT K H p ys) ∧ Q (V.int (ys.length : Nat)) H
theorem call_lenK {X : Cx} {K : PySem.W.Frag} (hK : X.K = K) : CallR X (.builtin "len") (rLenS K) := by
  subst hK
  exact call_len_seq
def zsOf (as : List Addr) (l : List (Str × Str)) : List (V × PyData) := (as.zip l).map fun p => (V.ref p.1, tx p.2)
theorem zs_fst {as : List Addr} {l : List (Str × Str)} (h : as.length = l.length) : (zsOf as l).map Prod.fst = as.map V.ref := by
  unfold zsOf
  rw [List.map_map]
  have e : (Prod.fst ∘ fun p : Addr × (Str × Str) => (V.ref p.1, tx p.2)) = V.ref ∘ Prod.fst := rfl
  rw [e, ← List.map_map, List.map_fst_zip (by omega)]
theorem zs_snd {as : List Addr} {l : List (Str × Str)} (h : as.length = l.length) : (zsOf as l).map Prod.snd = l.map tx := by
  unfold zsOf
  rw [List.map_map]
  have e : (Prod.snd ∘ fun p : Addr × (Str × Str) => (V.ref p.1, tx p.2)) = tx ∘ Prod.snd := rfl
  rw [e, ← List.map_map, List.map_snd_zip (by omega)]
section
variable {K : PySem.W.Frag} {H H' : Hp}
theorem PP.keep {as : List Addr} {l : List (Str × Str)} (h : PP as l H) (s : Same H H') : PP as l H' := ⟨h.1, fun j a x y e1 e2 => s _ _ (h.2 j a x y e1 e2)⟩
theorem zs_dp {as : List Addr} {l : List (Str × Str)} (h : PP as l H) : ∀ z ∈ zsOf as l, Dp K H z.1 z.2 := by
  intro z hz
  obtain ⟨p, hp, rfl⟩ := List.mem_map.mp hz
  obtain ⟨j, hj⟩ := List.getElem?_of_mem hp
  rw [List.getElem?_zip_eq_some] at hj
  exact .tup (SqT.of (h.2 j p.1 p.2.1 p.2.2 hj.1 hj.2)) (.cons (.str _) (.cons (.str _) .nil))
theorem dpAll_of : ∀ zs : List (V × PyData), (∀ z ∈ zs, Dp K H z.1 z.2) → DpAll K H (zs.map Prod.fst) (zs.map Prod.snd)
  | [], _ => .nil
  | z :: zs, h => .cons (h z (List.mem_cons_self ..)) (dpAll_of zs fun y hy => h y (List.mem_cons_of_mem _ hy))
/-- the sorted list, as data -/
theorem zs_sorted {as : List Addr} {l : List (Str × Str)} {p : Addr} (h : PP as l H) (e : H p = some (.lst (((zsOf as l).mergeSort ordD).map Prod.fst))) : Dp K H (.ref p) (.list ((l.mergeSort leP).map tx)) := by
  rw [← sort_tx (zs_snd h.1)]
  exact .lst (SqL.of e) (dpAll_of _ fun z hz => zs_dp h z ((List.mergeSort_perm _ _).mem_iff.mp hz))
/-- pairs of a place and a tuple make a table -/
theorem pairs_tab {as gs : List Addr} {tags : List Str} {f : Str → List Str} (l1 : as.length = tags.length) (l2 : gs.length = tags.length) (nd : tags.Nodup)
    (h : ∀ (j : Nat) (a g : Addr) (t : Str), as[j]? = some a → gs[j]? = some g → tags[j]? = some t → H a = some (.tup [.str t, .ref g]) ∧ SqT K H g ((f t).map V.str)) :
    ∃ kv0 : List (Key × V), Paired (fun p (kv : Key × V) => SqT K H p [kV kv.1, kv.2]) as kv0 ∧ ∀ u, H u = none → Tab K (upd H u (.dK (mergeK [] kv0))) u tags f := by
  obtain ⟨kv0, ekv⟩ : ∃ kv0 : List (Key × V), kv0 = (tags.zip gs).map fun p => ((.inr p.1 : Key), V.ref p.2) := ⟨_, rfl⟩
  have hk : kv0.map Prod.fst = tags.map Sum.inr := by
    rw [ekv, List.map_map]
    have e : (Prod.fst ∘ fun p : Str × Addr => ((.inr p.1 : Key), V.ref p.2)) = (Sum.inr : Str → Key) ∘ Prod.fst := rfl
    rw [e, ← List.map_map, List.map_fst_zip (by omega)]
  refine ⟨kv0, ?_, fun u nu => ⟨⟨kv0, ?_, hk, fun t ht => ?_⟩⟩⟩
  · rw [ekv]
    have aux : ∀ (as : List Addr) (tags : List Str) (gs : List Addr), as.length = tags.length → gs.length = tags.length → (∀ (j : Nat) (a g : Addr) (t : Str), as[j]? = some a → gs[j]? = some g → tags[j]? = some t → H a = some (.tup [.str t, .ref g])) →
        Paired (fun p (kv : Key × V) => SqT K H p [kV kv.1, kv.2]) as ((tags.zip gs).map fun p => ((.inr p.1 : Key), V.ref p.2)) := by
      intro as
      induction as with
      | nil =>
        intro tags gs x1 x2 _
        cases tags with
        | nil => exact .nil
        | cons _ _ => cases x1
      | cons a as ih =>
        intro tags gs x1 x2 hh
        cases tags with
        | nil => cases x1
        | cons t tags =>
          cases gs with
          | nil => cases x2
          | cons g gs => exact .cons (SqT.of (hh 0 a g t rfl rfl rfl)) (ih tags gs (Nat.succ.inj x1) (Nat.succ.inj x2) fun j b c u x y z => hh (j + 1) b c u x y z)
    exact aux as tags gs l1 l2 fun j a g t x y z => (h j a g t x y z).1
  · rw [mergeK_nodup kv0 [] (by rw [List.nil_append, hk]; exact keys_nodup nd), List.nil_append]
    exact upd_same
  · obtain ⟨j, hj⟩ := List.getElem?_of_mem ht
    have hjl := (List.getElem?_eq_some_iff.mp hj).1
    have hg : gs[j]? = some (gs[j]'(by omega)) := List.getElem?_eq_getElem (by omega)
    have ha : as[j]? = some (as[j]'(by omega)) := List.getElem?_eq_getElem (by omega)
    refine ⟨gs[j]'(by omega), valV_at (j := j) (by rw [hk]; exact keys_nodup nd) ?_, sqT_same (same_upd nu) (h j _ _ t ha hg hj).2⟩
    have hz : (tags.zip gs)[j]? = some (t, gs[j]'(by omega)) := List.getElem?_zip_eq_some.mpr ⟨hj, hg⟩
    rw [ekv, List.getElem?_map, hz]
    rfl
end
theorem byTags_snoc (tags : List Str) (t : Str) (l : List (Str × Str)) : byTags (tags ++ [t]) l = byTags tags l ++ (exL t l).map fun y => (t, y) := by
  unfold byTags
  rw [List.flatMap_append]
  simp
theorem byTags_len {tags : List Str} (nd : tags.Nodup) (i : Nat) (ss : List Str) : (byTags (tags.take i) (prs ss)).length ≤ ss.length := by
  have e := (byTags_perm (prs ss) (tags.take i) (List.Sublist.nodup (List.take_sublist i tags) nd)).length_eq
  have e2 := List.length_filter_le (fun p : Str × Str => (tags.take i).contains p.1) (prs ss)
  have e3 := prs_len ss
  omega
end K03
namespace K03
open PySem PySem.Spec PyProof.Rows L2 CS RZ
theorem sqT_put {K : PySem.W.Frag} {H : Hp} {D g : Addr} {xs ys : List V} {o : HO} (h : SqT K H g xs) (e : H D = some (.lst ys)) : SqT K (upd H D o) g xs := by
  rcases h with (h | ⟨o', h⟩) | h
  · exact .inl (.inl (by rw [upd_ne (ne_of h e (by intro z; cases z))]; exact h))
  · exact .inl (.inr ⟨o', by rw [upd_ne (ne_of h e (by intro z; cases z))]; exact h⟩)
  · exact .inr h
/-- while a table's pairs are made -/
structure TB (K : PySem.W.Frag) (H0 : Hp) (D : Addr) (tags : List Str) (f : Str → List Str) (as gs : List Addr) (H' : Hp) : Prop where
  la : gs.length = as.length
  sm : Same H0 H'
  eD : H' D = some (.lst (as.map V.ref))
  pr : ∀ (j : Nat) (a g : Addr) (t : Str), as[j]? = some a → gs[j]? = some g → tags[j]? = some t → H' a = some (.tup [.str t, .ref g]) ∧ SqT K H' g ((f t).map V.str)
theorem TB.snoc {K : PySem.W.Frag} {H0 H2 H3 : Hp} {D T g : Addr} {tags : List Str} {f : Str → List Str} {as gs : List Addr} {t : Str} (B : TB K H0 D tags f as gs H2) (nD : H0 D = none) (s : Same H2 H3) (ht : tags[as.length]? = some t) (hg : SqT K H3 g ((f t).map V.str)) (nT : H3 T = none) :
    TB K H0 D tags f (as ++ [T]) (gs ++ [g]) (upd (upd H3 T (.tup [.str t, .ref g])) D (.lst (as.map V.ref ++ [.ref T]))) := by
  have eD3 : (upd H3 T (.tup [.str t, .ref g])) D = some (.lst (as.map V.ref)) := same_upd nT _ _ (s _ _ B.eD)
  refine ⟨by rw [List.length_append, List.length_append, B.la]; rfl, fun b o e => ?_, by rw [upd_same, List.map_append]; rfl, fun j a u z ha hu hz => ?_⟩
  · rw [upd_ne (ne_of_none e nD)]
    exact same_upd nT _ _ (s _ _ (B.sm _ _ e))
  · by_cases hj : j < as.length
    · rw [List.getElem?_append_left hj] at ha
      rw [List.getElem?_append_left (by rw [B.la]; exact hj)] at hu
      obtain ⟨p1, p2⟩ := B.pr j a u z ha hu hz
      have p1' := same_upd (o := .tup [.str t, .ref g]) nT _ _ (s _ _ p1)
      refine ⟨?_, sqT_put (sqT_same ((s).trans (same_upd nT)) p2) eD3⟩
      rw [upd_ne (ne_of p1' eD3 (by intro z; cases z))]
      exact p1'
    · have hl2 := (List.getElem?_eq_some_iff.mp ha).1
      rw [List.length_append, List.length_singleton] at hl2
      have ej : j = as.length := by omega
      subst ej
      rw [List.getElem?_append_right (Nat.le_refl _), Nat.sub_self] at ha
      have ea : T = a := Option.some.inj ha
      subst ea
      rw [← B.la, List.getElem?_append_right (Nat.le_refl _), Nat.sub_self] at hu
      have eu : g = u := Option.some.inj hu
      subst eu
      rw [ht] at hz
      have ez : t = z := Option.some.inj hz
      subst ez
      have nTD : T ≠ D := fun z => by
        rw [z, s _ _ B.eD] at nT
        cases nT
      refine ⟨by rw [upd_ne nTD, upd_same], sqT_put (sqT_same (same_upd nT) hg) eD3⟩
theorem fm_some {f : Int → Option Str} {l : List Int} {k : Int} {z : Str} (h : f k = some z) : (l ++ [k]).filterMap f = l.filterMap f ++ [z] := by
  rw [List.filterMap_append, List.filterMap_cons, h]
  rfl
theorem fm_none {f : Int → Option Str} {l : List Int} {k : Int} (h : f k = none) : (l ++ [k]).filterMap f = l.filterMap f := by
  rw [List.filterMap_append, List.filterMap_cons, h]
  exact List.append_nil _
theorem prs_mem {ss : List Str} {p : Str × Str} (h : p ∈ prs ss) : p.1 ∈ ss ∧ p.2 ∈ ss := by
  unfold prs at h
  have q := List.of_mem_zip (a := p.1) (b := p.2) h
  exact ⟨q.1, List.mem_of_mem_tail q.2⟩
theorem exL_mem {t z : Str} {ss : List Str} (h : z ∈ exL t (prs ss)) : z ∈ ss := by
  unfold exL at h
  obtain ⟨p, hp, rfl⟩ := List.mem_map.mp h
  exact (prs_mem (List.mem_filter.mp hp).1).2
theorem enL_mem {t z : Str} {ss : List Str} (h : z ∈ enL t (prs ss)) : z ∈ ss := by
  unfold enL at h
  obtain ⟨p, hp, rfl⟩ := List.mem_map.mp h
  exact (prs_mem (List.mem_filter.mp hp).1).1
theorem PP.app {as bs : List Addr} {l m : List (Str × Str)} {H : Hp} (h : PP as l H) (g : PP bs m H) : PP (as ++ bs) (l ++ m) H := by
  refine ⟨by rw [List.length_append, List.length_append, h.1, g.1], fun j a x y e1 e2 => ?_⟩
  by_cases hj : j < as.length
  · rw [List.getElem?_append_left hj] at e1
    rw [List.getElem?_append_left (by rw [← h.1]; exact hj)] at e2
    exact h.2 j a x y e1 e2
  · rw [List.getElem?_append_right (by omega)] at e1
    rw [List.getElem?_append_right (by rw [← h.1]; omega), ← h.1] at e2
    exact g.2 _ a x y e1 e2
theorem PP.snoc {as : List Addr} {l : List (Str × Str)} {H : Hp} {D T : Addr} {x y : Str} {ys : List V} {o : HO} (h : PP as l H) (e : H T = some (.tup [.str x, .str y])) (eD : H D = some (.lst ys)) : PP (as ++ [T]) (l ++ [(x, y)]) (upd H D o) := by
  have g : PP [T] [(x, y)] H := ⟨rfl, fun j a u v e1 e2 => by
    cases j with
    | zero =>
      cases e1
      cases e2
      exact e
    | succ j => cases e1⟩
  have k := h.app g
  refine ⟨k.1, fun j a u v e1 e2 => ?_⟩
  have z := k.2 j a u v e1 e2
  rw [upd_ne (ne_of z eD (by intro z; cases z))]
  exact z
theorem zs_depth (as : List Addr) (l : List (Str × Str)) : ∀ z ∈ zsOf as l, z.2.depth ≤ 60 := by
  intro z hz
  obtain ⟨p, _, rfl⟩ := List.mem_map.mp hz
  exact tx_depth p.2
end K03
namespace K03
open PySem PySem.Spec PyProof.Rows L2 CS RZ
section
variable {P : Program} {w : World} {K : PySem.W.Frag} {mg : Str → Option Value} {base : Heap}
/-- what is known of the defs that the case asks -/
structure PrG (P : Program) (w : World) (K : PySem.W.Frag) (mg : Str → Option Value) (base : Heap) (k : Nat) where
  {fS fV fX fN fT fF : Addr}
  {dSt dVi dEx dEn dTu dFo : FuncData}
  S : FnOk P w K mg base CX0 k fS dSt ["journey"] (spSteps K)
  V : FnOk P w K mg base CX0 k fV dVi ["journey", "place"] (spPl K gVi)
  X : FnOk P w K mg base CX0 k fX dEx ["journey", "place"] (spPl K gEx)
  N : FnOk P w K mg base CX0 k fN dEn ["journey", "place"] (spPl K gEn)
  T : FnOk P w K mg base CX0 k fT dTu ["journey"] (spTurned K)
  F : FnOk P w K mg base CX0 k fF dFo ["_law_first_so", "_law_table"] (spFol K)
  kS : PySem.W.keepIn K (.ref fS) = true
  kV : PySem.W.keepIn K (.ref fV) = true
  kX : PySem.W.keepIn K (.ref fX) = true
  kN : PySem.W.keepIn K (.ref fN) = true
  kT : PySem.W.keepIn K (.ref fT) = true
  kF : PySem.W.keepIn K (.ref fF) = true
  bS : Binds K dSt ["journey"] []
  bV : Binds K dVi ["journey", "place"] []
  bX : Binds K dEx ["journey", "place"] []
  bN : Binds K dEn ["journey", "place"] []
  bT : Binds K dTu ["journey"] []
  bF : Binds K dFo ["_law_first_so", "_law_table"] []
  mS : mg "steps_of" = some (.ref fS)
  mV : mg "visits" = some (.ref fV)
  mX : mg "exits" = some (.ref fX)
  mN : mg "entries" = some (.ref fN)
  mT : mg "turned" = some (.ref fT)
  mF : mg "_law_followed" = some (.ref fF)
def spCase (K : PySem.W.Frag) : Sp := fun vs H Q _ => ∃ (t a : Addr) (tags ss : List Str), vs = [.ref t, .ref a] ∧ SqL K H t (tags.map V.str) ∧ tags.Nodup ∧ tags.length ≤ 100 ∧ SqT K H a (ss.map V.str) ∧ 0 < ss.length ∧ ss.length ≤ 900 ∧ (∀ r ∈ ss, r ∈ tags) ∧ (∀ z ∈ tags, PyData.strOk z = true) ∧ ∀ H' : Hp, Same H H' → Q (.bl true) H'
abbrev nCase : List Str := ["_law_tags_here", "_law_row_so", "_law_tag", "_law_away_so", "_law_home_so", "_law_pairs_so", "_law_spots_so", "_law_after", "_law_ahead", "_law_far", "_law_k"]
theorem scCase : FnScope nCase ["_law_tags_here", "_law_row_so"] (defScope sCase) := ⟨rfl, rfl, rfl, by decide +kernel, rfl, by decide +kernel, by decide +kernel⟩
theorem ok_case {f fm : Addr} {fd dm : FuncData} {k : Nat} (F : Fun K "_law_case_right" "_law_case_right" sCase f fd) (G : PrG P w K mg base k) (M : FnOk P w K mg base CX0 k fm dm ["_law_got", "_law_due"] (spSame K 4)) (bM : Binds K dm ["_law_got", "_law_due"] []) (kM : PySem.W.keepIn K (.ref fm) = true) (mM : mg "_law_same" = some (.ref fm)) (T : SmT mg) (md : mg "dict" = none) (ms : mg "sorted" = none) :
    FnOk P w K mg base CX0 (k + 1) f fd ["_law_tags_here", "_law_row_so"] (spCase K) := by
  refine F.ok scCase (fun vs H Q E h => ?_) (fun cdv A outer s H vs Q E hr h => ?_)
  · obtain ⟨t, a, tags, ss, rfl, _⟩ := h
    rfl
  · obtain ⟨t, a, tags, ss, rfl, hT, nd, hl, hS, h0, h9, hin, hok, q⟩ := h
    have hu := hu_of hr
    refine ⟨_, pss_cons (ps_set (i := 3) scCase.nd rfl (.inl rfl) (pe_callTy (call_dictP (by rfl)) (by rfl) md (by decide +kernel) (pa_cons (pe_lc (own := [("_law_tag", 2)]) (g := gName 2) (by rfl) scCase.nd (pi_list (pv 0))
          (blkOk_by (own := [("_law_tag", 2)]) (N := nCase) (sc := defScope sCase) (by decide +kernel)) (fun _ _ _ _ _ => pg_name (i := 2) scCase.nd rfl (Or.inl rfl) (.inr rfl)) (fun _ _ _ _ _ => pts_nil)
          (fun _ _ _ _ _ => pe_tup (pa_cons (pv 2) (pa_cons (pe_call G.X hr (by rfl) G.mX G.kX G.bX .nil pass0 (pa_cons (pv 1) (pa_cons (pv 2) pa_nil))) pa_nil)))) pa_nil)))
      (pss_cons (ps_set (i := 4) scCase.nd rfl (.inl rfl) (pe_callTy (call_dictP (by rfl)) (by rfl) md (by decide +kernel) (pa_cons (pe_lc (own := [("_law_tag", 2)]) (g := gName 2) (by rfl) scCase.nd (pi_list (pv 0))
          (blkOk_by (own := [("_law_tag", 2)]) (N := nCase) (sc := defScope sCase) (by decide +kernel)) (fun _ _ _ _ _ => pg_name (i := 2) scCase.nd rfl (Or.inl rfl) (.inr rfl)) (fun _ _ _ _ _ => pts_nil)
          (fun _ _ _ _ _ => pe_tup (pa_cons (pv 2) (pa_cons (pe_backK (K := K) rfl (pe_call G.N hr (by rfl) G.mN G.kN G.bN .nil pass0 (pa_cons (pv 1) (pa_cons (pv 2) pa_nil))) (pe_un un_neg pe_int)) pa_nil)))) pa_nil)))
      (pss_cons (ps_if (PW.pt (pw_or (pt_cmpR (op_neD hr.units) (pe_call G.F hr (by rfl) G.mF G.kF G.bF .nil pass0 (pa_cons (pe_ix (r := rIxT K) ix_tup (pv 1) pe_int (fun _ _ => rfl)) (pa_cons (pv 3) pa_nil))) (pv 1) (nomark _))
          (pw_or1 (pt_cmpR (op_neD hr.units) (pe_call G.F hr (by rfl) G.mF G.kF G.bF .nil pass0 (pa_cons (pe_ix (r := rIxT K) ix_tup (pv 1) (pe_un un_neg pe_int) (fun _ _ => rfl)) (pa_cons (pv 4) pa_nil))) (pe_call G.T hr (by rfl) G.mT G.kT G.bT .nil pass0 (pa_cons (pv 1) pa_nil)) (nomark _)))))
        (pss_one (ps_ret pe_bl)) pss_nil)
      (pss_cons (ps_set (i := 5) scCase.nd rfl (.inl rfl) (pe_lst pa_nil))
      (pss_cons (ps_for PassesOwn.never rfl (pi_list (pv 0)) (pg_name (i := 2) scCase.nd rfl (.inr rfl))
        (pss_one (ps_set (i := 5) scCase.nd rfl (.inl rfl) (pe_op op_cat (pv 5) (pe_lc (own := [("_law_far", 9)]) (g := gName 9) (by rfl) scCase.nd (pi_tup (pe_dget hu (pv 3) (pv 2) (fun _ _ => rfl)))
          (blkOk_by (own := [("_law_far", 9)]) (N := nCase) (sc := defScope sCase) (by decide +kernel)) (fun _ _ _ _ _ => pg_name (i := 9) scCase.nd rfl (Or.inl rfl) (.inr rfl)) (fun _ _ _ _ _ => pts_nil)
          (fun _ _ _ _ _ => pe_tup (pa_cons (pv 2) (pa_cons (pv 9) pa_nil))))))))
      (pss_cons (ps_if (pt_cmpR (op_neD hr.units) (pe_callB (cr_sortedDt hr.units) (by rfl) ms (by decide +kernel) (pa_cons (pv 5) pa_nil)) (pe_callB (cr_sortedDt hr.units) (by rfl) ms (by decide +kernel) (pa_cons (pe_call G.S hr (by rfl) G.mS G.kS G.bS .nil pass0 (pa_cons (pv 1) pa_nil)) pa_nil)) (nomark _)) (pss_one (ps_ret pe_bl)) pss_nil)
      (pss_cons (ps_for PassesOwn.never rfl (pi_list (pv 0)) (pg_name (i := 2) scCase.nd rfl (.inr rfl))
        (pss_cons (ps_set (i := 6) scCase.nd rfl (.inl rfl) (pe_call G.V hr (by rfl) G.mV G.kV G.bV .nil pass0 (pa_cons (pv 1) (pa_cons (pv 2) pa_nil))))
        (pss_cons (ps_setLc (i := 7) (own := [("_law_k", 10)]) (g := gName 10) rfl scCase.nd rfl rfl (sw_true rfl rfl rfl (by decide +kernel)) (pi_tup (pv 6)) (blkOk_by (own := [("_law_k", 10)]) (N := nCase) (sc := defScope sCase) (by decide +kernel))
            (fun _ _ _ _ _ => pg_name (i := 10) scCase.nd rfl (Or.inl rfl) (.inr rfl)) (fun _ _ _ _ _ => pts_one (pt_cmpR op_lt (pe_op op_add (pv 10) pe_int) (pe_callB (r := rLenS K) (call_lenK rfl) (by rfl) T.le PySem.boot_len (pa_cons (pv 1) pa_nil)) (nomark _)))
            (fun _ _ _ _ _ => pe_ix (r := rIxT K) ix_tup (pv 1) (pe_op op_add (pv 10) pe_int) (fun _ _ => rfl)))
        (pss_cons (ps_setLc (i := 8) (own := [("_law_k", 10)]) (g := gName 10) rfl scCase.nd rfl rfl (sw_true rfl rfl rfl (by decide +kernel)) (pi_tup (pv 6)) (blkOk_by (own := [("_law_k", 10)]) (N := nCase) (sc := defScope sCase) (by decide +kernel))
            (fun _ _ _ _ _ => pg_name (i := 10) scCase.nd rfl (Or.inl rfl) (.inr rfl)) (fun _ _ _ _ _ => pts_one (pt_cmpR op_gt (pv 10) pe_int (nomark _)))
            (fun _ _ _ _ _ => pe_ix (r := rIxT K) ix_tup (pv 1) (pe_op op_sub (pv 10) pe_int) (fun _ _ => rfl)))
        (pss_cons (ps_if (PW.pt (pw_or (pt_cmpR (op_neD hr.units) (pe_callTy call_list_of (by rfl) T.li (by decide +kernel) (pa_cons (pe_dget hu (pv 3) (pv 2) (fun _ _ => rfl)) pa_nil)) (pv 7) (nomark _))
            (pw_or1 (pt_cmpR (op_neD hr.units) (pe_callTy call_list_of (by rfl) T.li (by decide +kernel) (pa_cons (pe_call G.N hr (by rfl) G.mN G.kN G.bN .nil pass0 (pa_cons (pv 1) (pa_cons (pv 2) pa_nil))) pa_nil)) (pv 8) (nomark _)))))
          (pss_one (ps_ret pe_bl)) pss_nil)
        (pss_one (ps_if (pt_not (pt_val (pe_call M hr (by rfl) mM kM bM .nil pass0 (pa_cons (pe_lst (pa_cons (pe_call G.X hr (by rfl) G.mX G.kX G.bX .nil pass0 (pa_cons (pe_call G.T hr (by rfl) G.mT G.kT G.bT .nil pass0 (pa_cons (pv 1) pa_nil)) (pa_cons (pv 2) pa_nil)))
              (pa_cons (pe_call G.N hr (by rfl) G.mN G.kN G.bN .nil pass0 (pa_cons (pe_call G.T hr (by rfl) G.mT G.kT G.bT .nil pass0 (pa_cons (pv 1) pa_nil)) (pa_cons (pv 2) pa_nil))) pa_nil)))
            (pa_cons (pe_lst (pa_cons (pe_back (pe_call G.N hr (by rfl) G.mN G.kN G.bN .nil pass0 (pa_cons (pv 1) (pa_cons (pv 2) pa_nil))) (pe_un un_neg pe_int)) (pa_cons (pe_back (pe_call G.X hr (by rfl) G.mX G.kX G.bX .nil pass0 (pa_cons (pv 1) (pa_cons (pv 2) pa_nil))) (pe_un un_neg pe_int)) pa_nil))) pa_nil)))))
          (pss_one (ps_ret pe_bl)) pss_nil)))))))
      (pss_one (ps_ret pe_bl)))))))), ?_⟩
    have small : ∀ (l : List V), l.length ≤ 1000 → l.length < sizeLine := fun l hl => small1000 hl
    have hokS : ∀ z ∈ ss, PyData.strOk z = true := fun z hz => hok z (hin z hz)
    have lp := prs_len ss
    have tagOf : ∀ (i : Nat) (x : V), (tags.map V.str)[i]? = some x → ∃ z, x = .str z ∧ tags[i]? = some z := fun i x e => by
      rw [List.getElem?_map] at e
      cases e2 : tags[i]? with
      | none =>
        rw [e2] at e
        cases e
      | some z =>
        rw [e2] at e
        exact ⟨z, (Option.some.inj e).symm, rfl⟩
    -- the tables
    refine ⟨.ref t, rfl, t, rfl, ⟨_, hT⟩, fun D nD => lc_list (K := K) (a := t) (xs := tags.map V.str) (fun i H' => ∃ as gs : List Addr, as.length = i ∧ TB K H D tags (fun t => exL t (prs ss)) as gs H') ⟨[], [], rfl, rfl, same_upd nD, upd_same, fun j a g t z => by cases z⟩
      (fun i H' _ z => by
        obtain ⟨_, _, _, B⟩ := z
        exact B.sm.seq hT) ?_ ?_⟩
    · rintro i x H2 hx ⟨as, gs, li, B⟩
      obtain ⟨tg, rfl, htg⟩ := tagOf i x hx
      refine ⟨rfl, ?_⟩
      unfold tYes
      refine ite2 (fun _ => ?_) (fun z => absurd rfl z)
      refine ⟨.str tg, rfl, .ref a, rfl, .str tg, rfl, a, ss, tg, rfl, .inl (sqT_same B.sm hS), h0, by omega, fun H3 g s3 n3 e3 => ⟨(by show 2 ≤ sizeLine; decide), fun T nT => ⟨_, same_upd nT _ _ (s3 _ _ B.eD), small _ ?_, as ++ [T], gs ++ [g], by rw [List.length_append, li]; rfl, B.snoc nD s3 (by rw [li]; exact htg) (SqT.of e3) nT⟩⟩⟩
      have := (List.getElem?_eq_some_iff.mp htg).1
      rw [List.length_map]
      omega
    rintro H2 ⟨as, gs, li, B⟩
    rw [List.length_map] at li
    obtain ⟨kv0, pr0, tab0⟩ := pairs_tab (K := K) (H := H2) (f := fun t => exL t (prs ss)) li (B.la.trans li) nd B.pr
    refine ⟨D, as, kv0, rfl, SqL.of B.eD, pr0, fun d1 nd1 => ?_⟩
    have TA := tab0 d1 nd1
    have sA : Same H (upd H2 d1 (.dK (mergeK [] kv0))) := B.sm.trans (same_upd nd1)
    generalize upd H2 d1 (.dK (mergeK [] kv0)) = HA at TA sA
    clear tab0 pr0 B nd1 li
    refine ⟨.ref t, rfl, t, rfl, ⟨_, sA.seq hT⟩, fun D nD => lc_list (K := K) (a := t) (xs := tags.map V.str) (fun i H' => ∃ as gs : List Addr, as.length = i ∧ TB K HA D tags (fun t => exL t (prs ss.reverse)) as gs H') ⟨[], [], rfl, rfl, same_upd nD, upd_same, fun j a g t z => by cases z⟩
      (fun i H' _ z => by
        obtain ⟨_, _, _, B⟩ := z
        exact (sA.trans B.sm).seq hT) ?_ ?_⟩
    · rintro i x H2 hx ⟨as, gs, li, B⟩
      obtain ⟨tg, rfl, htg⟩ := tagOf i x hx
      refine ⟨rfl, ?_⟩
      unfold tYes
      refine ite2 (fun _ => ?_) (fun z => absurd rfl z)
      refine ⟨.str tg, rfl, .ref a, rfl, .str tg, rfl, a, ss, tg, rfl, .inl (sqT_same (sA.trans B.sm) hS), h0, by omega, fun H3 g s3 n3 e3 => ⟨1, rfl, rfl, g, _, rfl, .inl ⟨SqT.of e3, fun g2 n2 => ⟨(by show 2 ≤ sizeLine; decide), fun T nT => ⟨_, same_upd nT _ _ (same_upd n2 _ _ (s3 _ _ B.eD)), small _ ?_, as ++ [T], gs ++ [g2], by rw [List.length_append, li]; rfl, B.snoc nD (s3.trans (same_upd n2)) (by rw [li]; exact htg) ?_ nT⟩⟩⟩⟩⟩
      · have := (List.getElem?_eq_some_iff.mp htg).1
        rw [List.length_map]
        omega
      · refine SqT.of ?_
        rw [upd_same, exL_rev, List.map_reverse]
        rfl
    rintro H3 ⟨as2, gs2, li, B⟩
    rw [List.length_map] at li
    obtain ⟨kv2, pr2, tab2⟩ := pairs_tab (K := K) (H := H3) (f := fun t => exL t (prs ss.reverse)) li (B.la.trans li) nd B.pr
    refine ⟨D, as2, kv2, rfl, SqL.of B.eD, pr2, fun d2 nd2 => ?_⟩
    have TB2 := tab2 d2 nd2
    have sAB : Same HA (upd H3 d2 (.dK (mergeK [] kv2))) := B.sm.trans (same_upd nd2)
    generalize upd H3 d2 (.dK (mergeK [] kv2)) = HB at TB2 sAB
    clear tab2 pr2 B nd2 li
    have TA2 := TA.keep sAB
    have sB := sA.trans sAB
    clear sAB TA sA
    -- followed
    obtain ⟨z0, hz0⟩ : ∃ z, ss[0]? = some z := ⟨ss[0], List.getElem?_eq_getElem h0⟩
    obtain ⟨zl, hzl⟩ : ∃ z, ss[ss.length - 1]? = some z := ⟨ss[ss.length - 1]'(by omega), List.getElem?_eq_getElem (by omega)⟩
    have at0 : atI (ss.map V.str) 0 = some (.str z0) := atI_nat (j := 0) (by rw [List.getElem?_map, hz0]; rfl)
    have atl : atI (ss.map V.str) (-1) = some (.str zl) := atI_neg1 hzl
    have hr0 : ss.reverse[0]? = some zl := by
      rw [List.getElem?_reverse (by omega)]
      exact hzl
    refine ⟨.ref a, rfl, a, _, 0, .str z0, rfl, rfl, sqT_same sB hS, at0, .ref d1, rfl, d1, z0, tags, ss, rfl, TA2, nd, hl, hz0, h9, hin, fun H4 p4 s4 n4 e4 => ⟨.ref a, rfl, .tuple (dS ss), .tuple (dS ss), .tup (SqT.of e4) (dpS _), .tup (sqT_same (sB.trans s4) hS) (dpS _), shT ss hokS, shT ss hokS, _, rfl, ?_⟩⟩
    rw [SeqAt.eqv_refl (.tuple (dS ss)) (layS ss hokS)]
    refine ite2 (fun z => by cases z) (fun _ => ?_)
    have hokR : ∀ z ∈ ss.reverse, PyData.strOk z = true := fun z hz => hokS z (List.mem_reverse.mp hz)
    refine ⟨.ref a, rfl, 1, rfl, a, _, -1, .str zl, rfl, rfl, sqT_same (sB.trans s4) hS, atl, .ref d2, rfl, d2, zl, tags, ss.reverse, rfl, TB2.keep s4, nd, hl, hr0, by rw [List.length_reverse]; exact h9, fun r hr => hin r (List.mem_reverse.mp hr), fun H5 p5 s5 n5 e5 =>
      ⟨.ref a, rfl, a, ss, rfl, .inl (sqT_same ((sB.trans s4).trans s5) hS), fun H6 p6 s6 n6 e6 => ⟨.tuple (dS ss.reverse), .tuple (dS ss.reverse), .tup (SqT.of (s6 _ _ e5)) (dpS _), .tup (SqT.of e6) (dpS _), shT _ hokR, shT _ hokR, _, rfl, ?_⟩⟩⟩
    rw [SeqAt.eqv_refl (.tuple (dS ss.reverse)) (layS _ hokR)]
    refine ite2 (fun z => by cases z) (fun _ => ?_)
    have sC : Same H H6 := ((sB.trans s4).trans s5).trans s6
    have TC := TA2.keep ((s4.trans s5).trans s6)
    clear TA2 TB2 sB s4 s5 s6 e4 e5 e6
    -- pairs
    refine ⟨Nat.zero_le _, fun L0 nL0 => ?_⟩
    have sD : Same H (upd H6 L0 (.lst [])) := sC.trans (same_upd nL0)
    have TD := TC.keep (same_upd (o := .lst []) nL0)
    have eL0 : (upd H6 L0 (.lst [])) L0 = some (.lst (([] : List Addr).map V.ref)) := upd_same
    generalize upd H6 L0 (.lst []) = H7 at sD TD eL0
    clear TC sC
    refine ⟨.ref t, rfl, t, rfl, ⟨_, sD.seq hT⟩, for_list (K := K) (a := t) (xs := tags.map V.str) (fun i σ H' => ∃ (y2 : Option V) (L : Addr) (as : List Addr), σ = [some (.ref t), some (.ref a), y2, some (.ref d1), some (.ref d2), some (.ref L), none, none, none, none, none] ∧ Same H7 H' ∧ H' L = some (.lst (as.map V.ref)) ∧ PP as (byTags (tags.take i) (prs ss)) H')
      ⟨_, L0, [], rfl, fun _ _ e => e, eL0, rfl, fun j a x y z => by cases z⟩ (fun i σ H' _ z => by
        obtain ⟨_, _, _, _, s, _⟩ := z
        exact (sD.trans s).seq hT) ?_ ?_⟩
    · rintro i x σ H2 hx ⟨y2, L, as, rfl, s2, eL, hp⟩
      obtain ⟨tg, rfl, htg⟩ := tagOf i x hx
      have htm : tg ∈ tags := List.mem_of_getElem? htg
      obtain ⟨kvs, e1, e2, e3⟩ := (TD.keep s2).ex
      obtain ⟨ga, gv, gT⟩ := e3 tg htm
      have gD : DGet H2 d1 (.str tg) (some (.ref ga)) := by
        have z := DGet.k (k := (.inr tg : Key)) e1
        rw [gv] at z
        exact z
      have le := exL_len tg (prs ss)
      refine ⟨.ref L, rfl, .ref d1, rfl, .str tg, rfl, d1, .ref ga, rfl, gD, ga, rfl, ⟨_, gT⟩, fun D nD => lc_tup (K := K) (a := ga) (xs := (exL tg (prs ss)).map V.str) (fun j H' => ∃ bs : List Addr, Same H2 H' ∧ H' D = some (.lst (bs.map V.ref)) ∧ PP bs (((exL tg (prs ss)).take j).map fun y => (tg, y)) H')
        ⟨[], same_upd nD, upd_same, rfl, fun j a x y z => by cases z⟩ (fun j H' _ z => by
          obtain ⟨_, s, _⟩ := z
          exact sqT_same s gT) ?_ ?_⟩
      · rintro j x H3 hx3 ⟨bs, s3, eD, hb⟩
        rw [List.getElem?_map] at hx3
        obtain ⟨y, hy, rfl⟩ : ∃ y, (exL tg (prs ss))[j]? = some y ∧ x = .str y := by
          cases e : (exL tg (prs ss))[j]? with
          | none =>
            rw [e] at hx3
            cases hx3
          | some y =>
            rw [e] at hx3
            exact ⟨y, rfl, (Option.some.inj hx3).symm⟩
        have hjl := (List.getElem?_eq_some_iff.mp hy).1
        have hbl : bs.length = j := by
          rw [hb.1, List.length_map, List.length_take]
          omega
        refine ⟨rfl, ?_⟩
        unfold tYes
        refine ite2 (fun _ => ?_) (fun z => absurd rfl z)
        refine ⟨.str tg, rfl, .str y, rfl, (by show 2 ≤ sizeLine; decide), fun T nT => ⟨_, same_upd nT _ _ eD, small _ (by rw [List.length_map]; omega), bs ++ [T], fun b o e => ?_, by rw [upd_same, List.map_append]; rfl, ?_⟩⟩
        · rw [upd_ne (ne_of_none e nD)]
          exact same_upd nT _ _ (s3 _ _ e)
        · rw [take_snoc hy, List.map_append]
          exact (hb.keep (same_upd nT)).snoc upd_same (same_upd nT _ _ eD)
      · rintro H3 ⟨bs, s3, eD, hb⟩
        rw [List.length_map, List.take_length] at hb
        have eL3 := s3 _ _ eL
        have lb : bs.length ≤ 900 := by
          rw [hb.1, List.length_map]
          omega
        have la : as.length ≤ 900 := by
          rw [hp.1]
          exact Nat.le_trans (byTags_len nd i ss) h9
        refine ⟨L, D, _, _, rfl, rfl, eL3, eD, ?_, fun L2 nL2 => ⟨_, L2, as ++ bs, rfl, (s2.trans s3).trans (same_upd nL2), by rw [upd_same, List.map_append], ?_⟩⟩
        · rw [List.length_map, List.length_map]
          exact Nat.le_of_lt (Nat.lt_of_le_of_lt (show as.length + bs.length ≤ 1800 by omega) (by decide))
        · rw [take_snoc htg, byTags_snoc]
          exact ((hp.keep s3).app hb).keep (same_upd nL2)
    rintro σ H8 ⟨y2, L, as, rfl, s8, eL, hp⟩
    rw [List.length_map, List.take_length] at hp
    -- sorted
    have hz1 := zs_fst hp.1
    refine ⟨.ref L, rfl, L, zsOf as (byTags tags (prs ss)), rfl, .inl (SqL.of (by rw [hz1]; exact eL)), zs_dp hp, by rw [zs_snd hp.1]; exact tx_alike _, by rw [zs_snd hp.1]; exact tx_sortable _, zs_depth _ _, fun q1 nq1 => ?_⟩
    have sE : Same H _ := (sD.trans s8).trans (same_upd (o := .lst (((zsOf as (byTags tags (prs ss))).mergeSort ordD).map Prod.fst)) nq1)
    refine ⟨.ref a, rfl, a, ss, rfl, .inl (sqT_same sE hS), h0, fun H9 p9 as9 s9 n9 e9 l9 pr9 => ?_⟩
    have hp9 : PP as9 (prs ss) H9 := ⟨by rw [l9, lp], fun j b x y u v => prs_all pr9 j b x y u v⟩
    refine ⟨p9, zsOf as9 (prs ss), rfl, .inr (SqT.of (by rw [zs_fst hp9.1]; exact e9)), zs_dp hp9, by rw [zs_snd hp9.1]; exact tx_alike _, by rw [zs_snd hp9.1]; exact tx_sortable _, zs_depth _ _, fun q2 nq2 => ?_⟩
    have d1' : Dp K (upd H9 q2 (.lst (((zsOf as9 (prs ss)).mergeSort ordD).map Prod.fst))) (.ref q1) (.list (((byTags tags (prs ss)).mergeSort leP).map tx)) :=
      dp_same (s9.trans (same_upd nq2)) (zs_sorted (hp.keep (same_upd nq1)) upd_same)
    have d2' : Dp K (upd H9 q2 (.lst (((zsOf as9 (prs ss)).mergeSort ordD).map Prod.fst))) (.ref q2) (.list (((prs ss).mergeSort leP).map tx)) := zs_sorted (hp9.keep (same_upd nq2)) upd_same
    rw [sort_perm (byTags_all nd hin)] at d1'
    have okPr : ∀ p ∈ (prs ss).mergeSort leP, PyData.strOk p.1 = true ∧ PyData.strOk p.2 = true := fun p hp => by
      have := prs_mem ((List.mergeSort_perm _ _).mem_iff.mp hp)
      exact ⟨hokS _ this.1, hokS _ this.2⟩
    refine ⟨_, _, d1', d2', shP _ okPr, shP _ okPr, _, rfl, ?_⟩
    rw [SeqAt.eqv_refl (.list (((prs ss).mergeSort leP).map tx)) (layP _ okPr)]
    refine ite2 (fun z => by cases z) (fun _ => ?_)
    have sF : Same H (upd H9 q2 (.lst (((zsOf as9 (prs ss)).mergeSort ordD).map Prod.fst))) := (sE.trans s9).trans (same_upd nq2)
    have TF := TD.keep (((s8.trans (same_upd (o := .lst (((zsOf as (byTags tags (prs ss))).mergeSort ordD).map Prod.fst)) nq1)).trans s9).trans (same_upd (o := .lst (((zsOf as9 (prs ss)).mergeSort ordD).map Prod.fst)) nq2))
    generalize upd H9 q2 (.lst (((zsOf as9 (prs ss)).mergeSort ordD).map Prod.fst)) = HF at sF TF
    clear d1' d2' hp9 pr9 sE sD s9 e9
    -- place by place
    refine ⟨.ref t, rfl, t, rfl, ⟨_, sF.seq hT⟩, for_list (K := K) (a := t) (xs := tags.map V.str) (fun i σ H' => ∃ (y2 y6 y7 y8 : Option V), σ = [some (.ref t), some (.ref a), y2, some (.ref d1), some (.ref d2), some (.ref L), y6, y7, y8, none, none] ∧ Same HF H')
      ⟨_, _, _, _, rfl, fun _ _ e => e⟩ (fun i σ H' _ z => by
        obtain ⟨_, _, _, _, _, s⟩ := z
        exact (sF.trans s).seq hT) ?_ ?_⟩
    · rintro i x σ H2 hx ⟨y2, y6, y7, y8, rfl, s2⟩
      obtain ⟨tg, rfl, htg⟩ := tagOf i x hx
      have htm : tg ∈ tags := List.mem_of_getElem? htg
      have sH2 := sF.trans s2
      have T2 := TF.keep s2
      have lv := viL_len tg 0 ss
      have lx := exL_len tg (prs ss)
      have ln := enL_len tg (prs ss)
      refine ⟨.ref a, rfl, .str tg, rfl, a, ss, tg, rfl, .inl (sqT_same sH2 hS), h0, by omega, fun H3 sp s3 n3 e3 => ?_⟩
      have hV : SqT K H3 sp ((viL tg 0 ss).map V.int) := SqT.of e3
      have sH3 := sH2.trans s3
      have intOf : ∀ (j : Nat) (x : V), ((viL tg 0 ss).map V.int)[j]? = some x → ∃ k, x = .int k ∧ (viL tg 0 ss)[j]? = some k := fun j x e => by
        rw [List.getElem?_map] at e
        cases e2 : (viL tg 0 ss)[j]? with
        | none =>
          rw [e2] at e
          cases e
        | some z =>
          rw [e2] at e
          exact ⟨z, (Option.some.inj e).symm, rfl⟩
      have hat : ∀ (k : Int) (z : Str), 0 ≤ k → ss[k.toNat]? = some z → atI (ss.map V.str) k = some (.str z) := fun k z hk e => by
        obtain ⟨n, rfl⟩ := Int.eq_ofNat_of_zero_le hk
        exact atI_nat (by rw [List.getElem?_map]; rw [show ((n : Int).toNat) = n from rfl] at e; rw [e]; rfl)
      have fml : ∀ (f : Int → Option Str) (j : Nat), (((viL tg 0 ss).take j).filterMap f).length ≤ 900 := fun f j => by
        have e1 := List.length_filterMap_le f ((viL tg 0 ss).take j)
        rw [List.length_take] at e1
        omega
      -- after
      refine ⟨.ref sp, rfl, sp, rfl, ⟨_, hV⟩, fun D1 nD1 => lc_tup (K := K) (a := sp) (xs := (viL tg 0 ss).map V.int) (fun j H' => Same H3 H' ∧ H' D1 = some (.lst ((((viL tg 0 ss).take j).filterMap (aft ss)).map V.str))) ⟨same_upd nD1, upd_same⟩ (fun j H' _ z => sqT_same z.1 hV) ?_ ?_⟩
      · rintro j x H4 hx4 ⟨s4, eD⟩
        obtain ⟨k, rfl, hk⟩ := intOf j x hx4
        have hb := viL_in tg 0 ss k (List.mem_of_getElem? hk)
        rw [take_snoc hk]
        refine ⟨rfl, .int k, rfl, _, _, rfl, rfl, .ref a, rfl, a, _, rfl, .inr (sqT_same (sH3.trans s4) hS), _, _, rfl, rfl, _, rfl, ?_⟩
        refine ite2 (fun c => ?_) (fun c => ?_)
        · have hlt := of_decide_eq_true c
          rw [List.length_map] at hlt
          have hz : ss[(k + 1).toNat]? = some (ss[(k + 1).toNat]'(by omega)) := List.getElem?_eq_getElem (by omega)
          rw [fm_some (show aft ss k = some _ from hz)]
          refine ⟨.ref a, rfl, .int k, rfl, _, _, rfl, rfl, a, _, _, _, rfl, rfl, sqT_same (sH3.trans s4) hS, hat _ _ (by omega) hz, _, eD, small _ (by rw [List.length_map]; have := fml (aft ss) j; omega), fun b o e => ?_, by rw [upd_same, List.map_append]; rfl⟩
          rw [upd_ne (ne_of_none e nD1)]
          exact s4 _ _ e
        · have hge : ss.length ≤ (k + 1).toNat := by
            refine Classical.byContradiction fun z => c (decide_eq_true ?_)
            rw [List.length_map]
            omega
          rw [fm_none (show aft ss k = none from List.getElem?_eq_none hge)]
          exact ⟨s4, eD⟩
      rintro H4 ⟨s4, eD1⟩
      rw [List.length_map, List.take_length, show (viL tg 0 ss).filterMap (aft ss) = exL tg (prs ss) from aft_all tg ss []] at eD1
      have sH4 := sH3.trans s4
      -- ahead
      refine ⟨.ref sp, rfl, sp, rfl, ⟨_, sqT_same s4 hV⟩, fun D2 nD2 => lc_tup (K := K) (a := sp) (xs := (viL tg 0 ss).map V.int) (fun j H' => Same H4 H' ∧ H' D2 = some (.lst ((((viL tg 0 ss).take j).filterMap (ahd ss)).map V.str))) ⟨same_upd nD2, upd_same⟩ (fun j H' _ z => sqT_same (s4.trans z.1) hV) ?_ ?_⟩
      · rintro j x H5 hx5 ⟨s5, eD⟩
        obtain ⟨k, rfl, hk⟩ := intOf j x hx5
        have hb := viL_in tg 0 ss k (List.mem_of_getElem? hk)
        rw [take_snoc hk]
        refine ⟨rfl, .int k, rfl, _, _, rfl, rfl, _, rfl, ?_⟩
        refine ite2 (fun c => ?_) (fun c => ?_)
        · have hlt : 0 < k := of_decide_eq_true c
          have hz : ss[(k - 1).toNat]? = some (ss[(k - 1).toNat]'(by omega)) := List.getElem?_eq_getElem (by omega)
          have ez : ahd ss k = some (ss[(k - 1).toNat]'(by omega)) := by
            unfold ahd
            rw [if_pos hlt]
            exact hz
          rw [fm_some ez]
          refine ⟨.ref a, rfl, .int k, rfl, _, _, rfl, rfl, a, _, _, _, rfl, rfl, sqT_same (sH4.trans s5) hS, hat _ _ (by omega) hz, _, eD, small _ (by rw [List.length_map]; have := fml (ahd ss) j; omega), fun b o e => ?_, by rw [upd_same, List.map_append]; rfl⟩
          rw [upd_ne (ne_of_none e nD2)]
          exact s5 _ _ e
        · have hge : ¬ 0 < k := fun z => c (decide_eq_true z)
          have ez : ahd ss k = none := by
            unfold ahd
            rw [if_neg hge]
          rw [fm_none ez]
          exact ⟨s5, eD⟩
      rintro H5 ⟨s5, eD2⟩
      rw [List.length_map, List.take_length, ahd_all] at eD2
      have sH5 := sH4.trans s5
      obtain ⟨kvs, k1, k2, k3⟩ := (T2.keep ((s3.trans s4).trans s5)).ex
      obtain ⟨ga, gv, gT⟩ := k3 tg htm
      have gD : DGet H5 d1 (.str tg) (some (.ref ga)) := by
        have z := DGet.k (k := (.inr tg : Key)) k1
        rw [gv] at z
        exact z
      have okX : ∀ z ∈ exL tg (prs ss), PyData.strOk z = true := fun z hz => hokS z (exL_mem hz)
      have okN : ∀ z ∈ enL tg (prs ss), PyData.strOk z = true := fun z hz => hokS z (enL_mem hz)
      refine ⟨.ref d1, rfl, .str tg, rfl, d1, .ref ga, rfl, gD, ga, _, rfl, .inr gT, fun m1 nm1 => ⟨.ref D1, rfl, .list (dS (exL tg (prs ss))), .list (dS (exL tg (prs ss))), .lst (SqL.of upd_same) (dpS _), .lst (SqL.of (same_upd nm1 _ _ (s5 _ _ eD1))) (dpS _), shS _ okX, shS _ okX, _, rfl, ?_⟩⟩
      rw [SeqAt.eqv_refl (.list (dS (exL tg (prs ss)))) (layS _ okX)]
      refine ite2 (fun z => by cases z) (fun _ => ?_)
      have sH6 := sH5.trans (same_upd (o := .lst ((exL tg (prs ss)).map V.str)) nm1)
      refine ⟨.ref a, rfl, .str tg, rfl, a, ss, tg, rfl, .inl (sqT_same sH6 hS), h0, by omega, fun H7 m2 s7 nm2 em2 => ⟨m2, _, rfl, .inr (SqT.of em2), fun m3 nm3 => ⟨.ref D2, rfl, .list (dS (enL tg (prs ss))), .list (dS (enL tg (prs ss))), .lst (SqL.of upd_same) (dpS _), .lst (SqL.of (same_upd nm3 _ _ (s7 _ _ (same_upd nm1 _ _ eD2)))) (dpS _), shS _ okN, shS _ okN, _, rfl, ?_⟩⟩⟩
      rw [SeqAt.eqv_refl (.list (dS (enL tg (prs ss)))) (layS _ okN)]
      refine ite2 (fun z => by cases z) (fun _ => ?_)
      have sH8 := (sH6.trans s7).trans (same_upd (o := .lst ((enL tg (prs ss)).map V.str)) nm3)
      have sX8 := (((s4.trans s5).trans (same_upd (o := .lst ((exL tg (prs ss)).map V.str)) nm1)).trans s7).trans (same_upd (o := .lst ((enL tg (prs ss)).map V.str)) nm3)
      change Same H (upd H7 m3 (.lst (gEn ss tg))) at sH8
      change Same H3 (upd H7 m3 (.lst (gEn ss tg))) at sX8
      generalize upd H7 m3 (.lst (gEn ss tg)) = H8 at sH8 sX8
      -- turned
      have hr1 : 0 < ss.reverse.length := by rw [List.length_reverse]; exact h0
      have hr2 : ss.reverse.length ≤ 1000 := by rw [List.length_reverse]; omega
      refine ⟨.ref a, rfl, a, ss, rfl, .inl (sqT_same sH8 hS), fun HA u1 sa nu1 eu1 => ⟨.str tg, rfl, u1, ss.reverse, tg, rfl, .inl (SqT.of eu1), hr1, hr2, fun HB g1 sb ng1 eg1 => ⟨.ref a, rfl, a, ss, rfl, .inl (sqT_same ((sH8.trans sa).trans sb) hS), fun HC u2 sc nu2 eu2 => ⟨.str tg, rfl, u2, ss.reverse, tg, rfl, .inl (SqT.of eu2), hr1, hr2, fun HD g2 sd ng2 eg2 =>
        ⟨(by show 2 ≤ sizeLine; decide), fun go ngo => ?_⟩⟩⟩⟩⟩
      have sHG := ((((sH8.trans sa).trans sb).trans sc).trans sd).trans (same_upd (o := .lst [.ref g1, .ref g2]) ngo)
      have sXG := ((((sX8.trans sa).trans sb).trans sc).trans sd).trans (same_upd (o := .lst [.ref g1, .ref g2]) ngo)
      have dgo : Dp K (upd HD go (.lst [.ref g1, .ref g2])) (.ref go) (.list [.tuple (dS (enL tg (prs ss)).reverse), .tuple (dS (exL tg (prs ss)).reverse)]) := by
        rw [← exL_rev, ← enL_rev]
        exact .lst (xs := [.ref g1, .ref g2]) (SqL.of upd_same) (.cons (.tup (xs := (exL tg (prs ss.reverse)).map V.str) (SqT.of (same_upd ngo _ _ (sd _ _ (sc _ _ eg1)))) (dpS _)) (.cons (.tup (xs := (enL tg (prs ss.reverse)).map V.str) (SqT.of (same_upd ngo _ _ eg2)) (dpS _)) .nil))
      generalize upd HD go (.lst [.ref g1, .ref g2]) = HE at sHG sXG dgo
      refine ⟨.ref a, rfl, .str tg, rfl, a, ss, tg, rfl, .inl (sqT_same sHG hS), h0, by omega, fun HI v1 si nv1 ev1 => ⟨1, rfl, rfl, v1, _, rfl, .inl ⟨SqT.of ev1, fun w1 nw1 => ⟨.ref a, rfl, .str tg, rfl, a, ss, tg, rfl, .inl (sqT_same ((sHG.trans si).trans (same_upd nw1)) hS), h0, by omega, fun HJ v2 sj nv2 ev2 => ⟨1, rfl, rfl, v2, _, rfl, .inl ⟨SqT.of ev2, fun w2 nw2 =>
        ⟨(by show 2 ≤ sizeLine; decide), fun du ndu => ?_⟩⟩⟩⟩⟩⟩⟩
      have sEnd := (((si.trans (same_upd (o := .tup (gEn ss tg).reverse) nw1)).trans sj).trans (same_upd (o := .tup (gEx ss tg).reverse) nw2)).trans (same_upd (o := .lst [.ref w1, .ref w2]) ndu)
      have ddu : Dp K (upd (upd HJ w2 (.tup (gEx ss tg).reverse)) du (.lst [.ref w1, .ref w2])) (.ref du) (.list [.tuple (dS (enL tg (prs ss)).reverse), .tuple (dS (exL tg (prs ss)).reverse)]) := by
        refine .lst (xs := [.ref w1, .ref w2]) (SqL.of upd_same) (.cons (.tup (xs := (enL tg (prs ss)).reverse.map V.str) (SqT.of ?_) (dpS _)) (.cons (.tup (xs := (exL tg (prs ss)).reverse.map V.str) (SqT.of ?_) (dpS _)) .nil))
        · rw [List.map_reverse]
          exact same_upd ndu _ _ (same_upd nw2 _ _ (sj _ _ upd_same))
        · rw [List.map_reverse]
          exact same_upd ndu _ _ upd_same
      have okR2 : okD 4 (.list [.tuple (dS (enL tg (prs ss)).reverse), .tuple (dS (exL tg (prs ss)).reverse)]) := ⟨by show 2 ≤ 1000; decide, fun d hd => by
        rcases List.mem_cons.mp hd with rfl | hd
        · exact okS 1 _ (by rw [List.length_reverse]; omega)
        · rw [List.mem_singleton.mp hd]
          exact okS 1 _ (by rw [List.length_reverse]; omega)⟩
      refine ⟨.ref go, .ref du, _, rfl, dp_same sEnd dgo, ddu, okR2, fun HZ sz => ⟨_, rfl, ?_⟩⟩
      refine ite2 (fun z => by cases z) (fun _ => ?_)
      exact ⟨_, _, _, _, rfl, (((s2.trans s3).trans sXG).trans sEnd).trans sz⟩
    · rintro σ H2 ⟨y2, y6, y7, y8, rfl, s2⟩
      exact q _ (sF.trans s2)
end
end K03
namespace K03
open PySem PySem.Spec PyProof.Rows L2 CS RZ
section
variable {P : Program} {w : World} {K : PySem.W.Frag} {mg : Str → Option Value} {base : Heap}
/-! ### right -/
def spRight : Sp := fun vs H Q _ => ∃ (b : Addr), vs = [.ref b] ∧ BoxAt H b 0 ∧ ∀ H' : Hp, Keep b H H' → Q (.bl true) H'
abbrev nRight : List Str := ["_law_box_here", "_law_turn", "_law_tags_here"]
theorem scRight : FnScope nRight ["_law_box_here"] (defScope sRight) := ⟨rfl, rfl, rfl, by decide +kernel, rfl, by decide +kernel, by decide +kernel⟩
theorem ok_right {f gk gt gw gc : Addr} {fd dk dt dw dc : FuncData} {k : Nat} (F : Fun K "_law_right" "_law_right" sRight f fd)
    (Gk : FnOk P w K mg base CX0 k gk dk ["_law_box_here", "_law_below"] spTake) (bk : Binds K dk ["_law_box_here", "_law_below"] []) (kk : PySem.W.keepIn K (.ref gk) = true) (mk : mg "_law_take" = some (.ref gk))
    (Gt : FnOk P w K mg base CX0 k gt dt ["_law_box_here", "_law_many_so"] (spTags K)) (bt : Binds K dt ["_law_box_here", "_law_many_so"] []) (kt : PySem.W.keepIn K (.ref gt) = true) (mt : mg "_law_tags" = some (.ref gt))
    (Gw : FnOk P w K mg base CX0 k gw dw ["_law_box_here", "_law_tags_here", "_law_most_so"] (spWalk K)) (bw : Binds K dw ["_law_box_here", "_law_tags_here", "_law_most_so"] []) (kw : PySem.W.keepIn K (.ref gw) = true) (mw : mg "_law_walk" = some (.ref gw))
    (Gc : FnOk P w K mg base CX0 k gc dc ["_law_tags_here", "_law_row_so"] (spCase K)) (bc : Binds K dc ["_law_tags_here", "_law_row_so"] []) (kc : PySem.W.keepIn K (.ref gc) = true) (mc : mg "_law_case_right" = some (.ref gc)) (mr : mg "range" = none) :
    FnOk P w K mg base CX0 (k + 1) f fd ["_law_box_here"] spRight := by
  refine F.ok scRight (fun vs H Q E h => ?_) (fun cdv A outer s H vs Q E hr h => ?_)
  · obtain ⟨b, rfl, _⟩ := h
    rfl
  · obtain ⟨b, rfl, hb, q⟩ := h
    refine ⟨_, pss_cons (ps_for PassesOwn.never rfl (pi_range1 (by rfl) mr (pa_cons pe_int pa_nil)) (pg_name (i := 1) scRight.nd rfl (.inl rfl))
        (pss_cons (ps_set (i := 2) scRight.nd rfl (.inl rfl) (pe_call Gt hr (by rfl) mt kt bt .nil pass0 (pa_cons (pv 0) (pa_cons (pe_op op_add pe_int (pe_call Gk hr (by rfl) mk kk bk .nil pass0 (pa_cons (pv 0) (pa_cons pe_int pa_nil)))) pa_nil))))
        (pss_one (ps_if (pt_not (pt_val (pe_call Gc hr (by rfl) mc kc bc .nil pass0 (pa_cons (pv 2) (pa_cons (pe_call Gw hr (by rfl) mw kw bw .nil pass0 (pa_cons (pv 0) (pa_cons (pv 2) (pa_cons pe_int pa_nil)))) pa_nil)))))
          (pss_one (ps_ret pe_bl)) pss_nil))))
      (pss_one (ps_ret pe_bl)), ?_⟩
    refine ⟨8, rfl, by decide, by decide, for_range (fun i σ H' => ∃ (y1 y2 : Option V), σ = [some (.ref b), y1, y2] ∧ Keep b H H' ∧ BoxAt H' b (2000 * i)) ⟨none, none, rfl, Keep.refl b H, hb⟩ ?_ ?_⟩
    · rintro i σ H1 hi ⟨y1, y2, rfl, k1, b1⟩
      have hi8 : i < 8 := hi
      refine ⟨.ref b, rfl, .ref b, rfl, b, _, 5, rfl, b1, by omega, by decide, by decide, fun H2 r k2 b2 r0 r1 => ⟨_, _, rfl, rfl, ?_⟩⟩
      refine ⟨b, 2 + r, _, rfl, b2, by omega, by omega, by omega, fun H3 p fs k3 b3 _ npb e3 hl hnd hok => ?_⟩
      refine ⟨.ref p, rfl, .ref b, rfl, .ref p, rfl, b, p, 20, _, fs, rfl, b3, by omega, npb, SqL.of e3, by omega, by omega, hnd, by decide, by decide, fun H4 ro rs k4 b4 _ nrb e4 hpos hle hin => ?_⟩
      have e3' := k4 _ _ npb e3
      refine ⟨p, ro, fs, rs, rfl, SqL.of e3', hnd, by omega, SqT.of e4, hpos, by omega, hin, hok, fun H5 s5 => ⟨_, rfl, ?_⟩⟩
      refine ite2 (fun z => by cases z) (fun _ => ?_)
      exact ⟨_, _, rfl, (((k1.trans k2).trans k3).trans k4).trans (Keep.of_same s5), (b4.same s5).up (by omega)⟩
    · rintro σ H1 ⟨y1, y2, rfl, k1, b1⟩
      exact q H1 k1
/-! ### the law -/
def tagsH : List Str := ["a", "b", "c", "f", "g"]
def rowH : List Str := ["a", "g", "a", "c", "g", "b", "c", "g", "c", "g", "a", "g", "c", "f"]
def spLaw (K : PySem.W.Frag) : Sp := fun vs H Q _ => ∃ (a : Addr) (ns : List Int), vs = [.ref a] ∧ SqL K H a (ns.map V.int) ∧ ns.length ≤ 63 ∧ ∀ H', Q (.bl true) H'
abbrev nLaw : List Str := ["_law_script", "_law_cells_here", "_law_k"]
theorem scLaw : FnScope nLaw ["_law_script"] (defScope sLaw) := ⟨rfl, rfl, rfl, by decide +kernel, rfl, by decide +kernel, by decide +kernel⟩
theorem ok_law {f gh gc gr gb : Addr} {fd dh dc dr db : FuncData} {k : Nat} (F : Fun K "law" "law" sLaw f fd)
    (Gh : FnOk P w K mg base CX0 k gh dh ["_law_tags_here", "_law_row_so"] (spCase K)) (bh : Binds K dh ["_law_tags_here", "_law_row_so"] []) (kh : PySem.W.keepIn K (.ref gh) = true) (mh : mg "_law_case_right" = some (.ref gh))
    (Gc : FnOk P w K mg base CX0 k gc dc ["_law_script", "_law_most_so"] (spCells K)) (bc : Binds K dc ["_law_script", "_law_most_so"] []) (kc : PySem.W.keepIn K (.ref gc) = true) (mc : mg "_law_cells" = some (.ref gc))
    (Gr : FnOk P w K mg base CX0 k gr dr ["_law_box_here"] spRight) (br : Binds K dr ["_law_box_here"] []) (kr : PySem.W.keepIn K (.ref gr) = true) (mR : mg "_law_right" = some (.ref gr))
    (Gb : FnOk P w K mg base CX0 k gb db ["_law_script", "_law_k"] (spBox K)) (bb : Binds K db ["_law_script", "_law_k"] []) (kb : PySem.W.keepIn K (.ref gb) = true) (mb : mg "_law_box" = some (.ref gb)) (mr : mg "range" = none) (ma : mg "all" = none) (ml : mg "len" = none) :
    FnOk P w K mg base CX0 (k + 1) f fd ["_law_script"] (spLaw K) := by
  refine F.ok scLaw (fun vs H Q E h => ?_) (fun cdv A outer s H vs Q E hr h => ?_)
  · obtain ⟨a, ns, rfl, _⟩ := h
    rfl
  · obtain ⟨a, ns, rfl, hS, hn, q⟩ := h
    refine ⟨_, pss_cons (ps_if (pt_not (pt_val (pe_call Gh hr (by rfl) mh kh bh .nil pass0 (pa_cons (pe_lst (pa_cons pe_str (pa_cons pe_str (pa_cons pe_str (pa_cons pe_str (pa_cons pe_str pa_nil)))))) (pa_cons (pe_tup (pa_cons pe_str (pa_cons pe_str (pa_cons pe_str (pa_cons pe_str (pa_cons pe_str (pa_cons pe_str (pa_cons pe_str (pa_cons pe_str (pa_cons pe_str (pa_cons pe_str (pa_cons pe_str (pa_cons pe_str (pa_cons pe_str (pa_cons pe_str pa_nil))))))))))))))) pa_nil))))) (pss_one (ps_ret pe_bl)) pss_nil)
      (pss_cons (ps_set (i := 1) scLaw.nd rfl (.inr rfl) (pe_call Gc hr (by rfl) mc kc bc .nil pass0 (pa_cons (pv 0) (pa_cons pe_int pa_nil))))
      (pss_one (ps_ret (pe_callB (cr_all rfl) (by rfl) ma (by decide +kernel) (pa_cons (pe_lc (own := [("_law_k", 2)]) (g := gName 2) (by rfl) scLaw.nd (pi_range1 (by rfl) mr (pa_cons (pe_callB call_len_seq (by rfl) ml PySem.boot_len (pa_cons (pv 1) pa_nil)) pa_nil))
        (blkOk_by (own := [("_law_k", 2)]) (N := nLaw) (sc := defScope sLaw) (by decide +kernel)) (fun _ _ _ _ _ => pg_name (i := 2) scLaw.nd rfl (Or.inl rfl) (.inr rfl)) (fun _ _ _ _ _ => pts_nil)
        (fun _ _ _ _ _ => pe_call Gr hr (by rfl) mR kr br .nil pass0 (pa_cons (pe_call Gb hr (by rfl) mb kb bb .nil pass0 (pa_cons (pv 1) (pa_cons (pv 2) pa_nil))) pa_nil))) pa_nil))))), ?_⟩
    refine ⟨(by show 5 ≤ sizeLine; decide), fun t0 nt0 => ⟨(by show 14 ≤ sizeLine; decide), fun a0 na0 => ⟨t0, a0, tagsH, rowH, rfl, SqL.of (same_upd na0 _ _ upd_same), by decide +kernel, by decide, SqT.of upd_same, by decide, by decide, by decide +kernel, by decide +kernel, fun H1 s1' => ?_⟩⟩⟩
    have s1 : Same H H1 := ((same_upd nt0).trans (same_upd na0)).trans s1'
    clear s1'
    refine ⟨_, rfl, ?_⟩
    refine ite2 (fun z => by cases z) (fun _ => ?_)
    refine ⟨.ref a, rfl, a, ns, rfl, s1.seq hS, hn, fun H2 p ms s2 _ e2 m1 m3 => ?_⟩
    refine ⟨.ref p, rfl, p, _, rfl, .inl (SqL.of e2), _, rfl, (by rw [List.length_map]; omega), (by rw [List.length_map]; omega), fun D nD => lc_range (fun i H' => H' p = some (.lst (ms.map V.int)) ∧ H' D = some (.lst ((List.replicate i true).map V.bl))) ⟨?_, upd_same⟩ ?_ ?_⟩
    · rw [upd_ne (ne_of_none e2 nD)]
      exact e2
    · rintro i H3 hi ⟨e3, eD⟩
      rw [List.length_map] at hi
      have hi' : i < ms.length := by omega
      have npD : p ≠ D := ne_of_none e2 nD
      refine ⟨rfl, ?_⟩
      unfold tYes
      refine ite2 (fun _ => ?_) (fun z => absurd rfl z)
      refine ⟨.ref p, rfl, .int (0 + (i : Nat)), rfl, p, ms, i, (by rw [Int.zero_add]; rfl), SqL.of e3, hi', by omega, fun H4 b s4 nb b4 => ?_⟩
      have npb : p ≠ b := ne_of_none e3 nb
      have nDb : D ≠ b := ne_of_none eD nb
      refine ⟨b, rfl, b4, fun H5 k5 => ?_⟩
      refine ⟨_, k5 _ _ nDb (s4 _ _ eD), ?_, ?_, ?_⟩
      · rw [List.length_map, List.length_replicate]
        exact small1000 (by omega)
      · rw [upd_ne npD]
        exact k5 _ _ npb (s4 _ _ e3)
      · rw [upd_same, List.replicate_succ', List.map_append]
        rfl
    · rintro H3 ⟨e3, eD⟩
      refine ⟨D, _, rfl, SqL.of eD, ?_⟩
      rw [all_yes]
      exact q H3
end
end K03
namespace K03
open PySem PySem.Spec PyProof.Rows L2 CS RZ
theorem fn_up {P : Program} {w : World} {K : PySem.W.Frag} {mg : Str → Option Value} {base : Heap} {CX : CXT} {j k : Nat} {f : Addr} {fd : FuncData} {ps : List Str} {sp : Sp} (F : FnOk P w K mg base CX j f fd ps sp) (h : j ≤ k) : FnOk P w K mg base CX k f fd ps sp :=
  ⟨F.len, fun A outer s H args us vs Q E hr e0 hb r q => F.run A outer s H args us vs Q E (hr.mono h) e0 hb r q⟩
theorem all_mk {l : PySem.W.OpenLaw} {w : World} {K : PySem.W.Frag} {h : Heap} {mg : Str → Option Value} {fa f1 f2 f3 f4 f5 f6 f7 f8 f9 f10 f11 f12 f13 f14 f15 f16 f17 : Addr} (X : K.In h) (G : h.Ns mainGlobals mg) (hfa : mg "law" = some (.ref fa))
    {od1 an1 od2 an2 od3 an3 od4 an4 od5 an5 od6 an6 od7 an7 od8 an8 od9 an9 od10 an10 od11 an11 od12 an12 od13 an13 od14 an14 od15 an15 od16 an16 od17 an17 : Option Addr} {sl1 sl2 sl3 sl4 sl5 sl6 sl7 sl8 sl9 sl10 sl11 sl12 sl13 sl14 sl15 sl16 sl17 : Array (Option Value)} {oc1 kV1 dc1 pm1 cd1 ct1 oc2 kV2 dc2 pm2 cd2 ct2 oc3 kV3 dc3 pm3 cd3 ct3 oc4 kV4 dc4 pm4 cd4 ct4 oc5 kV5 dc5 pm5 cd5 ct5 oc6 kV6 dc6 pm6 cd6 ct6 oc7 kV7 dc7 pm7 cd7 ct7 oc8 kV8 dc8 pm8 cd8 ct8 oc9 kV9 dc9 pm9 cd9 ct9 oc10 kV10 dc10 pm10 cd10 ct10 oc11 kV11 dc11 pm11 cd11 ct11 oc12 kV12 dc12 pm12 cd12 ct12 oc13 kV13 dc13 pm13 cd13 ct13 oc14 kV14 dc14 pm14 cd14 ct14 oc15 kV15 dc15 pm15 cd15 ct15 oc16 kV16 dc16 pm16 cd16 ct16 oc17 kV17 dc17 pm17 cd17 ct17 : Value}
    (a1 : PySem.W.nsIn K mainGlobals "steps_of" = some (some (.ref f1))) (l1 : K.lookup f1 = some ⟨oc1, od1, .func (PySem.W.fnOf "steps_of" "steps_of" (defArgs sSteps) (defBody sSteps) (defScope sSteps) .none kV1 dc1 pm1 an1 cd1 ct1), sl1⟩) (c1 : PySem.W.codeIn K cd1 "steps_of" = true) (k1 : PySem.W.keepIn K (.ref f1) = true)
    (a2 : PySem.W.nsIn K mainGlobals "visits" = some (some (.ref f2))) (l2 : K.lookup f2 = some ⟨oc2, od2, .func (PySem.W.fnOf "visits" "visits" (defArgs sVisits) (defBody sVisits) (defScope sVisits) .none kV2 dc2 pm2 an2 cd2 ct2), sl2⟩) (c2 : PySem.W.codeIn K cd2 "visits" = true) (k2 : PySem.W.keepIn K (.ref f2) = true)
    (a3 : PySem.W.nsIn K mainGlobals "exits" = some (some (.ref f3))) (l3 : K.lookup f3 = some ⟨oc3, od3, .func (PySem.W.fnOf "exits" "exits" (defArgs sExits) (defBody sExits) (defScope sExits) .none kV3 dc3 pm3 an3 cd3 ct3), sl3⟩) (c3 : PySem.W.codeIn K cd3 "exits" = true) (k3 : PySem.W.keepIn K (.ref f3) = true)
    (a4 : PySem.W.nsIn K mainGlobals "entries" = some (some (.ref f4))) (l4 : K.lookup f4 = some ⟨oc4, od4, .func (PySem.W.fnOf "entries" "entries" (defArgs sEntries) (defBody sEntries) (defScope sEntries) .none kV4 dc4 pm4 an4 cd4 ct4), sl4⟩) (c4 : PySem.W.codeIn K cd4 "entries" = true) (k4 : PySem.W.keepIn K (.ref f4) = true)
    (a5 : PySem.W.nsIn K mainGlobals "turned" = some (some (.ref f5))) (l5 : K.lookup f5 = some ⟨oc5, od5, .func (PySem.W.fnOf "turned" "turned" (defArgs sTurned) (defBody sTurned) (defScope sTurned) .none kV5 dc5 pm5 an5 cd5 ct5), sl5⟩) (c5 : PySem.W.codeIn K cd5 "turned" = true) (k5 : PySem.W.keepIn K (.ref f5) = true)
    (a6 : PySem.W.nsIn K mainGlobals "_law_box" = some (some (.ref f6))) (l6 : K.lookup f6 = some ⟨oc6, od6, .func (PySem.W.fnOf "_law_box" "_law_box" (defArgs sBox) (defBody sBox) (defScope sBox) .none kV6 dc6 pm6 an6 cd6 ct6), sl6⟩) (c6 : PySem.W.codeIn K cd6 "_law_box" = true) (k6 : PySem.W.keepIn K (.ref f6) = true)
    (a7 : PySem.W.nsIn K mainGlobals "_law_take" = some (some (.ref f7))) (l7 : K.lookup f7 = some ⟨oc7, od7, .func (PySem.W.fnOf "_law_take" "_law_take" (defArgs sTake) (defBody sTake) (defScope sTake) .none kV7 dc7 pm7 an7 cd7 ct7), sl7⟩) (c7 : PySem.W.codeIn K cd7 "_law_take" = true) (k7 : PySem.W.keepIn K (.ref f7) = true)
    (a8 : PySem.W.nsIn K mainGlobals "_law_cells" = some (some (.ref f8))) (l8 : K.lookup f8 = some ⟨oc8, od8, .func (PySem.W.fnOf "_law_cells" "_law_cells" (defArgs sCells) (defBody sCells) (defScope sCells) .none kV8 dc8 pm8 an8 cd8 ct8), sl8⟩) (c8 : PySem.W.codeIn K cd8 "_law_cells" = true) (k8 : PySem.W.keepIn K (.ref f8) = true)
    (a9 : PySem.W.nsIn K mainGlobals "_law_of" = some (some (.ref f9))) (l9 : K.lookup f9 = some ⟨oc9, od9, .func (PySem.W.fnOf "_law_of" "_law_of" (defArgs sOf) (defBody sOf) (defScope sOf) .none kV9 dc9 pm9 an9 cd9 ct9), sl9⟩) (c9 : PySem.W.codeIn K cd9 "_law_of" = true) (k9 : PySem.W.keepIn K (.ref f9) = true)
    (a10 : PySem.W.nsIn K mainGlobals "_law_pick" = some (some (.ref f10))) (l10 : K.lookup f10 = some ⟨oc10, od10, .func (PySem.W.fnOf "_law_pick" "_law_pick" (defArgs sPick) (defBody sPick) (defScope sPick) .none kV10 dc10 pm10 an10 cd10 ct10), sl10⟩) (c10 : PySem.W.codeIn K cd10 "_law_pick" = true) (k10 : PySem.W.keepIn K (.ref f10) = true)
    (a11 : PySem.W.nsIn K mainGlobals "_law_same" = some (some (.ref f11))) (l11 : K.lookup f11 = some ⟨oc11, od11, .func (PySem.W.fnOf "_law_same" "_law_same" (defArgs sSame) (defBody sSame) (defScope sSame) .none kV11 dc11 pm11 an11 cd11 ct11), sl11⟩) (c11 : PySem.W.codeIn K cd11 "_law_same" = true) (k11 : PySem.W.keepIn K (.ref f11) = true)
    (a12 : PySem.W.nsIn K mainGlobals "_law_tags" = some (some (.ref f12))) (l12 : K.lookup f12 = some ⟨oc12, od12, .func (PySem.W.fnOf "_law_tags" "_law_tags" (defArgs sTags) (defBody sTags) (defScope sTags) .none kV12 dc12 pm12 an12 cd12 ct12), sl12⟩) (c12 : PySem.W.codeIn K cd12 "_law_tags" = true) (k12 : PySem.W.keepIn K (.ref f12) = true)
    (a13 : PySem.W.nsIn K mainGlobals "_law_walk" = some (some (.ref f13))) (l13 : K.lookup f13 = some ⟨oc13, od13, .func (PySem.W.fnOf "_law_walk" "_law_walk" (defArgs sWalk) (defBody sWalk) (defScope sWalk) .none kV13 dc13 pm13 an13 cd13 ct13), sl13⟩) (c13 : PySem.W.codeIn K cd13 "_law_walk" = true) (k13 : PySem.W.keepIn K (.ref f13) = true)
    (a14 : PySem.W.nsIn K mainGlobals "_law_followed" = some (some (.ref f14))) (l14 : K.lookup f14 = some ⟨oc14, od14, .func (PySem.W.fnOf "_law_followed" "_law_followed" (defArgs sFollowed) (defBody sFollowed) (defScope sFollowed) .none kV14 dc14 pm14 an14 cd14 ct14), sl14⟩) (c14 : PySem.W.codeIn K cd14 "_law_followed" = true) (k14 : PySem.W.keepIn K (.ref f14) = true)
    (a15 : PySem.W.nsIn K mainGlobals "_law_right" = some (some (.ref f15))) (l15 : K.lookup f15 = some ⟨oc15, od15, .func (PySem.W.fnOf "_law_right" "_law_right" (defArgs sRight) (defBody sRight) (defScope sRight) .none kV15 dc15 pm15 an15 cd15 ct15), sl15⟩) (c15 : PySem.W.codeIn K cd15 "_law_right" = true) (k15 : PySem.W.keepIn K (.ref f15) = true)
    (a16 : PySem.W.nsIn K mainGlobals "_law_case_right" = some (some (.ref f16))) (l16 : K.lookup f16 = some ⟨oc16, od16, .func (PySem.W.fnOf "_law_case_right" "_law_case_right" (defArgs sCase) (defBody sCase) (defScope sCase) .none kV16 dc16 pm16 an16 cd16 ct16), sl16⟩) (c16 : PySem.W.codeIn K cd16 "_law_case_right" = true) (k16 : PySem.W.keepIn K (.ref f16) = true)
    (a17 : PySem.W.nsIn K mainGlobals "law" = some (some (.ref f17))) (l17 : K.lookup f17 = some ⟨oc17, od17, .func (PySem.W.fnOf "law" "law" (defArgs sLaw) (defBody sLaw) (defScope sLaw) .none kV17 dc17 pm17 an17 cd17 ct17), sl17⟩) (c17 : PySem.W.codeIn K cd17 "law" = true) (k17 : PySem.W.keepIn K (.ref f17) = true)
    (z1 : PySem.W.nsIn K mainGlobals "tuple" = some none)
    (z2 : PySem.W.nsIn K mainGlobals "zip" = some none)
    (z3 : PySem.W.nsIn K mainGlobals "enumerate" = some none)
    (z4 : PySem.W.nsIn K mainGlobals "len" = some none)
    (z5 : PySem.W.nsIn K mainGlobals "abs" = some none)
    (z6 : PySem.W.nsIn K mainGlobals "int" = some none)
    (z7 : PySem.W.nsIn K mainGlobals "list" = some none)
    (z8 : PySem.W.nsIn K mainGlobals "range" = some none)
    (z9 : PySem.W.nsIn K mainGlobals "min" = some none)
    (z10 : PySem.W.nsIn K mainGlobals "isinstance" = some none)
    (z11 : PySem.W.nsIn K mainGlobals "all" = some none)
    (z12 : PySem.W.nsIn K mainGlobals "bool" = some none)
    (z13 : PySem.W.nsIn K mainGlobals "str" = some none)
    (z14 : PySem.W.nsIn K mainGlobals "dict" = some none)
    (z15 : PySem.W.nsIn K mainGlobals "sorted" = some none) :
    ∃ fd : FuncData, (∀ (s : Shared) (v : Value), BindsTo s fd ⟨[v], []⟩ [("_law_script", v)]) ∧ ∀ base : Heap, K.In base → base.Ns mainGlobals mg → FnOk l.prog w K mg base CX0 7 fa fd ["_law_script"] (spLaw K) := by
  have e := hfa.symm.trans (PySem.W.mg_of X G a17)
  cases e
  have F1 := fun_mk (st := sSteps) l1 c1 k1
  have b1 := F1.binds (ps := ["journey"]) fun _ _ _ _ _ _ us hl => match us, hl with | [_], _ => rfl
  have m1 := PySem.W.mg_of X G a1
  have F2 := fun_mk (st := sVisits) l2 c2 k2
  have b2 := F2.binds (ps := ["journey", "place"]) fun _ _ _ _ _ _ us hl => match us, hl with | [_, _], _ => rfl
  have m2 := PySem.W.mg_of X G a2
  have F3 := fun_mk (st := sExits) l3 c3 k3
  have b3 := F3.binds (ps := ["journey", "place"]) fun _ _ _ _ _ _ us hl => match us, hl with | [_, _], _ => rfl
  have m3 := PySem.W.mg_of X G a3
  have F4 := fun_mk (st := sEntries) l4 c4 k4
  have b4 := F4.binds (ps := ["journey", "place"]) fun _ _ _ _ _ _ us hl => match us, hl with | [_, _], _ => rfl
  have m4 := PySem.W.mg_of X G a4
  have F5 := fun_mk (st := sTurned) l5 c5 k5
  have b5 := F5.binds (ps := ["journey"]) fun _ _ _ _ _ _ us hl => match us, hl with | [_], _ => rfl
  have m5 := PySem.W.mg_of X G a5
  have F6 := fun_mk (st := sBox) l6 c6 k6
  have b6 := F6.binds (ps := ["_law_script", "_law_k"]) fun _ _ _ _ _ _ us hl => match us, hl with | [_, _], _ => rfl
  have m6 := PySem.W.mg_of X G a6
  have F7 := fun_mk (st := sTake) l7 c7 k7
  have b7 := F7.binds (ps := ["_law_box_here", "_law_below"]) fun _ _ _ _ _ _ us hl => match us, hl with | [_, _], _ => rfl
  have m7 := PySem.W.mg_of X G a7
  have F8 := fun_mk (st := sCells) l8 c8 k8
  have b8 := F8.binds (ps := ["_law_script", "_law_most_so"]) fun _ _ _ _ _ _ us hl => match us, hl with | [_, _], _ => rfl
  have m8 := PySem.W.mg_of X G a8
  have F9 := fun_mk (st := sOf) l9 c9 k9
  have b9 := F9.binds (ps := ["_law_box_here", "_law_some"]) fun _ _ _ _ _ _ us hl => match us, hl with | [_, _], _ => rfl
  have m9 := PySem.W.mg_of X G a9
  have F10 := fun_mk (st := sPick) l10 c10 k10
  have b10 := F10.binds (ps := ["_law_box_here", "_law_pool_so", "_law_many_so"]) fun _ _ _ _ _ _ us hl => match us, hl with | [_, _, _], _ => rfl
  have m10 := PySem.W.mg_of X G a10
  have F11 := fun_mk (st := sSame) l11 c11 k11
  have b11 := F11.binds (ps := ["_law_got", "_law_due"]) fun _ _ _ _ _ _ us hl => match us, hl with | [_, _], _ => rfl
  have m11 := PySem.W.mg_of X G a11
  have F12 := fun_mk (st := sTags) l12 c12 k12
  have b12 := F12.binds (ps := ["_law_box_here", "_law_many_so"]) fun _ _ _ _ _ _ us hl => match us, hl with | [_, _], _ => rfl
  have m12 := PySem.W.mg_of X G a12
  have F13 := fun_mk (st := sWalk) l13 c13 k13
  have b13 := F13.binds (ps := ["_law_box_here", "_law_tags_here", "_law_most_so"]) fun _ _ _ _ _ _ us hl => match us, hl with | [_, _, _], _ => rfl
  have m13 := PySem.W.mg_of X G a13
  have F14 := fun_mk (st := sFollowed) l14 c14 k14
  have b14 := F14.binds (ps := ["_law_first_so", "_law_table"]) fun _ _ _ _ _ _ us hl => match us, hl with | [_, _], _ => rfl
  have m14 := PySem.W.mg_of X G a14
  have F15 := fun_mk (st := sRight) l15 c15 k15
  have b15 := F15.binds (ps := ["_law_box_here"]) fun _ _ _ _ _ _ us hl => match us, hl with | [_], _ => rfl
  have m15 := PySem.W.mg_of X G a15
  have F16 := fun_mk (st := sCase) l16 c16 k16
  have b16 := F16.binds (ps := ["_law_tags_here", "_law_row_so"]) fun _ _ _ _ _ _ us hl => match us, hl with | [_, _], _ => rfl
  have m16 := PySem.W.mg_of X G a16
  have F17 := fun_mk (st := sLaw) l17 c17 k17
  have y1 := PySem.W.mg_none_of X G z1
  have y2 := PySem.W.mg_none_of X G z2
  have y3 := PySem.W.mg_none_of X G z3
  have y4 := PySem.W.mg_none_of X G z4
  have y5 := PySem.W.mg_none_of X G z5
  have y6 := PySem.W.mg_none_of X G z6
  have y7 := PySem.W.mg_none_of X G z7
  have y8 := PySem.W.mg_none_of X G z8
  have y9 := PySem.W.mg_none_of X G z9
  have y10 := PySem.W.mg_none_of X G z10
  have y11 := PySem.W.mg_none_of X G z11
  have y12 := PySem.W.mg_none_of X G z12
  have y13 := PySem.W.mg_none_of X G z13
  have y14 := PySem.W.mg_none_of X G z14
  have y15 := PySem.W.mg_none_of X G z15
  refine ⟨PySem.W.fnOf "law" "law" (defArgs sLaw) (defBody sLaw) (defScope sLaw) .none kV17 dc17 pm17 an17 cd17 ct17, fun s v => .of_eq rfl, fun base _ _ => ?_⟩
  have T : SmT mg := ⟨y10, y7, y1, y4, y11, y2, y12, y13, y6⟩
  have gS : FnOk l.prog w K mg base CX0 3 f1 _ ["journey"] (spSteps K) := ok_steps F1 y1 y2
  have gS4 := fn_up gS (show 3 ≤ 4 by decide)
  have gV : FnOk l.prog w K mg base CX0 4 f2 _ ["journey", "place"] (spPl K gVi) := ok_visits F2 y3 y1
  have gX : FnOk l.prog w K mg base CX0 4 f3 _ ["journey", "place"] (spPl K gEx) := ok_exits F3 gS b1 k1 m1 y1
  have gN : FnOk l.prog w K mg base CX0 4 f4 _ ["journey", "place"] (spPl K gEn) := ok_entries F4 gS b1 k1 m1 y1
  have gT : FnOk l.prog w K mg base CX0 4 f5 _ ["journey"] (spTurned K) := ok_turned F5 y1
  have gF : FnOk l.prog w K mg base CX0 4 f14 _ ["_law_first_so", "_law_table"] (spFol K) := ok_followed F14 y14 y4 y1
  have gM1 : FnOk l.prog w K mg base CX0 1 f11 _ ["_law_got", "_law_due"] (spSame K 1) := ok_same F11 same_none b11 m11 T
  have gM2 := ok_same F11 gM1 b11 m11 T
  have gM3 := ok_same F11 gM2 b11 m11 T
  have gM4 := ok_same F11 gM3 b11 m11 T
  have G4 : PrG l.prog w K mg base 4 := ⟨gS4, gV, gX, gN, gT, gF, k1, k2, k3, k4, k5, k14, b1, b2, b3, b4, b5, b14, m1, m2, m3, m4, m5, m14⟩
  have gC : FnOk l.prog w K mg base CX0 5 f16 _ ["_law_tags_here", "_law_row_so"] (spCase K) := ok_case F16 G4 gM4 b11 k11 m11 T y14 y15
  have gK : FnOk l.prog w K mg base CX0 1 f7 _ ["_law_box_here", "_law_below"] spTake := ok_take F7 y6
  have gO : FnOk l.prog w K mg base CX0 2 f9 _ ["_law_box_here", "_law_some"] (spOf K) := ok_of F9 gK b7 k7 m7 y4
  have gP : FnOk l.prog w K mg base CX0 2 f10 _ ["_law_box_here", "_law_pool_so", "_law_many_so"] (spPick K) := ok_pick F10 gK b7 k7 m7 y4 y7 y8 y9
  have gG : FnOk l.prog w K mg base CX0 3 f12 _ ["_law_box_here", "_law_many_so"] (spTags K) := ok_tags F12 gK b7 k7 m7 gP b10 k10 m10
  have gW : FnOk l.prog w K mg base CX0 3 f13 _ ["_law_box_here", "_law_tags_here", "_law_most_so"] (spWalk K) := ok_walk F13 gK b7 k7 m7 gO b9 k9 m9 y8 y4 y1
  have gR : FnOk l.prog w K mg base CX0 6 f15 _ ["_law_box_here"] spRight := ok_right F15 (fn_up gK (show 1 ≤ 5 by decide)) b7 k7 m7 (fn_up gG (show 3 ≤ 5 by decide)) b12 k12 m12 (fn_up gW (show 3 ≤ 5 by decide)) b13 k13 m13 gC b16 k16 m16 y8
  have gE : FnOk l.prog w K mg base CX0 6 f8 _ ["_law_script", "_law_most_so"] (spCells K) := ok_cells F8 y7 y3 y6
  have gB : FnOk l.prog w K mg base CX0 6 f6 _ ["_law_script", "_law_k"] (spBox K) := ok_box F6 y4 y5 y6
  exact ok_law F17 (fn_up gC (show 5 ≤ 6 by decide)) b16 k16 m16 gE b8 k8 m8 gR b15 k15 m15 gB b6 k6 m6 y8 y11 y4
theorem walk {l : PySem.W.OpenLaw} {q : Program} {loose : List Str} {XP : (Str → Option Value) → Heap → Prop} {YP : World → Heap → Prop} {d : DefRec} {K : Params → PySem.W.Frag} (hn : l.most = some 63) (hdf : d.params.defaults = [])
    (hY : ∀ (w : World) (h : Heap), YP w h → (K w.params).In h)
    (F : ∀ (w : World) (mg : Str → Option Value) (fa : Addr) (h : Heap), (K w.params).In h → h.Ns mainGlobals mg → mg d.name = some (.ref fa) →
      ∃ fd : FuncData, (∀ (s : Shared) (u : Value), BindsTo s fd ⟨[u], []⟩ [("_law_script", u)]) ∧ ∀ base : Heap, (K w.params).In base → base.Ns mainGlobals mg → FnOk l.prog w (K w.params) mg base CX0 7 fa fd ["_law_script"] (spLaw (K w.params))) :
    PySem.W.WalkO q loose XP YP l.row.toRowW d [] (fun f vs => PySem.call f vs) :=
  L2.walk_of (n := 63) (k := 7) (x := "_law_script") (CX := fun _ => CX0) (sp := fun w => spLaw (K w.params)) hn (by decide) hdf ⟨rfl, by decide, by decide⟩ hY F (fun _ _ a ns hl _ hS => ⟨a, ns, rfl, hS, hl, fun _ => rfl⟩) fun _ _ _ _ _ z => z
end K03
open PySem PySem.W PyProof.Rows in
set_option maxRecDepth 100000 in
set_option maxHeartbeats 0 in
theorem PySem.Challenge.cw_countedsteps_k03_whole_exit_lists_tell_a_holds : PySem.Challenge.rw_countedsteps_k03_whole_exit_lists_tell_a.Holds := by
  w_on; o_law; k_head; (case hw => w_witness2)
  k_fill
  refine K03.walk (l := PySem.Challenge.rw_countedsteps_k03_whole_exit_lists_tell_a) rfl rfl (fun w h Y => PySem.W.kIn_of Y) ?F
  case F =>
    intro w mg fa h KX G hmg
    refine' K03.all_mk KX G hmg ?a1 ?l1 ?c1 ?k1 ?a2 ?l2 ?c2 ?k2 ?a3 ?l3 ?c3 ?k3 ?a4 ?l4 ?c4 ?k4 ?a5 ?l5 ?c5 ?k5 ?a6 ?l6 ?c6 ?k6 ?a7 ?l7 ?c7 ?k7 ?a8 ?l8 ?c8 ?k8 ?a9 ?l9 ?c9 ?k9 ?a10 ?l10 ?c10 ?k10 ?a11 ?l11 ?c11 ?k11 ?a12 ?l12 ?c12 ?k12 ?a13 ?l13 ?c13 ?k13 ?a14 ?l14 ?c14 ?k14 ?a15 ?l15 ?c15 ?k15 ?a16 ?l16 ?c16 ?k16 ?a17 ?l17 ?c17 ?k17 ?z1 ?z2 ?z3 ?z4 ?z5 ?z6 ?z7 ?z8 ?z9 ?z10 ?z11 ?z12 ?z13 ?z14 ?z15
    (case a1 => k_is); (case l1 => k_is); (case c1 => k_is); (case k1 => k_is)
    (case a2 => k_is); (case l2 => k_is); (case c2 => k_is); (case k2 => k_is)
    (case a3 => k_is); (case l3 => k_is); (case c3 => k_is); (case k3 => k_is)
    (case a4 => k_is); (case l4 => k_is); (case c4 => k_is); (case k4 => k_is)
    (case a5 => k_is); (case l5 => k_is); (case c5 => k_is); (case k5 => k_is)
    (case a6 => k_is); (case l6 => k_is); (case c6 => k_is); (case k6 => k_is)
    (case a7 => k_is); (case l7 => k_is); (case c7 => k_is); (case k7 => k_is)
    (case a8 => k_is); (case l8 => k_is); (case c8 => k_is); (case k8 => k_is)
    (case a9 => k_is); (case l9 => k_is); (case c9 => k_is); (case k9 => k_is)
    (case a10 => k_is); (case l10 => k_is); (case c10 => k_is); (case k10 => k_is)
    (case a11 => k_is); (case l11 => k_is); (case c11 => k_is); (case k11 => k_is)
    (case a12 => k_is); (case l12 => k_is); (case c12 => k_is); (case k12 => k_is)
    (case a13 => k_is); (case l13 => k_is); (case c13 => k_is); (case k13 => k_is)
    (case a14 => k_is); (case l14 => k_is); (case c14 => k_is); (case k14 => k_is)
    (case a15 => k_is); (case l15 => k_is); (case c15 => k_is); (case k15 => k_is)
    (case a16 => k_is); (case l16 => k_is); (case c16 => k_is); (case k16 => k_is)
    (case a17 => k_is); (case l17 => k_is); (case c17 => k_is); (case k17 => k_is)
    (case z1 => k_is)
    (case z2 => k_is)
    (case z3 => k_is)
    (case z4 => k_is)
    (case z5 => k_is)
    (case z6 => k_is)
    (case z7 => k_is)
    (case z8 => k_is)
    (case z9 => k_is)
    (case z10 => k_is)
    (case z11 => k_is)
    (case z12 => k_is)
    (case z13 => k_is)
    (case z14 => k_is)
    (case z15 => k_is)
#print axioms PySem.Challenge.cw_countedsteps_k03_whole_exit_lists_tell_a_holds
