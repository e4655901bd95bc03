import PyProof.Rows.All
import Wide.All
import OpenK.AllK
import Wide.FinOn
import HandS.ForMost
import HandS.Zip
import HandS.TupAny
import KE.KRevSl
import KE.GoesNew
import KE.KDictZip
import HandS.Walk
import HandS.Conv
import HandS.Dict
import HandS.Flow
import PyProof.ReprRoads
import HandS.Ends
import HandS.IsInst
import HandS.Text
import HandS.TupLe
import HandS.FStrTup
import PySem.Challenge.RW_countedsteps_k00_journeys_or_not
set_option Elab.async false
set_option linter.all false
set_option maxRecDepth 100000
set_option maxHeartbeats 2000000
/-! Rules that the hand layer lacks: the reversed slice, enumerate of a tuple, tuple(zip(..)) -/
namespace CS
open PySem PySem.Spec PyProof.Rows L2
/-! ### x[::-1] -/
theorem adj_back (m : Nat) : Builtin.Slice.sliceAdjust none none (-1) (m : Int) = ((m : Int) - 1, -1) := by
  simp [Builtin.Slice.sliceAdjust]
theorem plc_back (m : Nat) : Builtin.Slice.slicePlaces ((m : Int) - 1) (-1) (-1) = m := by
  unfold Builtin.Slice.slicePlaces
  simp
  omega
theorem fm_same {α β : Type} {f g : α → Option β} : ∀ {l : List α}, (∀ a ∈ l, f a = g a) → l.filterMap f = l.filterMap g
  | [], _ => rfl
  | a :: l, h => by
    have e1 := h a (List.mem_cons_self ..)
    have e2 := fm_same (l := l) fun b hb => h b (List.mem_cons_of_mem _ hb)
    simp only [List.filterMap_cons, e1, e2]
theorem pick_back (its : Array Value) : ((List.range its.size).filterMap fun (j : Nat) => its[((its.size : Int) - 1 + (j : Int) * (-1)).toNat]?) = its.toList.reverse := by
  have q1 : (List.range its.size).filterMap (fun (j : Nat) => its[((its.size : Int) - 1 + (j : Int) * (-1)).toNat]?) = ((List.range its.size).map (fun j => its.size - 1 - j)).filterMap (its[·]?) := by
    rw [List.filterMap_map]
    refine fm_same fun j hj => ?_
    have hj' := List.mem_range.mp hj
    have e : ((its.size : Int) - 1 + (j : Int) * (-1)).toNat = its.size - 1 - j := by omega
    show its[((its.size : Int) - 1 + (j : Int) * (-1)).toNat]? = its[its.size - 1 - j]?
    rw [e]
  rw [q1, PySem.W.krv_range, List.filterMap_reverse, PySem.W.krv_all]
section
variable {prog : Program} {w : World} {A : Around} {E : Value → Shared → Prop} {s : Shared}
theorem app_back {sl : Addr} {k : Tok} {m : Nat} {Q : Int × Int × Nat → Shared → Prop} (hsl : s.heap.IsSliceOf sl .none .none (.int (-1) k)) (hq : Q ((m : Int) - 1, -1, m) s) :
    wpAny (model prog w) A (Builtin.Slice.sliceApplied (.ref sl) (pure (m : Int))) Q E s := by
  obtain ⟨ob, hob, hcl, hdt⟩ := id hsl
  unfold Builtin.Slice.sliceApplied Builtin.Slice.sliceFields
  refine wpAny_bind (wpAny_bind (wpAny_field hob hdt (x := .none) rfl (wpAny_bind (wpAny_field hob hdt (x := .none) rfl (wpAny_bind (wpAny_field hob hdt (x := .int (-1) k) rfl (wpAny_pure ?_)))))))
  refine wpAny_bind (PyProof.Rows.slicePart_int ?_)
  show wpAny _ _ (if ((-1 : Int) == 0) = true then _ else _) _ _ s
  rw [if_neg (by decide)]
  refine wpAny_bind (PyProof.Rows.slicePart_none (wpAny_bind (PyProof.Rows.slicePart_none (wpAny_bind (wpAny_pure ?_)))))
  show wpAny _ _ (match Builtin.Slice.sliceAdjust none none (-1) (m : Int) with | (lo, hi) => pure (lo, (-1 : Int), Builtin.Slice.slicePlaces lo hi (-1))) _ _ s
  rw [adj_back]
  show wpAny _ _ (pure ((m : Int) - 1, (-1 : Int), Builtin.Slice.slicePlaces ((m : Int) - 1) (-1) (-1))) _ _ s
  rw [plc_back]
  exact wpAny_pure hq
theorem tup_back {t sl : Addr} {its : Array Value} {k : Tok} {Q : Value → Shared → Prop} (ht : IsTup s.heap t its) (hsl : s.heap.IsSliceOf sl .none .none (.int (-1) k))
    (hq : Q (.ref s.heap.objs.size) { s with heap := s.heap.push { cls := .type "tuple", data := .seq its.toList.reverse.toArray } }) (hfit : its.size ≤ sizeLine) : wpAny (model prog w) A (getItem (.ref t) (.ref sl)) Q E s := by
  obtain ⟨ob, hob, hcl, hdt⟩ := id hsl
  have hty : s.TypeIs (.ref sl) "slice" := ⟨ob, hob, hcl⟩
  have hfit2 : sizeOk (.seq its.toList.reverse.toArray) := by
    show its.toList.reverse.toArray.size ≤ sizeLine
    rw [List.size_toArray, List.length_reverse, Array.length_toList]
    exact hfit
  unfold getItem
  try with_reducible refine wpAny_holding ?_
  first | refine wpAny_bind (wpAny_pure ?_) | skip
  refine wpAny_bind (wpAny_sequenceKey ht.typeIs (by decide) ?_)
  refine wpAny_bind (wpAny_callSpecial?_slot (name := Str.ofString "__getitem__") ht.typeIs PyProof.Rows.slot_tuple_getitem (wpAny_call_entry PyProof.Rows.slot_tuple_getitem ht.typeIs entry_tuple_getitem ?_ (args_tuple_getitem _ _)))
  show wpAny _ _ (Builtin.Tuple.tupleItemsOf (.ref t) >>= _) _ _ s
  refine wpAny_bind (tupleItemsOf_ ht (wpAny_bind (wpAny_typeOf hty ?_)))
  rw [if_pos (by decide)]
  refine wpAny_bind (app_back hsl ?_)
  have nope : ¬ ((((its.size : Nat) : Int) - 1 == 0 && (-1 : Int) == 1 && its.size == its.size) = true) := by
    intro q
    rw [Bool.and_eq_true, Bool.and_eq_true] at q
    exact absurd (eq_of_beq q.1.2) (by decide)
  show wpAny _ _ (if (((its.size : Nat) : Int) - 1 == 0 && (-1 : Int) == 1 && its.size == its.size) = true then _ else _) _ _ s
  rw [if_neg nope, pick_back]
  first
    | exact wpAny_bind (m := Builtin.Tuple.tupleExact _) (wpAny_newObj_type (wpAny_pure ⟨_, rfl, wpAny_pure hq⟩) hfit2)
    | exact wpAny_bind (m := Builtin.Tuple.tupleExact _) (wpAny_newObj_type (wpAny_bind (wpAny_pure (wpAny_pure ⟨_, rfl, wpAny_pure hq⟩))) hfit2)
    | exact wpAny_bind (wpAny_bind (m := Builtin.Tuple.tupleExact _) (wpAny_newObj_type (wpAny_pure (wpAny_pure ⟨_, rfl, wpAny_pure hq⟩)) hfit2))
    | exact wpAny_bind (wpAny_bind (m := Builtin.Tuple.tupleExact _) (wpAny_newObj_type (wpAny_pure ⟨_, rfl, wpAny_pure hq⟩) hfit2))
end
section
variable {X : Cx} {e st : Expr} {te ts : TE} {p2 pos : Pos}
/-- x[::-1], x a list or a tuple: a new one, turned -/
def tBack (K : PySem.W.Frag) (te ts : TE) : TE := fun σ H Q => te σ H fun x H1 => ts σ H1 fun y H2 => y = .int (-1) ∧ ∃ a xs, x = .ref a ∧ ((SqT K H2 a xs ∧ ∀ p, H2 p = none → Q (.ref p) (upd H2 p (.tup xs.reverse))) ∨ (SqL K H2 a xs ∧ ∀ p, H2 p = none → Q (.ref p) (upd H2 p (.lst xs.reverse))))
theorem vals_rev {xs : List V} {us : List Value} (h : Vals xs us) : Vals xs.reverse us.reverse := by
  induction h with
  | nil => exact .nil
  | cons r t ih =>
    rw [List.reverse_cons, List.reverse_cons]
    exact ih.append (.cons r .nil)
theorem pe_back (he : PE X e te) (hst : PE X st ts) : PE X (.Subscript e (.Slice none none (some st) p2) pos) (tBack X.K te ts) := by
  refine ⟨fun pins s0 σ H0 Q0 I0 hw => ?_⟩
  refine Subscript_ (thn (he.run pins s0 σ H0 _ I0 hw) fun v s1 ⟨x, H1, I1, r1, q1⟩ => ?_)
  refine wpAny_Slice ?_
  rw [evalPart_none]
  refine wpAny_pure (wpAny_pure ?_)
  rw [evalPart_some]
  refine thn (hst.run pins s1 σ H1 _ I1 q1) fun vs s3 ⟨y, H3, I3, r3, q3⟩ => ?_
  obtain ⟨rfl, a, xs, rfl, q⟩ := q3
  obtain ⟨tk, rfl⟩ := r3
  have I4 : Inv X pins σ H3 { s3 with heap := s3.heap.push { cls := .type "slice", data := .fields #[.none, .none, .int (-1) tk] } } := I3.kept (t' := s3.toks) fun b ob z => Heap.get?_push_of_some _ z
  cases r1
  rcases q with ⟨hx, q⟩ | ⟨hx, q⟩
  · obtain ⟨its, rv, pt, hz⟩ := I4.tuple hx
    refine tail_any (ops := [.ref a, .ref s3.heap.objs.size]) pt.typeIs PyProof.Rows.slot_tuple_getitem.lookup (tup_back pt (Heap.IsSliceOf.new ..) ?_ (by rw [List.size_toArray, ← rv.length]; exact hz)) (by with_unfolding_all rfl)
    refine ⟨.ref _, _, I4.laid (t' := s3.toks) (o := .tup xs.reverse) (fun b ob z => Heap.get?_push_of_some _ z) (Nat.le_refl _) ?_, rfl, q _ (I4.hok.fresh (Nat.le_refl _))⟩
    exact ⟨by rw [List.length_reverse]; exact hz, _, vals_rev rv, IsTup.new _ _⟩
  · obtain ⟨its, rv, pt, hz⟩ := I4.list hx
    refine tail_any (ops := [.ref a, .ref s3.heap.objs.size]) pt.isList.typeIs slot_list_getitem.lookup (wpAny_getItem_list_slice pt.isList (Heap.IsSliceOf.new ..) .none .none (.int (-1) tk) (by decide) ?_ (by rw [List.size_toArray, ← rv.length]; exact hz)) (by with_unfolding_all rfl)
    rw [PySem.W.krv_pick]
    refine ⟨.ref _, _, I4.laid (t' := s3.toks) (o := .lst xs.reverse) (fun b ob z => Heap.get?_push_of_some _ z) (Nat.le_refl _) ?_, rfl, q _ (I4.hok.fresh (Nat.le_refl _))⟩
    exact ⟨by rw [List.length_reverse]; exact hz, _, 0, vals_rev rv, Heap.get?_push_size _ rfl⟩
end
end CS
namespace CS
open PySem PySem.Spec PyProof.Rows L2
/-! ### enumerate(x) of anything whose iterator is known -/
theorem enumB_new {v : Value} {ob : Obj} {Hh : Heap → Prop} (B : Begins v ob Hh) :
    Meets (Builtin.«enumerate.__new__» ⟨[.type "enumerate", v], []⟩) (fun _ R s => Hh s.heap ∧ R (.ok (.ret (.ref (s.heap.push ob).objs.size)))
      { s with heap := (s.heap.push ob).push { cls := .type "enumerate", data := .fields #[.none, .bool false, .ref s.heap.objs.size, rawInt 0, .none, .none] } }) :=
  .of_wp fun prog w A R s hst => by
    obtain ⟨hp, gn, dr, tk, os⟩ := s; obtain ⟨hh, hR⟩ := hst
    have subE := sub_enumerate
    have itr : ∀ {A' : Around} {E : Value → Shared → Prop} {Q : Value → Shared → Prop}, Q (.ref hp.objs.size) ⟨hp.push ob, gn, dr, tk, os⟩ → wpAny (model prog w) A' (pyIter v) Q E ⟨hp, gn, dr, tk, os⟩ :=
      fun q => B.iter prog w _ _ ⟨hp, gn, dr, tk, os⟩ _ hh q
    wp_walk using itr
    refine wpAny_stack_any fun st => wpAny_pure ?_
    split
    · rename_i c _ _ _ _ _
      cases (c == Value.type "enumerate")
      · wp_walk using itr
        exact ⟨_, rfl, hR⟩
      · wp_walk using itr
        exact ⟨_, rfl, hR⟩
    · wp_walk using itr
      exact ⟨_, rfl, hR⟩
section
variable {prog : Program} {w : World} {A : Around} {E : Value → Shared → Prop} {s : Shared}
theorem enumB_call {v : Value} {ob : Obj} {Hh : Heap → Prop} {Q : Value → Shared → Prop} (B : Begins v ob Hh) (hh : Hh s.heap)
    (hq : ∀ h', IsEnum h' (s.heap.objs.size + 1) s.heap.objs.size 0 .none → h'.get? s.heap.objs.size = some ob → h'.objs.size = s.heap.objs.size + 2 →
      (∀ c u, s.heap.get? c = some u → h'.get? c = some u) → Q (.ref (s.heap.objs.size + 1)) { s with heap := h' }) :
    wpAny (model prog w) A (call (.type "enumerate") [v]) Q E s := by
  refine callType_new F.called_enumerate (by decide) (F.typeCall_enumerate_1 _) (F.newCall_enumerate_1 _) (fun obj => F.args_object_init_2 obj _) F.entry_enumerate_new (enumB_new B) ⟨hh, ?_⟩
  have sz1 : (s.heap.push ob).objs.size = s.heap.objs.size + 1 := Heap.size_push ..
  show _ ∧ _
  rw [sz1]
  have at1 : IsEnum ((s.heap.push ob).push { cls := .type "enumerate", data := .fields #[.none, .bool false, .ref s.heap.objs.size, rawInt 0, .none, .none] }) (s.heap.objs.size + 1) s.heap.objs.size 0 .none := by
    have q := Heap.get?_push_size (s.heap.push ob) (o := { cls := .type "enumerate", data := .fields #[.none, .bool false, .ref s.heap.objs.size, rawInt 0, .none, .none] }) rfl
    rw [sz1] at q
    exact q
  exact ⟨⟨_, at1, rfl⟩, hq _ at1 (Heap.get?_push_of_some _ (Heap.get?_push_size _ B.free)) (by rw [Heap.size_push, sz1]) fun c u z => Heap.get?_push_of_some _ (Heap.get?_push_of_some _ z)⟩
end
/-- the pairs (0, x), (1, y), .. of the tuple at a -/
def IteT (K : PySem.W.Frag) (a : Addr) : It :=
  ⟨fun i H => ∃ (xs : List V) (x : V), SqT K H a xs ∧ xs[i]? = some x, fun i H v H' => ∃ (T : Addr) (x : V), v = .ref T ∧ H T = none ∧ H' = upd H T (.tup [.int (i : Nat), x]) ∧ ∀ ys, SqT K H a ys → ys[i]? = some x,
   fun i H => ∃ ys : List V, SqT K H a ys ∧ ys.length ≤ i⟩
theorem turn_enumT {P : Program} {w : World} {K : PySem.W.Frag} {elts : List Expr} {kk : Nat} {tpos : Pos} (a e it : Addr) :
    Turn P w K (.Tuple elts kk tpos) (IteT K a) [e, it] e (fun i h => (∃ old, IsEnum h e it ((i : Nat) : Int) old) ∧ h.IsTupleIter it a i ∧ e ≠ it) where
  mem := by simp
  obj := fun i h st b hb => by
    obtain ⟨⟨old, he⟩, ⟨ob, ho, _, hd⟩, _⟩ := st
    have hb' : b = e ∨ b = it := by simpa using hb
    rcases hb' with rfl | rfl
    · exact ⟨_, he, fun v q => nomatch q⟩
    · exact ⟨ob, ho, fun v q => by rw [hd] at q; cases q⟩
  keep := fun i h h' st kp => by
    obtain ⟨⟨old, he⟩, hi, hne⟩ := st
    exact ⟨⟨old, kp e (by simp) _ he⟩, hi.at fun u q => kp it (by simp) u q, hne⟩
  item := by
    intro X eP ew eK cm i pins s σ H E I fpo st gg
    subst eP ew eK
    obtain ⟨⟨old, he⟩, hit, hne⟩ := st
    obtain ⟨xs, x, hsq, hx⟩ := gg
    obtain ⟨its, rv, pt, _⟩ := I.tuple hsq
    obtain ⟨u, hu, ru⟩ := rv.get hx
    have hel : e < s.heap.objs.size := Heap.lt_size he
    have hil : it < s.heap.objs.size := by obtain ⟨_, q, _⟩ := hit; exact Heap.lt_size q
    have eT : e ≠ a := fun z => by
      obtain ⟨ot, hot, hct, _⟩ := pt
      rw [← z, he] at hot
      cases hot
      exact absurd (Value.type.inj hct) (by decide)
    have iT : a ≠ it := fun z => by
      obtain ⟨oi, hoi, hci, _⟩ := hit
      obtain ⟨ot, hot, hct, _⟩ := pt
      rw [z, hoi] at hot
      cases hot
      rw [hci] at hct
      exact absurd (Value.type.inj hct) (by decide)
    have D := Draws.tuple (prog := X.prog) (w := X.w) (A := X.A.in1) (I.ok.hd cm) it a iT its.toArray
    have hlt : i < its.toArray.size := by
      have q := (List.getElem?_eq_some_iff.mp hu).1
      simpa using q
    refine wpAny_pyNext_enum_itemD D he ⟨hit, pt⟩ hlt hne (by simp [hne, eT]) fun y h' tk hP ho sn hT hsz hk => ?_
    have ey : y = u := by
      have q : its[i]? = some y := by simpa using hP
      rw [hu] at q
      exact (Option.some.inj q).symm
    subst ey
    refine ⟨_, rfl, wpAny_letOwnedTupleGo_enum (s := { s with heap := h', toks := tk + 1 }) ho fun h2 he2 sb => ?_⟩
    have hT2 : h2.get? s.heap.objs.size = some { cls := .type "tuple", data := .seq #[.int i tk, y] } := (sb.2 _ (Nat.ne_of_gt hel)).trans hT
    have nw : ObjOk X.prog X.w (upd H s.heap.objs.size (.tup [.int (i : Nat), x])) h2 s.heap.objs.size (.tup [.int (i : Nat), x]) :=
      ⟨by show 2 ≤ sizeLine; decide, [.int i tk, y], .cons ⟨_, rfl⟩ (.cons ru .nil), ⟨_, hT2, rfl, _, rfl⟩⟩
    have I1 : Inv X pins σ (upd H s.heap.objs.size (.tup [.int (i : Nat), x])) { s with heap := h2, toks := tk + 1 } :=
      I.turnedNew (ch := [e, it]) (fun b ob hb q => (sb.2 b (fun z => hb (by simp [z]))).trans (hk b ob (fun z => hb (by simp [z])) (fun z => hb (by simp [z])) q)) fpo (Nat.le_refl _) nw
    refine ⟨.ref s.heap.objs.size, _, I1, rfl, ⟨_, x, rfl, I.hok.fresh (Nat.le_refl _), rfl, fun ys hy => by rw [I.tuple_inj hy hsq]; exact hx⟩, ⟨⟨y, ?_⟩, sn.1.at fun u q => (sb.2 it (Ne.symm hne)).trans q, hne⟩, fun b hb => ?_⟩
    · have e1 : ((i + 1 : Nat) : Int) = (i : Int) + 1 := by omega
      rw [e1]
      exact he2
    · have hb' : b < s.heap.objs.size := by
        have z : b = e ∨ b = it := by simpa using hb
        rcases z with z | z
        · rw [z]; exact hel
        · rw [z]; exact hil
      rw [upd_ne (Nat.ne_of_lt hb')]
      exact (fpo b hb).1
  done := by
    intro X eP ew eK cm i pins s σ H E I fpo st gg
    subst eP ew eK
    obtain ⟨⟨old, he⟩, hit, hne⟩ := st
    obtain ⟨ys, hsq, hle⟩ := gg
    obtain ⟨its, rv, pt, _⟩ := I.tuple hsq
    obtain ⟨f0, f1, f2, f3, f4, f5⟩ := fpo it (by simp)
    have iT : a ≠ it := fun z => by
      obtain ⟨oi, hoi, hci, _⟩ := hit
      obtain ⟨ot, hot, hct, _⟩ := pt
      rw [z, hoi] at hot
      cases hot
      rw [hci] at hct
      exact absurd (Value.type.inj hct) (by decide)
    have hlen := rv.length
    have hnone : its.toArray[i]? = none := by simp; omega
    have hty : s.TypeIs (.ref e) "enumerate" := ⟨_, he, rfl⟩
    unfold pyNext
    refine wpAny_bind (wpAny_attempt (wpAny_callSpecial?_slot (name := Str.ofString "__next__") hty F.slot_enumerate_next (wpAny_call_entry F.slot_enumerate_next hty F.entry_enumerate_next ?_ (F.args_enumerate_next_1 _))))
    show wpAny _ _ (field (.ref e) 2 >>= _) _ _ _
    refine wpAny_bind (wpAny_field he rfl (x := .ref it) rfl (wpAny_bind (RZ.nextOf_tuple_end (I.ok.hd cm) hit pt hnone fun h' xx hk hx' => ?_)))
    obtain ⟨ob, ho, hcl⟩ := hx'
    refine wpAny_bind (wpAny_isInstance (T := "StopIteration") (b := true) ⟨ob, ho, hcl⟩ isSubtype_stop ?_)
    exact wpAny_pure ⟨rfl, I.turned (t' := s.toks) (fun b u hb q => hk b u hb q) f0 f1 f3 f4 f5⟩
  self := fun A i s Q E st hq => by
    obtain ⟨⟨_, he⟩, _⟩ := st
    exact wpAny_pyIter_enum he hq
def iEnumT (K : PySem.W.Frag) (ta : TA) : TI := fun σ H R => ta σ H fun vs H1 => ∃ (a : Addr) (xs : List V), vs = [.ref a] ∧ ((SqT K H1 a xs ∧ R (IteT K a) H1) ∨ (SqL K H1 a xs ∧ R (Ite K a) H1))
theorem pi_enumT {X : Cx} {e : Expr} {ta : TA} {p pos tpos : Pos} {elts : List Expr} {kk : Nat} (gE : Gl X "enumerate") (mE : X.mg "enumerate" = none) (ha : PA X [e] ta) (hs : starEach [e] X.env = [(false, eval e X.env)] := by rfl) :
    PI X (.Tuple elts kk tpos) (.Call (.Name "enumerate" p) [e] [] pos) (iEnumT X.K ta) := by
  refine ⟨fun pins s0 σ H0 R I0 hw => ?_⟩
  refine Call_ (ld_blt I0 gE mE boot_enumerate (PyProof.Rows.callWith_type1 (thn (ha.run pos pins s0 σ H0 _ I0 hw) fun us s1 ⟨vs, H1, I1, r1, q1⟩ => ?_) hs rfl))
  obtain ⟨a, xs, rfl, q⟩ := q1
  obtain ⟨u, rfl, rx⟩ := vals1 r1
  cases rx
  have fr : ∀ b, b ∈ [s1.heap.objs.size + 1, s1.heap.objs.size] → FpOk X pins H1 b := fun b hb => by
    have z : b = s1.heap.objs.size + 1 ∨ b = s1.heap.objs.size := by simpa using hb
    have hle : s1.heap.objs.size ≤ b := by omega
    exact I1.fpOk hle (I1.hok.fresh hle)
  rcases q with ⟨hq, q⟩ | ⟨hq, q⟩
  · obtain ⟨its, rv, pt, _⟩ := I1.tuple hq
    refine enumB_call (begins_tuple a its.toArray) pt fun h' he ho hsz hk => wpAny_pyIter_enum he ?_
    exact ⟨s1.heap.objs.size + 1, [s1.heap.objs.size + 1, s1.heap.objs.size], _, _, H1, rfl, I1.kept (t' := s1.toks) hk, turn_enumT a _ _, ⟨⟨_, he⟩, ⟨_, ho, rfl, rfl⟩, Nat.succ_ne_self _⟩, fr, q⟩
  · obtain ⟨its, rv, pt, _⟩ := I1.list hq
    refine enumB_call (begins_list a its.toArray) pt.isList fun h' he ho hsz hk => wpAny_pyIter_enum he ?_
    exact ⟨s1.heap.objs.size + 1, [s1.heap.objs.size + 1, s1.heap.objs.size], _, _, H1, rfl, I1.kept (t' := s1.toks) hk, turn_enum a _ _, ⟨⟨_, he⟩, ⟨_, ho, rfl, rfl⟩, Nat.succ_ne_self _⟩, fr, q⟩
theorem walk_enumT {K : PySem.W.Frag} {a : Addr} {xs : List V} : Walk (IteT K a) xs.length (fun H => SqT K H a xs) (YPair (fun i => some (.int (i : Nat))) (fun i => xs[i]?)) := by
  refine ⟨fun i _ hi q => ⟨xs, xs[i], q, by simp [hi]⟩, fun _ q => ⟨xs, q, Nat.le_refl _⟩, fun i H v H' _ q y => ?_⟩
  obtain ⟨T, x, e1, e2, e3, e4⟩ := y
  exact ⟨T, .int (i : Nat), x, e1, e2, e3, rfl, e4 xs q⟩
end CS
namespace CS
open PySem PySem.Spec PyProof.Rows L2

section
variable {prog : Program} {w : World} {A : Around} {E : Value → Shared → Prop} {s : Shared} {z TI TO T i1 i2 : Addr} {fp1 fp2 : List Addr} {n1 n2 i : Nat} {P1 P2 : Nat → Value → Prop} {St1 St2 : Nat → Heap → Prop} {f : Bool} {oT : Obj}
/-- one more of a zip whose tuple is still held by somebody -/
theorem held_item {Q : Value → Shared → Prop} (S : ZipSep2 z TI TO i1 i2 fp1 fp2) (D1 : Draws prog w A i1 fp1 n1 P1 St1) (D2 : Draws prog w A i2 fp2 n2 P2 St2)
    (hz : IsZipHeld s.heap z TI TO T f) (hT : s.heap.get? T = some oT) (hTI : IsTupOf2 s.heap TI (.ref i1) (.ref i2)) (st1 : St1 i s.heap) (st2 : St2 i s.heap) (lt1 : i < n1) (lt2 : i < n2)
    (hq : ∀ x y h' tk, P1 i x → P2 i y → IsZipHeld h' z TI TO T true → St1 (i + 1) h' → St2 (i + 1) h' → IsTupOf2 h' s.heap.objs.size x y → h'.objs.size = s.heap.objs.size + 1 →
      (∀ c u, c ≠ z → c ≠ i1 → c ≠ i2 → s.heap.get? c = some u → h'.get? c = some u) → Q (.ref s.heap.objs.size) { s with heap := h', toks := tk }) :
    wpAny (model prog w) A (Builtin.«zip.__next__» ⟨[.ref z], []⟩) (fun fin s' => ∃ v, fin = .done (.ret v) ∧ Q v s') E s := by
  obtain ⟨hp, gn, dr, tk0, os⟩ := s
  show wpAny _ _ (field (.ref z) 2 >>= _) _ _ _
  refine wpAny_bind (wpAny_field hz rfl (x := .bool false) rfl ?_)
  show wpAny _ _ (field (.ref z) 3 >>= _) _ _ _
  refine wpAny_bind (wpAny_field hz rfl (x := .ref TI) rfl (wpAny_bind (wpAny_seqItems hTI rfl ?_)))
  show wpAny _ _ (Builtin.SmallTypes.ownedTupleIsFree (.ref z) >>= _) _ _ _
  refine wpAny_bind (wpAny_tupleHeld_zip hz hT fun g1 hz1 hs1 => ?_)
  replace hs1 : Heap.SameBut z hp g1 := hs1
  simp only [Bool.false_eq_true, if_false]
  refine wpAny_bind ?_
  rw [← Array.forIn_toList]
  simp only [List.forIn_cons, List.forIn_nil]
  refine wpAny_bind (wpAny_bind (wpAny_holding ?_))
  show wpAny _ _ (Builtin.SmallTypes.nextOf (.ref i1) >>= _) _ _ ⟨g1, gn, dr, tk0, os⟩
  refine wpAny_bind (D1.item i _ _ _ lt1 (D1.over st1 hs1 S.zf1) fun x g2 tk1 hx sn1 hs2 => wpAny_pure (wpAny_pure ?_))
  replace hs2 : Heap.SameBut i1 g1 g2 := hs2
  refine wpAny_bind (wpAny_bind (wpAny_holding ?_))
  show wpAny _ _ (Builtin.SmallTypes.nextOf (.ref i2) >>= _) _ _ ⟨g2, gn, dr, tk1, os⟩
  refine wpAny_bind (D2.item i _ _ _ lt2 (D2.over (D2.over st2 hs1 S.zf2) hs2 S.sep1_2) fun y g3 tk2 hy sn2 hs3 => wpAny_pure (wpAny_pure (wpAny_pure ?_)))
  replace hs3 : Heap.SameBut i2 g2 g3 := hs3
  show wpAny _ _ (newTuple [x, y] >>= _) _ _ ⟨g3, gn, dr, tk2, os⟩
  refine wpAny_bind (wpAny_newTuple ?_)
  have esz : g3.objs.size = hp.objs.size := by rw [hs3.1, hs2.1, hs1.1]
  have hz3 : IsZipHeld g3 z TI TO T true := hs3.extBut _ _ S.zi2 (hs2.extBut _ _ S.zi1 hz1)
  have kept : ∀ c u, c ≠ z → c ≠ i1 → c ≠ i2 → hp.get? c = some u → g3.get? c = some u := fun c u c1 c2 c3 q => hs3.extBut _ _ c3 (hs2.extBut _ _ c2 (hs1.extBut _ _ c1 q))
  have j1 : St1 (i + 1) g3 := D1.over sn1 hs3 S.sep2_1
  refine wpAny_pure ⟨_, rfl, ?_⟩
  show Q (.ref g3.objs.size) _
  have tp : IsTupOf2 (g3.push { cls := .type "tuple", data := .seq #[x, y] }) g3.objs.size x y := Heap.get?_push_size _ rfl
  have sz4 : (g3.push { cls := .type "tuple", data := .seq #[x, y] }).objs.size = g3.objs.size + 1 := Heap.size_push ..
  rw [esz] at tp sz4 ⊢
  exact hq x y _ tk2 hx hy (Heap.get?_push_of_some _ hz3) (D1.frame _ _ _ j1 fun b _ u q => Heap.get?_push_of_some _ q) (D2.frame _ _ _ sn2 fun b _ u q => Heap.get?_push_of_some _ q) tp sz4 fun c u c1 c2 c3 q => Heap.get?_push_of_some _ (kept c u c1 c2 c3 q)
theorem held_end {Q : Fin → Shared → Prop} (S : ZipSep2 z TI TO i1 i2 fp1 fp2) (D1 : Draws prog w A i1 fp1 n1 P1 St1) (D2 : Draws prog w A i2 fp2 n2 P2 St2)
    (hz : IsZipHeld s.heap z TI TO T f) (hT : s.heap.get? T = some oT) (hTI : IsTupOf2 s.heap TI (.ref i1) (.ref i2)) (st1 : St1 i s.heap) (st2 : St2 i s.heap) (le1 : i ≤ n1) (le2 : i ≤ n2) (fin : i = n1 ∨ i = n2)
    (he : ∀ h' tk e, (∀ c u, c ≠ z → c ≠ i1 → c ≠ i2 → s.heap.get? c = some u → h'.get? c = some u) → (∃ u, h'.get? e = some u ∧ u.cls = .type "StopIteration") → E (.ref e) { s with heap := h', toks := tk }) :
    wpAny (model prog w) A (Builtin.«zip.__next__» ⟨[.ref z], []⟩) Q E s := by
  obtain ⟨hp, gn, dr, tk0, os⟩ := s
  show wpAny _ _ (field (.ref z) 2 >>= _) _ _ _
  refine wpAny_bind (wpAny_field hz rfl (x := .bool false) rfl ?_)
  show wpAny _ _ (field (.ref z) 3 >>= _) _ _ _
  refine wpAny_bind (wpAny_field hz rfl (x := .ref TI) rfl (wpAny_bind (wpAny_seqItems hTI rfl ?_)))
  show wpAny _ _ (Builtin.SmallTypes.ownedTupleIsFree (.ref z) >>= _) _ _ _
  refine wpAny_bind (wpAny_tupleHeld_zip hz hT fun g1 hz1 hs1 => ?_)
  replace hs1 : Heap.SameBut z hp g1 := hs1
  simp only [Bool.false_eq_true, if_false]
  refine wpAny_bind ?_
  rw [← Array.forIn_toList]
  simp only [List.forIn_cons, List.forIn_nil]
  refine wpAny_bind (wpAny_bind (wpAny_holding ?_))
  show wpAny _ _ (Builtin.SmallTypes.nextOf (.ref i1) >>= _) _ _ ⟨g1, gn, dr, tk0, os⟩
  by_cases lt1 : i < n1
  · refine wpAny_bind (D1.item i _ _ _ lt1 (D1.over st1 hs1 S.zf1) fun x g2 tk1 hx sn1 hs2 => wpAny_pure (wpAny_pure ?_))
    replace hs2 : Heap.SameBut i1 g1 g2 := hs2
    have ei : i = n2 := by omega
    refine wpAny_bind (wpAny_bind (wpAny_holding ?_))
    show wpAny _ _ (Builtin.SmallTypes.nextOf (.ref i2) >>= _) _ _ ⟨g2, gn, dr, tk1, os⟩
    refine wpAny_bind (D2.done ⟨g2, gn, dr, tk1, os⟩ _ _ (by rw [← ei]; exact D2.over (D2.over st2 hs1 S.zf2) hs2 S.sep1_2) fun q e hq hE => ?_)
    replace hq : Heap.ExtBut i2 g2 q := hq
    exact he q tk1 e (fun c u c1 c2 c3 r => hq _ _ c3 (hs2.extBut _ _ c2 (hs1.extBut _ _ c1 r))) hE
  · have ei : i = n1 := by omega
    refine wpAny_bind (D1.done ⟨g1, gn, dr, tk0, os⟩ _ _ (by rw [← ei]; exact D1.over st1 hs1 S.zf1) fun q e hq hE => ?_)
    replace hq : Heap.ExtBut i1 g1 q := hq
    exact he q tk0 e (fun c u c1 c2 c3 r => hq _ _ c2 (hs1.extBut _ _ c1 r)) hE
/-- where a zip stands ahead of its i-th turn, if what it gave is kept -/
def ZAt (z TI TO i1 i2 : Addr) (S : Addr) (St1 St2 : Nat → Heap → Prop) (i : Nat) (h : Heap) : Prop :=
  IsTupOf2 h TI (.ref i1) (.ref i2) ∧ St1 i h ∧ St2 i h ∧ ((IsZip h z TI TO .none ∧ ∃ a b, IsTupOf2 h TO a b) ∨ ∃ T f oT, IsZipHeld h z TI TO T f ∧ h.get? T = some oT ∧ T ≠ z ∧ T ≠ i1 ∧ T ≠ i2 ∧ T ≠ S)
theorem z_item {S0 : Addr} {Q : Option Value → Shared → Prop} (S : ZipSep2 z TI TO i1 i2 fp1 fp2) (D1 : Draws prog w A.in1 i1 fp1 n1 P1 St1) (D2 : Draws prog w A.in1 i2 fp2 n2 P2 St2)
    (hz : ZAt z TI TO i1 i2 S0 St1 St2 i s.heap) (hS : S0 < s.heap.objs.size) (lt1 : i < n1) (lt2 : i < n2)
    (hq : ∀ x y h' tk, P1 i x → P2 i y → ZAt z TI TO i1 i2 S0 St1 St2 (i + 1) h' → IsTupOf2 h' s.heap.objs.size x y → h'.objs.size = s.heap.objs.size + 1 →
      (∀ c u, c ≠ z → c ≠ TO → c ≠ i1 → c ≠ i2 → s.heap.get? c = some u → h'.get? c = some u) → Q (some (.ref s.heap.objs.size)) { s with heap := h', toks := tk }) :
    wpAny (model prog w) A (pyNext (.ref z)) Q E s := by
  obtain ⟨hTI, st1, st2, q⟩ := hz
  have lti1 : i1 < s.heap.objs.size := by obtain ⟨_, q⟩ := D1.live _ _ st1; exact Heap.lt_size q
  have lti2 : i2 < s.heap.objs.size := by obtain ⟨_, q⟩ := D2.live _ _ st2; exact Heap.lt_size q
  rcases q with ⟨hz, a, b, hTO⟩ | ⟨T, f, oT, hz, hT, t1, t2, t3, t4⟩
  · have ltz : z < s.heap.objs.size := Heap.lt_size hz
    refine wpAny_pyNext_zipD2_item S D1 D2 hz hTI hTO st1 st2 lt1 lt2 fun x y h' tk p1 p2 b1 b2 d1 d2 b5 b6 b7 => hq x y h' tk p1 p2 ⟨b7 _ _ S.TIz S.TITO S.TIi1 S.TIi2 hTI, d1, d2, .inr ⟨s.heap.objs.size, false, _, b1, b5, ?_⟩⟩ b5 b6 b7
    exact ⟨Nat.ne_of_gt ltz, Nat.ne_of_gt lti1, Nat.ne_of_gt lti2, Nat.ne_of_gt hS⟩
  · have hty : s.TypeIs (.ref z) "zip" := ⟨_, hz, rfl⟩
    unfold pyNext
    exact wpAny_bind (wpAny_attempt (wpAny_callSpecial?_slot (name := Str.ofString "__next__") hty F.slot_zip_next (wpAny_call_entry F.slot_zip_next hty F.entry_zip_next
      (held_item S D1 D2 hz hT hTI st1 st2 lt1 lt2 fun x y h' tk p1 p2 b1 d1 d2 b5 b6 b7 => wpAny_pure (hq x y h' tk p1 p2
        ⟨b7 _ _ S.TIz S.TIi1 S.TIi2 hTI, d1, d2, .inr ⟨T, true, oT, b1, b7 _ _ t1 t2 t3 hT, t1, t2, t3, t4⟩⟩ b5 b6 fun c u c1 _ c3 c4 q => b7 c u c1 c3 c4 q)) (F.args_zip_next_1 _))))
theorem z_end {S0 : Addr} {Q : Option Value → Shared → Prop} (S : ZipSep2 z TI TO i1 i2 fp1 fp2) (D1 : Draws prog w A.in1 i1 fp1 n1 P1 St1) (D2 : Draws prog w A.in1 i2 fp2 n2 P2 St2)
    (hz : ZAt z TI TO i1 i2 S0 St1 St2 i s.heap) (le1 : i ≤ n1) (le2 : i ≤ n2) (fin : i = n1 ∨ i = n2)
    (hq : ∀ h' tk, (∀ c u, c ≠ z → c ≠ TO → c ≠ i1 → c ≠ i2 → s.heap.get? c = some u → h'.get? c = some u) → Q none { s with heap := h', toks := tk }) : wpAny (model prog w) A (pyNext (.ref z)) Q E s := by
  obtain ⟨hTI, st1, st2, q⟩ := hz
  rcases q with ⟨hz, a, b, hTO⟩ | ⟨T, f, oT, hz, hT, t1, t2, t3, t4⟩
  · exact wpAny_pyNext_zipD2_end S D1 D2 hz hTI hTO st1 st2 le1 le2 fin hq
  · have hty : s.TypeIs (.ref z) "zip" := ⟨_, hz, rfl⟩
    unfold pyNext
    refine wpAny_bind (wpAny_attempt (wpAny_callSpecial?_slot (name := Str.ofString "__next__") hty F.slot_zip_next (wpAny_call_entry F.slot_zip_next hty F.entry_zip_next
      (held_end S D1 D2 hz hT hTI st1 st2 le1 le2 fin fun h' tk e hk hE => ?_) (F.args_zip_next_1 _))))
    obtain ⟨u, hu, hcl⟩ := hE
    exact wpAny_bind (wpAny_isInstance (T := "StopIteration") (b := true) ⟨u, hu, hcl⟩ isSubtype_stop (wpAny_pure (hq _ _ fun c v c1 _ c3 c4 q => hk c v c1 c3 c4 q)))
theorem ZAt.through {S0 : Addr} {h h' : Heap} (S : ZipSep2 z TI TO i1 i2 fp1 fp2) (D1 : Draws prog w A i1 fp1 n1 P1 St1) (D2 : Draws prog w A i2 fp2 n2 P2 St2) (n1' : S0 ∉ fp1) (n2' : S0 ∉ fp2) (nT : TI ≠ S0) (nz : z ≠ S0) (nO : TO ≠ S0)
    (hz : ZAt z TI TO i1 i2 S0 St1 St2 i h) (k : ∀ c u, c ≠ S0 → h.get? c = some u → h'.get? c = some u) : ZAt z TI TO i1 i2 S0 St1 St2 i h' := by
  obtain ⟨hTI, st1, st2, q⟩ := hz
  refine ⟨k _ _ nT hTI, D1.frame _ _ _ st1 fun b hb u e => k _ _ (fun z => n1' (z ▸ hb)) e, D2.frame _ _ _ st2 fun b hb u e => k _ _ (fun z => n2' (z ▸ hb)) e, ?_⟩
  rcases q with ⟨hz, a, b, hTO⟩ | ⟨T, f, oT, hz, hT, t1, t2, t3, t4⟩
  · exact .inl ⟨k _ _ nz hz, a, b, k _ _ nO hTO⟩
  · exact .inr ⟨T, f, oT, k _ _ nz hz, k _ _ t4 hT, t1, t2, t3, t4⟩
end
end CS
namespace CS
open PySem PySem.Spec PyProof.Rows L2
theorem zip_nolen : typeLookup (.type "zip") "__len__" = pure none := am_miss_of_fast (by decide +kernel)
theorem zip_nohint : typeLookup (.type "zip") "__length_hint__" = pure none := am_miss_of_fast (by decide +kernel)
/-- the j-th address of as holds the pair of the j-th of xs and the j-th of ys -/
def PairsAt (xs ys : List V) (as : List Addr) (H : Hp) : Prop := ∀ (j : Nat) (a : Addr) (x y : V), as[j]? = some a → xs[j]? = some x → ys[j]? = some y → H a = some (.tup [x, y])
section
variable {X : Cx} {pins : List (Addr × Obj)} {σ : L2.St} {s : Shared} {A : Around} {z TI TO i1 i2 S0 : Addr} {fp1 fp2 : List Addr} {St1 St2 : Nat → Heap → Prop} {xs ys : List V} {its1 its2 : List Value} {n1 n2 n : Nat} {H0 : Hp}
/-- what the loop that collects a zip has reached -/
structure ZGot (X : Cx) (pins : List (Addr × Obj)) (σ : L2.St) (s : Shared) (z TO i1 i2 S0 : Addr) (xs ys : List V) (H0 : Hp) (i : Nat) (h : Heap) (tk : Nat) (Hc : Hp) (acc : Array Value) (c : Nat) (as : List Addr) : Prop where
  inv : Inv X pins σ Hc { s with heap := h, toks := tk }
  lst : h.get? S0 = some { cls := .type "list", dict := none, data := .seq acc c, slots := #[] }
  acc : acc.toList = as.map Value.ref
  len : as.length = i
  fp : ∀ b ∈ [z, TO, i1, i2, S0], FpOk X pins Hc b
  same : Same H0 Hc
  good : PairsAt xs ys as Hc
theorem z_loop {R : Result → Shared → Prop} (S : ZipSep2 z TI TO i1 i2 fp1 fp2) (rx : Vals xs its1) (ry : Vals ys its2)
    (D1 : Draws X.prog X.w A.in1.in1 i1 fp1 xs.length (fun j v => its1[j]? = some v) St1) (D2 : Draws X.prog X.w A.in1.in1 i2 fp2 ys.length (fun j v => its2[j]? = some v) St2)
    (sf1 : S0 ∉ fp1) (sf2 : S0 ∉ fp2) (nT : TI ≠ S0) (nz : z ≠ S0) (nO : TO ≠ S0) (hn : n = min xs.length ys.length) (hfit : n ≤ sizeLine) (res : Value)
    (hR : ∀ h tk Hc acc c as, ZGot X pins σ s z TO i1 i2 S0 xs ys H0 n h tk Hc acc c as → R (.ok (.ret res)) { s with heap := h, toks := tk }) :
    ∀ (k i : Nat) (h : Heap) (tk : Nat) (Hc : Hp) (acc : Array Value) (c : Nat) (as : List Addr), n - i = k → i ≤ n → ZGot X pins σ s z TO i1 i2 S0 xs ys H0 i h tk Hc acc c as → ZAt z TI TO i1 i2 S0 St1 St2 i h → (∀ b ∈ [z, TO, i1, i2, S0], b < h.objs.size) →
    codeAny (model X.prog X.w) A (.builtin "list.extend.loop" ⟨[.ref S0, .ref z, res], []⟩) R { s with heap := h, toks := tk } := by
  intro k
  induction k with
  | zero =>
    intro i h tk Hc acc c as ek hi G zat low
    have ein : i = n := by omega
    subst ein
    refine codeAny_builtin F.entry_extend_loop ?_
    rw [Around.under_plainId F.plain_extend_loop _]
    show wpAny _ A.in1 (pyNext (.ref z) >>= _) _ _ _
    refine wpAny_bind (z_end S D1 D2 zat (by omega) (by omega) (by omega) fun h' tk' hk => ?_)
    have hS : z ≠ S0 ∧ i1 ≠ S0 ∧ i2 ≠ S0 := ⟨nz, fun q => sf1 (q ▸ S.mem1), fun q => sf2 (q ▸ S.mem2)⟩
    refine wpAny_pure (hR h' tk' Hc acc c as ⟨?_, hk _ _ nz.symm nO.symm hS.2.1.symm hS.2.2.symm G.lst, G.acc, G.len, G.fp, G.same, G.good⟩)
    exact G.inv.turnedL (s := { s with heap := h, toks := tk }) (t' := tk') (ch := [z, TO, i1, i2, S0]) (fun b u hb q => hk b u (fun e => hb (by simp [e])) (fun e => hb (by simp [e])) (fun e => hb (by simp [e])) (fun e => hb (by simp [e])) q) G.fp
  | succ k ih =>
    intro i h tk Hc acc c as ek hi G zat low
    have hS : z ≠ S0 ∧ i1 ≠ S0 ∧ i2 ≠ S0 := ⟨nz, fun q => sf1 (q ▸ S.mem1), fun q => sf2 (q ▸ S.mem2)⟩
    have hSlt : S0 < h.objs.size := Heap.lt_size G.lst
    refine codeAny_builtin F.entry_extend_loop ?_
    rw [Around.under_plainId F.plain_extend_loop _]
    show wpAny _ A.in1 (pyNext (.ref z) >>= _) _ _ _
    refine wpAny_bind (z_item (s := { s with heap := h, toks := tk }) S D1 D2 zat hSlt (by omega) (by omega) fun u v h' tk' hu hv zat' tp hsz hk => ?_)
    obtain ⟨x, hx, rxu⟩ : ∃ x, xs[i]? = some x ∧ RelV x u := by
      have hlt : i < xs.length := by omega
      obtain ⟨u', e1, e2⟩ := rx.get (List.getElem?_eq_getElem hlt)
      rw [e1] at hu
      cases hu
      exact ⟨_, List.getElem?_eq_getElem hlt, e2⟩
    obtain ⟨y, hy, ryv⟩ : ∃ y, ys[i]? = some y ∧ RelV y v := by
      have hlt : i < ys.length := by omega
      obtain ⟨u', e1, e2⟩ := ry.get (List.getElem?_eq_getElem hlt)
      rw [e1] at hv
      cases hv
      exact ⟨_, List.getElem?_eq_getElem hlt, e2⟩
    have hS' := hk _ _ nz.symm nO.symm hS.2.1.symm hS.2.2.symm G.lst
    have hT0 : Hc h.objs.size = none := G.inv.hok.fresh (Nat.le_refl _)
    have nw : ObjOk X.prog X.w (upd Hc h.objs.size (.tup [x, y])) h' h.objs.size (.tup [x, y]) := ⟨by show 2 ≤ sizeLine; decide, [u, v], .cons rxu (.cons ryv .nil), ⟨_, tp, rfl, _, rfl⟩⟩
    have I1 : Inv X pins σ (upd Hc h.objs.size (.tup [x, y])) { s with heap := h', toks := tk' } :=
      G.inv.turnedNew (s := { s with heap := h, toks := tk }) (t' := tk') (ch := [z, TO, i1, i2, S0]) (fun b q hb e => hk b q (fun e => hb (by simp [e])) (fun e => hb (by simp [e])) (fun e => hb (by simp [e])) (fun e => hb (by simp [e])) e) G.fp (Nat.le_refl _) nw
    have fp2' : ∀ b ∈ [z, TO, i1, i2, S0], FpOk X pins (upd Hc h.objs.size (.tup [x, y])) b := fun b hb => by
      obtain ⟨f0, fr⟩ := G.fp b hb
      refine ⟨?_, fr⟩
      have hlt : b ≠ h.objs.size := Nat.ne_of_lt (low b hb)
      rw [upd_ne hlt]
      exact f0
    show wpAny _ A.in1 (updateSeq S0 (·.push (.ref h.objs.size)) >>= _) _ _ _
    have esz : acc.size = i := by rw [← Array.length_toList, G.acc, List.length_map, G.len]
    refine wpAny_bind (wpAny_updateSeq (s := { s with heap := h', toks := tk' }) hS' rfl (wpAny_pure ⟨plainId_quiet F.plain_extend_loop _, ?_⟩) (by rw [esz]; omega) (by show (acc.push _).size ≤ sizeLine + 1; rw [Array.size_push, esz]; omega))
    have oth : ∀ b q, b ≠ S0 → h'.get? b = some q → (h'.update S0 (Obj.mapSeq (·.push (Value.ref h.objs.size)))).get? b = some q := fun b q hb e => (Heap.get?_update_other _ _ (Ne.symm hb)).trans e
    refine ih (i + 1) _ tk' (upd Hc h.objs.size (.tup [x, y])) (acc.push (.ref h.objs.size)) _ (as ++ [h.objs.size]) (by omega) (by omega) ⟨?_, Heap.get?_update_self _ hS' rfl, ?_, ?_, fp2', ?_, ?_⟩ (ZAt.through S D1 D2 sf1 sf2 nT nz nO zat' oth) (fun b hb => by
      have q := low b hb
      rw [(Heap.SameBut.update h' S0 _).1, hsz]
      exact Nat.lt_succ_of_lt q)
    · exact I1.turnedL (s := { s with heap := h', toks := tk' }) (t' := tk') (ch := [z, TO, i1, i2, S0]) (fun b q hb e => oth b q (fun e => hb (by simp [e])) e) fp2'
    · rw [Array.toList_push, G.acc, List.map_append]
      rfl
    · rw [List.length_append, G.len]
      rfl
    · exact fun b q e => by rw [upd_ne (ne_of_none (G.same b q e) hT0)]; exact G.same b q e
    · intro j a x' y' ha hx' hy'
      by_cases hj : j < i
      · have ha' : as[j]? = some a := by rw [List.getElem?_append_left (by rw [G.len]; exact hj)] at ha; exact ha
        have q := G.good j a x' y' ha' hx' hy'
        rw [upd_ne (ne_of_none q hT0)]
        exact q
      · have ej : j = i := by
          have q := (List.getElem?_eq_some_iff.mp ha).1
          rw [List.length_append, G.len, List.length_singleton] at q
          omega
        subst ej
        rw [List.getElem?_append_right (by rw [G.len]; exact Nat.le_refl _), G.len, Nat.sub_self] at ha
        have ea : h.objs.size = a := Option.some.inj ha
        rw [hx] at hx'
        rw [hy] at hy'
        cases hx'
        cases hy'
        rw [← ea]
        exact upd_same
/-- collecting a zip -/
theorem z_collect {Q : List Value → Shared → Prop} {E : Value → Shared → Prop} (S : ZipSep2 z TI TO i1 i2 fp1 fp2) (rx : Vals xs its1) (ry : Vals ys its2)
    (D1 : Draws X.prog X.w A.in1.in1 i1 fp1 xs.length (fun j v => its1[j]? = some v) St1) (D2 : Draws X.prog X.w A.in1.in1 i2 fp2 ys.length (fun j v => its2[j]? = some v) St2)
    (hn : n = min xs.length ys.length) (hfit : n ≤ sizeLine) (I : Inv X pins σ H0 s) (hz : IsZip s.heap z TI TO .none) (hTI : IsTupOf2 s.heap TI (.ref i1) (.ref i2)) (hTO : ∃ a b, IsTupOf2 s.heap TO a b) (st1 : St1 0 s.heap) (st2 : St2 0 s.heap)
    (l1 : ∀ b ∈ fp1, b < s.heap.objs.size) (l2 : ∀ b ∈ fp2, b < s.heap.objs.size) (fp0 : ∀ b ∈ [z, TO, i1, i2], FpOk X pins H0 b)
    (hq : ∀ h tk Hc as, Inv X pins σ Hc { s with heap := h, toks := tk } → as.length = n → Same H0 Hc → PairsAt xs ys as Hc → Q (as.map Value.ref) { s with heap := h, toks := tk }) :
    wpAny (model X.prog X.w) A (collect (.ref z)) Q E s := by
  have zl : z < s.heap.objs.size := Heap.lt_size hz
  have Tl : TI < s.heap.objs.size := Heap.lt_size hTI
  have Ol : TO < s.heap.objs.size := by obtain ⟨_, _, q⟩ := hTO; exact Heap.lt_size q
  have nm : ∀ {l : List Addr}, (∀ b ∈ l, b < s.heap.objs.size) → s.heap.objs.size ∉ l := fun h q => Nat.lt_irrefl _ (h _ q)
  unfold collect
  refine wpAny_bind (wpAny_runValue (codeAny_builtin F.entry_proto_collect ?_))
  rw [Around.under_plainId F.plain_proto_collect _]
  show wpAny _ A.in1 (newList [] >>= fun l => again (.builtin "list.__iadd__" ⟨[l, .ref z], []⟩)) _ _ s
  refine wpAny_bind (wpAny_newObj_type (wpAny_pure ⟨plainId_quiet F.plain_list_iadd _, codeAny_builtin F.entry_list_iadd ?_⟩))
  rw [Around.under_plainId F.plain_list_iadd _]
  have up : ∀ b u, s.heap.get? b = some u → (s.heap.push { cls := .type "list", data := .seq ([] : List Value).toArray }).get? b = some u := fun b u e => Heap.get?_push_of_some _ e
  have hL : (s.heap.push { cls := .type "list", data := .seq ([] : List Value).toArray }).get? s.heap.objs.size = some { cls := .type "list", data := .seq #[] } := Heap.get?_push_size _ rfl
  have zty : ({ s with heap := s.heap.push { cls := .type "list", data := .seq ([] : List Value).toArray } } : Shared).TypeIs (.ref z) "zip" := ⟨_, up _ _ hz, rfl⟩
  have e1 : Builtin.List.listSameRef (.ref s.heap.objs.size) (.ref z) = false := by simp [Builtin.List.listSameRef, Nat.ne_of_gt zl]
  have e2 : (Value.type "zip" == Value.type "list") = false := by decide
  have e3 : (Value.type "zip" == Value.type "tuple") = false := by decide
  show wpAny _ A.in1 (Builtin.List.listExtendWith (.ref s.heap.objs.size) (.ref z) (.ref s.heap.objs.size)) _ _ _
  unfold Builtin.List.listExtendWith
  refine wpAny_bind (wpAny_typeOf zty ?_)
  simp only [e1, e2, e3, Bool.or_false, Bool.false_eq_true, if_false]
  refine wpAny_bind (wpAny_pyIter_zip (up _ _ hz) (wpAny_bind (wpAny_holding ?_)))
  unfold Builtin.List.listLengthHint
  refine wpAny_bind (wpAny_specialOf zty zip_nolen ?_)
  show wpAny _ A.in1 (specialOf (Value.ref z) (Str.ofString "__length_hint__") >>= _) _ _ _
  refine wpAny_bind (wpAny_specialOf zty zip_nohint (wpAny_pure ?_))
  show wpAny _ A.in1 (rule "list.extend.makes-room" >>= fun _ => Builtin.List.listTouch (.ref s.heap.objs.size) >>= fun _ =>
    again (.builtin "list.extend.loop" ⟨[.ref s.heap.objs.size, .ref z, .ref s.heap.objs.size], []⟩)) _ _ _
  refine wpAny_bind (wpAny_rule (wpAny_bind ?_))
  show wpAny _ A.in1 (updateSeq s.heap.objs.size (·.push .none) >>= fun _ => updateSeq s.heap.objs.size (·.pop)) _ _ _
  refine wpAny_bind (wpAny_updateSeq hL rfl ?_)
  have hL2 := Heap.get?_update_self (Obj.mapSeq (·.push Value.none)) hL rfl
  refine wpAny_updateSeq hL2 rfl ?_
  have hL3 := Heap.get?_update_self (Obj.mapSeq (·.pop)) hL2 rfl
  have oth : ∀ b u, b ≠ s.heap.objs.size → (s.heap.push { cls := .type "list", data := .seq ([] : List Value).toArray }).get? b = some u →
      (((s.heap.push { cls := .type "list", data := .seq ([] : List Value).toArray }).update s.heap.objs.size (Obj.mapSeq (·.push Value.none))).update s.heap.objs.size (Obj.mapSeq (·.pop))).get? b = some u :=
    fun b u hb e => (Heap.get?_update_other _ _ (Ne.symm hb)).trans ((Heap.get?_update_other _ _ (Ne.symm hb)).trans e)
  have old : ∀ b u, s.heap.get? b = some u → (((s.heap.push { cls := .type "list", data := .seq ([] : List Value).toArray }).update s.heap.objs.size (Obj.mapSeq (·.push Value.none))).update s.heap.objs.size (Obj.mapSeq (·.pop))).get? b = some u :=
    fun b u e => oth b u (Nat.ne_of_lt (Heap.lt_size e)) (up b u e)
  have esz : (((s.heap.push { cls := .type "list", data := .seq ([] : List Value).toArray }).update s.heap.objs.size (Obj.mapSeq (·.push Value.none))).update s.heap.objs.size (Obj.mapSeq (·.pop))).objs.size = s.heap.objs.size + 1 := by
    rw [(Heap.SameBut.update _ _ _).1, (Heap.SameBut.update _ _ _).1, Heap.size_push]
  refine wpAny_pure ⟨plainId_quiet F.plain_extend_loop _, z_loop (X := X) (pins := pins) (σ := σ) (s := s) (xs := xs) (ys := ys) (H0 := H0) S rx ry D1 D2 (nm l1) (nm l2) (Nat.ne_of_lt Tl) (Nat.ne_of_lt zl) (Nat.ne_of_lt Ol) hn hfit _
    (fun h tk Hc acc c as G => ?_) n 0 _ s.toks H0 #[] _ [] (Nat.sub_zero _) (Nat.zero_le _) ⟨I.kept (t' := s.toks) old, hL3, rfl, rfl, fun b hb => ?_, fun _ _ e => e, fun j a x y ha => by cases ha⟩ ⟨old _ _ hTI, D1.frame _ _ _ st1 fun b _ u e => old b u e, D2.frame _ _ _ st2 fun b _ u e => old b u e, .inl ⟨old _ _ hz, ?_⟩⟩ fun b hb => ?_⟩
  · show wpAny _ A (load s.heap.objs.size >>= _) _ _ _
    refine wpAny_bind (wpAny_load G.lst (wpAny_pure ?_))
    show Q acc.toList _
    rw [G.acc]
    exact hq h tk Hc as G.inv G.len G.same G.good
  · by_cases e : b = s.heap.objs.size
    · rw [e]
      exact I.fpOk (Nat.le_refl _) (I.hok.fresh (Nat.le_refl _))
    · exact fp0 b (by
        have q : b = z ∨ b = TO ∨ b = i1 ∨ b = i2 ∨ b = s.heap.objs.size := by simpa using hb
        rcases q with q | q | q | q | q
        · simp [q]
        · simp [q]
        · simp [q]
        · simp [q]
        · exact absurd q e)
  · obtain ⟨a, b, q⟩ := hTO
    exact ⟨a, b, old _ _ q⟩
  · rw [esz]
    have q : b = z ∨ b = TO ∨ b = i1 ∨ b = i2 ∨ b = s.heap.objs.size := by simpa using hb
    rcases q with q | q | q | q | q
    · rw [q]; exact Nat.lt_succ_of_lt zl
    · rw [q]; exact Nat.lt_succ_of_lt Ol
    · rw [q]; exact Nat.lt_succ_of_lt (l1 _ S.mem1)
    · rw [q]; exact Nat.lt_succ_of_lt (l2 _ S.mem2)
    · rw [q]; exact Nat.lt_succ_self _
end
end CS
namespace CS
open PySem PySem.Spec PyProof.Rows L2
section
variable {prog : Program} {w : World} {A : Around} {E : Value → Shared → Prop} {s : Shared}
/-- what collecting an object gives, as lists of values -/
def Coll (prog : Program) (w : World) (A : Around) (s : Shared) (z : Addr) (G : Heap → Nat → List Value → Prop) : Prop :=
  ∀ (E : Value → Shared → Prop) (Q : List Value → Shared → Prop), (∀ h tk vs, G h tk vs → Q vs { s with heap := h, toks := tk }) → wpAny (model prog w) A (collect (.ref z)) Q E s
theorem tupcoll_code {Q₁ : Value → Shared → Prop} {z : Addr} {G : Heap → Nat → List Value → Prop} (hT : s.TypeIs (.ref z) "zip") (C : Coll prog w A.in1 s z G) (hfit : ∀ h tk vs, G h tk vs → vs.length ≤ sizeLine)
    (hq : ∀ h tk vs, G h tk vs → Q₁ (.ref h.objs.size) { s with heap := h.push { cls := .type "tuple", data := .seq vs.toArray }, toks := tk }) :
    codeAny (model prog w) A (.call (.builtin "tuple.__new__") ⟨[.type "tuple", .ref z], []⟩) (wants Q₁ E) s := by
  refine codeAny_of_tree ?_
  show wpAny _ A.in1 (do checkBuiltinCall "tuple.__new__" ⟨[.type "tuple", .ref z], []⟩; again (.builtin "tuple.__new__" ⟨[.type "tuple", .ref z], []⟩)) _ _ s
  refine wpAny_bind (wpAny_of_eq (F.newCall_tuple_1 _) (wpAny_pure ⟨plainId_quiet F.plain_tuple_new _, codeAny_builtin F.entry_tuple_new ?_⟩))
  rw [Around.under_plainId F.plain_tuple_new _]
  have q1 := sub_tuple_self
  have q2 := init_tuple_lookup
  have q3 := madeHere_tuple
  have cc : ∀ {E : Value → Shared → Prop} {Q : List Value → Shared → Prop}, (∀ h tk vs, G h tk vs → Q vs { s with heap := h, toks := tk }) → wpAny (model prog w) A.in1 (collect (.ref z)) Q E s := fun h => C _ _ h
  wp_walk using wpAny_typeOf hT, cc
  intro h tk vs g
  show wpAny _ _ (Builtin.Tuple.tupleExact vs.toArray >>= fun v => ret v) _ _ _
  unfold Builtin.Tuple.tupleExact
  refine wpAny_bind (wpAny_newObj_type (wpAny_pure ?_) (by show vs.toArray.size ≤ sizeLine; rw [List.size_toArray]; exact hfit h tk vs g))
  exact hq h tk vs g
theorem tupcoll_call {Q : Value → Shared → Prop} {z : Addr} {G : Heap → Nat → List Value → Prop} (hT : s.TypeIs (.ref z) "zip") (C : Coll prog w A.in1.in1 s z G) (hfit : ∀ h tk vs, G h tk vs → vs.length ≤ sizeLine)
    (hq : ∀ h tk vs, G h tk vs → Q (.ref h.objs.size) { s with heap := h.push { cls := .type "tuple", data := .seq vs.toArray }, toks := tk }) :
    wpAny (model prog w) A (call (.type "tuple") [.ref z]) Q E s := by
  refine callType_codes (Q₁ := fun obj s₁ => s₁.TypeIs obj "tuple" ∧ Q obj s₁) F.called_tuple (F.typeCall_tuple_1 _) F.entry_object_init (tupcoll_code (A := A.in1) hT C hfit fun h tk vs g => ⟨⟨_, Heap.get?_push_size _ rfl, rfl⟩, hq h tk vs g⟩) fun obj s₁ h₁ => ?_
  exact ⟨h₁.1, F.args_object_init_2 obj _, object_init_meets F.called_tuple.init.lookup F.called_tuple.made (by decide) prog w A.in1 _ s₁ ⟨h₁.1, rfl, h₁.2⟩⟩
end
section
variable {X : Cx}
/-- tuple(zip(x, y)), x and y both lists or both tuples: a new tuple of new pairs -/
def tTupZip (K : PySem.W.Frag) (ta : TA) : TE := fun σ H Q => ta σ H fun vs H1 => ∃ (a b : Addr) (xs ys : List V), vs = [.ref a, .ref b] ∧ ((SqT K H1 a xs ∧ SqT K H1 b ys) ∨ (SqL K H1 a xs ∧ SqL K H1 b ys)) ∧
  ∀ (Hc : Hp) (p : Addr) (as : List Addr), Same H1 Hc → as.length = min xs.length ys.length → PairsAt xs ys as Hc → Hc p = none → Q (.ref p) (upd Hc p (.tup (as.map V.ref)))
theorem lt_of_tuple {s : Shared} {a : Addr} {its : Array Value} (p : IsTup s.heap a its) : a < s.heap.objs.size := by
  obtain ⟨u, hu, _⟩ := p
  exact Heap.lt_size hu
theorem lt_of_plain {s : Shared} {a : Addr} {its : Array Value} (p : PlainL s.heap a its) : a < s.heap.objs.size := p.lt
theorem pe_tupZip {e e2 : Expr} {ta : TA} {p p2 pos q2 : Pos} (gT : Gl X "tuple") (mT : X.mg "tuple" = none) (gZ : Gl X "zip") (mZ : X.mg "zip" = none) (ha : PA X [e, e2] ta) (hc : X.calm = true := by rfl)
    (na : starEach [.Call (.Name "zip" p2) [e, e2] [] q2] X.env = (false, eval (.Call (.Name "zip" p2) [e, e2] [] q2) X.env) :: starEach [] X.env := by rfl)
    (hs : starEach [e, e2] X.env = (false, eval e X.env) :: starEach [e2] X.env := by rfl) (hpl : (backTo q2 (starEach [e2] X.env)).any (·.1) = false := by rfl) :
    PE X (.Call (.Name "tuple" p) [.Call (.Name "zip" p2) [e, e2] [] q2] [] pos) (tTupZip X.K ta) := by
  refine ⟨fun pins s0 σ H0 Q I0 hw => ?_⟩
  refine Call_ (ld_blt I0 gT mT boot_tuple (PyProof.Rows.callWith_type1 (PyProof.Rows.args_cons ?_ na) na))
  refine Call_ (ld_blt I0 gZ mZ PyProof.Rows.boot_zip (PyProof.Rows.callWith_type1 (thn (ha.run q2 pins s0 σ H0 _ I0 hw) fun us s1 ⟨vs, H1, I1, r1, q1⟩ => ?_) hs hpl))
  obtain ⟨a, b, xs, ys, rfl, hsq, q⟩ := q1
  obtain ⟨u1, u2, rfl, ra, rb⟩ := vals2 r1
  cases ra
  cases rb
  have hh : X.A.handled = none := I1.ok.hd hc
  have key : ∀ (o1 o2 : Obj) (F1 F2 : Heap → Prop) (its1 its2 : List Value) (St1 St2 : Nat → Heap → Prop), Begins (.ref a) o1 F1 → Begins (.ref b) o2 F2 → F1 s1.heap → F2 s1.heap → Vals xs its1 → Vals ys its2 → xs.length ≤ sizeLine → a < s1.heap.objs.size → b < s1.heap.objs.size →
      Draws X.prog X.w X.A.in1.in1.in1.in1 s1.heap.objs.size [s1.heap.objs.size, a] xs.length (fun j v => its1[j]? = some v) St1 → Draws X.prog X.w X.A.in1.in1.in1.in1 (s1.heap.objs.size + 1) [s1.heap.objs.size + 1, b] ys.length (fun j v => its2[j]? = some v) St2 →
      (∀ h', h'.get? s1.heap.objs.size = some o1 → (∀ c u, s1.heap.get? c = some u → h'.get? c = some u) → St1 0 h') → (∀ h', h'.get? (s1.heap.objs.size + 1) = some o2 → (∀ c u, s1.heap.get? c = some u → h'.get? c = some u) → St2 0 h') →
      wpAny (model X.prog X.w) X.A (call (.type "zip") [.ref a, .ref b]) (fun v s' => wpAny (model X.prog X.w) X.A (spliced (backTo pos (starEach [] X.env))) (fun vs s'' => wpAny (model X.prog X.w) X.A (call (.type "tuple") (v :: vs)) (EP X pins σ Q) X.xe s'') X.xe s') X.xe s1 := by
    intro o1 o2 F1 F2 its1 its2 St1 St2 B1 B2 f1 f2 rx ry hz al bl D1 D2 k1 k2
    refine zip_begins2 B1 B2 f1 f2 fun h' hzp hTI hTO g1 g2 hsz hk => ?_
    refine PyProof.Rows.args_nil ?_
    have I2 : Inv X pins σ H1 { s1 with heap := h' } := I1.kept (t' := s1.toks) hk
    have S := zip_sep2 (N := s1.heap.objs.size) (fp1 := [a]) (fp2 := [b]) (fun c hc => by rw [List.mem_singleton.mp hc]; exact al) (fun c hc => by rw [List.mem_singleton.mp hc]; exact bl)
    refine tupcoll_call (s := { s1 with heap := h' }) (G := fun h tk vs => ∃ Hc as, vs = as.map Value.ref ∧ Inv X pins σ Hc { s1 with heap := h, toks := tk } ∧ as.length = min xs.length ys.length ∧ Same H1 Hc ∧ PairsAt xs ys as Hc) ⟨_, hzp, rfl⟩
      (fun E' Q' hQ' => z_collect (A := X.A.in1.in1) (s := { s1 with heap := h' }) (pins := pins) (σ := σ) (n := min xs.length ys.length) S rx ry D1 D2 rfl (by omega) I2 hzp hTI ⟨_, _, hTO⟩ (k1 h' g1 hk) (k2 h' g2 hk) ?_ ?_ ?_ fun h tk Hc as J l sm pr => hQ' h tk _ ⟨Hc, as, rfl, J, l, sm, pr⟩)
      ?_ ?_
    · intro c hc
      have hc' : c = s1.heap.objs.size ∨ c = a := by simpa using hc
      show c < h'.objs.size
      rw [hsz]
      rcases hc' with e | e
      · rw [e]; exact Nat.lt_add_of_pos_right (by decide)
      · rw [e]; exact Nat.lt_of_lt_of_le al (Nat.le_add_right _ _)
    · intro c hc
      have hc' : c = s1.heap.objs.size + 1 ∨ c = b := by simpa using hc
      show c < h'.objs.size
      rw [hsz]
      rcases hc' with e | e
      · rw [e]; exact Nat.add_lt_add_left (by decide) _
      · rw [e]; exact Nat.lt_of_lt_of_le bl (Nat.le_add_right _ _)
    · intro c hc
      have hle : s1.heap.objs.size ≤ c := by
        have hc' : c = s1.heap.objs.size + 4 ∨ c = s1.heap.objs.size + 3 ∨ c = s1.heap.objs.size ∨ c = s1.heap.objs.size + 1 := by simpa using hc
        rcases hc' with e | e | e | e
        · rw [e]; exact Nat.le_add_right _ _
        · rw [e]; exact Nat.le_add_right _ _
        · rw [e]; exact Nat.le_refl _
        · rw [e]; exact Nat.le_add_right _ _
      exact I1.fpOk hle (I1.hok.fresh hle)
    · rintro h tk vs ⟨Hc, as, rfl, _, l, _, _⟩
      rw [List.length_map, l]
      omega
    · rintro h tk vs ⟨Hc, as, rfl, J, l, sm, pr⟩
      have rvs : Vals (as.map V.ref) (as.map Value.ref) := by
        clear l pr
        induction as with
        | nil => exact .nil
        | cons x t ih => exact .cons rfl ih
      refine ⟨.ref h.objs.size, upd Hc h.objs.size (.tup (as.map V.ref)), J.laid (s := { s1 with heap := h, toks := tk }) (t' := tk) (fun c u e => Heap.get?_push_of_some _ e) (Nat.le_refl _) ?_, rfl, q Hc _ as sm l pr (J.hok.fresh (Nat.le_refl _))⟩
      exact ⟨by rw [List.length_map, l]; omega, _, rvs, IsTup.new _ _⟩
  rcases hsq with ⟨hx, hy⟩ | ⟨hx, hy⟩
  · obtain ⟨its1, rx, px, hzx⟩ := I1.tuple hx
    obtain ⟨its2, ry, py, hzy⟩ := I1.tuple hy
    have ax := lt_of_tuple px
    have ay := lt_of_tuple py
    have D1 := Draws.tuple (prog := X.prog) (w := X.w) (A := X.A.in1.in1.in1.in1) hh s1.heap.objs.size a (Nat.ne_of_lt ax) its1.toArray
    have D2 := Draws.tuple (prog := X.prog) (w := X.w) (A := X.A.in1.in1.in1.in1) hh (s1.heap.objs.size + 1) b (Nat.ne_of_lt (Nat.lt_succ_of_lt ay)) its2.toArray
    have e1 : its1.toArray.size = xs.length := by rw [List.size_toArray]; exact rx.length.symm
    have e2 : its2.toArray.size = ys.length := by rw [List.size_toArray]; exact ry.length.symm
    rw [e1] at D1
    rw [e2] at D2
    simp only [List.getElem?_toArray] at D1 D2
    exact key _ _ _ _ its1 its2 _ _ (begins_tuple a its1.toArray) (begins_tuple b its2.toArray) px py rx ry hzx ax ay D1 D2 (fun h' g k => ⟨⟨_, g, rfl, rfl⟩, (show s1.heap.IsTuple a its1.toArray from px).at fun u e => k _ u e⟩) (fun h' g k => ⟨⟨_, g, rfl, rfl⟩, (show s1.heap.IsTuple b its2.toArray from py).at fun u e => k _ u e⟩)
  · obtain ⟨its1, rx, px, hzx⟩ := I1.list hx
    obtain ⟨its2, ry, py, hzy⟩ := I1.list hy
    have ax := lt_of_plain px
    have ay := lt_of_plain py
    have D1 := Draws.list (prog := X.prog) (w := X.w) (A := X.A.in1.in1.in1.in1) hh s1.heap.objs.size a (Nat.ne_of_lt ax) its1.toArray
    have D2 := Draws.list (prog := X.prog) (w := X.w) (A := X.A.in1.in1.in1.in1) hh (s1.heap.objs.size + 1) b (Nat.ne_of_lt (Nat.lt_succ_of_lt ay)) its2.toArray
    have e1 : its1.toArray.size = xs.length := by rw [List.size_toArray]; exact rx.length.symm
    have e2 : its2.toArray.size = ys.length := by rw [List.size_toArray]; exact ry.length.symm
    rw [e1] at D1
    rw [e2] at D2
    simp only [List.getElem?_toArray] at D1 D2
    exact key _ _ _ _ its1 its2 _ _ (begins_list a its1.toArray) (begins_list b its2.toArray) px.isList py.isList rx ry hzx ax ay D1 D2 (fun h' g k => ⟨⟨_, g, rfl, rfl⟩, px.isList.at fun u e => k _ u e⟩) (fun h' g k => ⟨⟨_, g, rfl, rfl⟩, py.isList.at fun u e => k _ u e⟩)
end
end CS
set_option maxHeartbeats 4000000
namespace CS
open PySem PySem.Spec PyProof.Rows L2
/-! ### defs that are called where no repr is under way -/
structure FnG (P : Program) (w : World) (K : PySem.W.Frag) (mg : Str → Option Value) (base : Heap) (k : Nat) (f : Addr) (fd : FuncData) (ps : List Str) (sp : Sp) : Prop where
  len : ∀ vs H Q E, sp vs H Q E → vs.length = ps.length
  run : ∀ (A : Around) (outer : List Env) (s : Shared) (H : Hp) (args : Args) (us : List Value) (vs : List V) (Q : VK) (E : XK), A.guards = some [] → Room k A → Env0 P w K mg base A outer s H → BindsTo s fd args (ps.zip us) → Vals vs us → sp vs H Q E →
    codeAny (model P w) A (.call (.ref f) args) (CR CX0 outer P w H s Q E) s
section
variable {K : PySem.W.Frag} {P : Program} {w : World} {mg : Str → Option Value} {base : Heap}
theorem fnG_mk {x qual : Str} {st : Stmt} {f : Addr} {fd : FuncData} {N ps : List Str} {k : Nat} {sp : Sp} (F : Fun K x qual st f fd) (S : FnScope N ps (defScope st)) (len : ∀ vs H Q E, sp vs H Q E → vs.length = ps.length)
    (body : ∀ (cdv : Value) (A : Around) (outer : List Env) (s : Shared) (H : Hp) (vs : List V) (Q : VK) (E : XK), (A.deeper (envOfC qual (defScope st) s.heap.objs.size f cdv)).guards = some [] → Room k (A.deeper (envOfC qual (defScope st) s.heap.objs.size f cdv)) → sp vs H Q E →
      ∃ t, PSs (cxOf CX0 P w K mg base N qual (defScope st) f cdv A outer s H E).nox (defBody st) t ∧ t { nx := fun _ H' => Q .non H', rt := Q } (start N vs) H) : FnG P w K mg base (k + 1) f fd ps sp := by
  obtain ⟨oc, od, kV, doc, pm, an, cdv, ct, osl, rfl, lk, hcd⟩ := F.ex
  refine ⟨len, fun A outer s H args us vs Q E hg hr e0 hb rv hsp => ?_⟩
  have ll := len _ _ _ _ hsp
  have kin : K.In s.heap := e0.mod.kin.keeps fun b o e => (e0.bs b o e).1
  have nl : s.heap.NoLimit := e0.mod.nolimit.keeps fun b o e => (e0.bs b o e).1
  have kinds : ∀ y ∈ ps.zip us, (defScope st).names.lookup y.1 = some .local ∨ ((defScope st).names.lookup y.1 = some .cell ∧ ((cellsFrom (s.heap.objs.size + 1) (defScope st).names []).lookup y.1).isSome = true) := by
    rintro ⟨n, v⟩ hy
    rcases S.par n (List.of_mem_zip hy).1 with z | z
    · exact .inl z
    · exact .inr ⟨z, PySem.W.cellsFrom_some _ _ _ (.inl z)⟩
  refine codeAny_call_function hr.depth (kin _ _ lk) rfl S.co S.gen rfl (PySem.W.codeRec_of kin hcd) (hb _ _ _ _ ?_)
  refine wpAny_newFunctionEnv_cells S.kind kinds fun env he s1 x => ?_
  subst he
  refine ⟨nl.keeps x.toInCall.keep, codeAny_func ?_⟩
  obtain ⟨t, ht, hq⟩ := body cdv A outer s H vs Q E hg (hr.deeper _) hsp
  have J := inv_start (CX := CX0) (E := E) S hr.hd e0 ll rv x
  refine wpAny_mono (ht.nox.run [] s1 (start N vs) H _ J hq) (fun fl s' z => ?_) fun e s' z => z
  have out : ∀ (σ' : L2.St) (H' : Hp) (v : V) (u : Value), Inv (cxOf CX0 P w K mg base N qual (defScope st) f cdv A outer s H E) [] σ' H' s' → RelV v u → Q v H' → CE outer P w H s Q u s' := fun σ' H' v u J rv q => ⟨v, H', J.os, J.bare, J.base, J.hok, rv, q⟩
  cases fl with
  | ret u =>
    obtain ⟨v, σ', H', J, rv, q⟩ := z
    exact out σ' H' v u J rv q
  | next =>
    obtain ⟨σ', H', J, q⟩ := z
    exact out σ' H' V.non Value.none J rfl q
  | brk => exact z.elim fun _ z => z.elim fun _ z => z.2.elim
  | cont => exact z.elim fun _ z => z.elim fun _ z => z.2.elim
theorem FnG.of {CX : CXT} {k : Nat} {f : Addr} {fd : FuncData} {ps : List Str} {sp : Sp} (F : FnOk P w K mg base CX0 k f fd ps sp) : FnG P w K mg base k f fd ps sp := ⟨F.len, fun A outer s H args us vs Q E _ => F.run A outer s H args us vs Q E⟩
theorem FnG.up {j k : Nat} {f : Addr} {fd : FuncData} {ps : List Str} {sp : Sp} (F : FnG P w K mg base j f fd ps sp) (h : j ≤ k) : FnG P w K mg base k f fd ps sp := ⟨F.len, fun A outer s H args us vs Q E hg hr => F.run A outer s H args us vs Q E hg (hr.mono h)⟩
end
section
variable {X : Cx} {k : Nat} {f : Addr} {fd : FuncData} {ps : List Str} {sp : Sp} {E : XK} {x : Str} {p pos : Pos} {e : Expr} {es : List Expr} {t : TA}
theorem pe_callG (F : FnG X.prog X.w X.K X.mg X.base k f fd ps sp) (gd : X.A.guards = some []) (hr : Room k X.A) (hg : Gl X x) (hm : X.mg x = some (.ref f)) (hk : PySem.W.keepIn X.K (.ref f) = true) (hb : Binds X.K fd ps [])
    (ha : PA X (e :: es) t) (hdb : (x == ("__debug__" : Str)) = false := by decide) (he : starEach (e :: es) X.env = (false, eval e X.env) :: starEach es X.env := by rfl) (hpl : (backTo pos (starEach es X.env)).any (·.1) = false := by rfl) :
    PE X (.Call (.Name x p) (e :: es) [] pos) (tCall sp [] E t) := by
  refine ⟨fun pins s0 σ H0 Q I0 hw => wpAny_Call_Name_kw (ld_glob I0 hg hm ?_ hdb)⟩
  refine PySem.W.callWith_K (h₀ := X.base) I0.ok.mod.kin hk (thn (ha.run pos pins s0 σ H0 _ I0 hw) fun us s1 z => ?_) he hpl
  obtain ⟨vs, H1, I1, rv, q⟩ := z
  refine ⟨I1.kIn, ?_⟩
  have q' : sp vs H1 Q E := by
    have z : sp (vs ++ []) H1 Q E := q
    rw [List.append_nil] at z
    exact z
  have ll : us.length = ps.length := by
    rw [← rv.length]
    exact F.len _ _ _ _ q'
  have bb := hb s1 us I1.kIn (by rw [List.append_nil]; exact ll)
  rw [List.append_nil] at bb
  refine wpAny_call (codeAny_mono (F.run X.A X.stack s1 H1 ⟨us, []⟩ us vs Q E gd hr I1.env0 bb rv q') fun r s' z => ?_)
  cases r with
  | error e => exact False.elim z
  | ok fl =>
    cases fl with
    | ret u => exact I1.after z
    | next => exact z.elim
    | brk => exact z.elim
    | cont => exact z.elim
/-- repr(x), x a list or a tuple of data -/
def rRepr (K : PySem.W.Frag) : List V → Hp → VK → Prop := fun xs H Q => ∃ (a : Addr) (d : PyData), xs = [.ref a] ∧ Dp K H (.ref a) d ∧ d.showable = true ∧ d.hasDict = false ∧ d.shown.length ≤ sizeLine ∧ d.depth ≤ 60 ∧ Q (.str d.shown) H
theorem call_reprD (hu : X.A.units + 64 < cLine) (gd : X.A.guards = some []) : CallR X (.builtin "repr") (rRepr X.K) := by
  intro pins s σ H xs us Q I r h
  obtain ⟨a, d, rfl, hd, hs, hn, hz, hp, q⟩ := h
  obtain ⟨u, rfl, ru⟩ := vals1 r
  obtain rfl : u = Value.ref a := ru
  obtain ⟨as, rd⟩ := Dp.reads I d (.ref a) (.ref a) hd rfl
  exact repr_of_reads' rd hs (fun z => by rw [hn] at z; cases z) gd (by omega) (fun _ _ e => e) (fun h' u tk kp => ⟨.str d.shown, H, I.kept kp, ⟨u, rfl⟩, q⟩) hz
end
end CS
set_option maxHeartbeats 4000000
namespace CS
open PySem PySem.Spec PyProof.Rows L2
section
variable {P : Program} {w : World} {K : PySem.W.Frag} {mg mb : Str → Option Value} {k : Nat} {fa a : Addr} {fd : FuncData} {x : Str} {sp : Sp} {s1 : Shared} {vs : List Value} {ns : List Int}
/-- what a law's call must tell -/
def LawEnds (P : Program) (w : World) (fa a : Addr) (s1 : Shared) : Prop :=
  codeAny (model P w) callerA (.call (.ref fa) ⟨[.ref a], []⟩) (fun r s' => r = .ok (.ret (.bool true)) ∧ OldK s1.heap s'.heap ∧ s'.os = s1.os ∧ AllBare s'.gens) s1
/-- from a tracked heap that knows the script at most -/
theorem law_from {H : Hp} (kin : K.In s1.heap) (gl : s1.heap.Ns mainGlobals mg) (bt : s1.heap.Ns builtinsNs mb) (bb : ∀ y : Str, y ≠ "__name__" → mb y = bootBuiltins y) (nl : s1.heap.NoLimit) (gz : s1.gens = #[])
    (lst : ∃ (its : Array Value) (n : Nat), s1.heap.get? a = some { cls := .type "list", data := .seq its n }) (room : Room k callerA)
    (F : ∀ base : Heap, K.In base → base.Ns mainGlobals mg → FnG P w K mg base k fa fd [x] sp) (bind : ∀ (s : Shared) (u : Value), BindsTo s fd ⟨[u], []⟩ [(x, u)])
    (ok : HOk P w H s1.heap) (only : ∀ b, H b = none ∨ ∃ o xs, H b = some (.frz o (.lst xs))) (at1 : ∀ b, H b ≠ none → b = a) (out : H a ≠ none → K.lookup a = none) (hs : sp [.ref a] H (fun v _ => v = .bl true) fun _ _ _ => False) : LawEnds P w fa a s1 := by
  have keep : ∀ (b : Addr) (o : Obj), s1.heap.get? b = some o → H b = none → (hidT s1.heap H).get? b = some o := fun b o e n => hidT_get e n
  have free : ∀ (b : Addr) (o : Obj) (es : Array DictEntry) (ep : Nat), s1.heap.get? b = some o → o.data = .dict es ep → H b = none := by
    intro b o es ep e d
    refine Classical.byContradiction fun z => ?_
    have eb := at1 b z
    obtain ⟨its, n, el⟩ := lst
    rw [eb, el] at e
    have eo := Option.some.inj e
    subst eo
    cases d
  have names : ∀ (b : Addr) (m : Str → Option Value), s1.heap.Ns b m → (hidT s1.heap H).Ns b m := by
    rintro b m ⟨o, es, ep, e, d, r⟩
    exact ⟨o, es, ep, keep b o e (free b o es ep e d), d, r⟩
  have kin2 : K.In (hidT s1.heap H) := by
    intro b o e
    refine keep b o (kin b o e) (Classical.byContradiction fun z => ?_)
    have eb := at1 b z
    rw [eb] at z e
    rw [out z] at e
    cases e
  have M : Mod K mg (hidT s1.heap H) := ⟨kin2, names _ _ gl, ⟨mb, names _ _ bt, bb⟩, by
    obtain ⟨mc, h1, h2⟩ := nl
    exact ⟨mc, names _ _ h1, h2⟩⟩
  have E0 : Env0 P w K mg (hidT s1.heap H) callerA [] s1 H := {
    frames := rfl
    mod := M
    bs := fun b o e => of_hidT e
    bsz := Nat.le_of_eq (hidT_size _ _)
    funs := trivial
    frf := fun b z => by cases z
    hok := ok
    bare := .of_eq gz }
  have run := (F _ kin2 (names _ _ gl)).run callerA [] s1 H ⟨[.ref a], []⟩ [.ref a] [.ref a] _ _ rfl room E0 (bind s1 (.ref a)) (.cons rfl .nil) hs
  refine codeAny_mono run fun r s' z => ?_
  match r, z with
  | .ok (.ret u), z =>
    obtain ⟨v, H', os, bare, un, ok2, rv, ev⟩ := z
    have ev' : v = .bl true := ev
    rw [ev'] at rv
    have eu : u = Value.bool true := rv
    refine ⟨by rw [eu], OldK.of_keep fun b o e => ?_, os, bare⟩
    rcases only b with n | ⟨o2, xs, y⟩
    · exact un.keep b o e n (fun z => by cases z) (by simp)
    · have y2 := un.frzs b o2 _ y
      have g1 := (ok b _ y).1
      have g2 := (ok2 b _ y2).1
      rw [e] at g1
      rw [g2, ← Option.some.inj g1]
  | .ok .next, z => exact z.elim
  | .ok .brk, z => exact z.elim
  | .ok .cont, z => exact z.elim
  | .error e, z => exact False.elim z
theorem law_callG (kin : K.In s1.heap) (gl : s1.heap.Ns mainGlobals mg) (bt : s1.heap.Ns builtinsNs mb) (bb : ∀ y : Str, y ≠ "__name__" → mb y = bootBuiltins y) (nl : s1.heap.NoLimit) (gz : s1.gens = #[])
    (ha : s1.heap.get? a = some { cls := .type "list", data := .seq vs.toArray }) (hi : IntsAre vs ns) (hl : ns.length ≤ sizeLine) (room : Room k callerA)
    (F : ∀ base : Heap, K.In base → base.Ns mainGlobals mg → FnG P w K mg base k fa fd [x] sp) (bind : ∀ (s : Shared) (u : Value), BindsTo s fd ⟨[u], []⟩ [(x, u)])
    (hs : ∀ H : Hp, SqL K H a (ns.map V.int) → sp [.ref a] H (fun v _ => v = .bl true) fun _ _ _ => False) : LawEnds P w fa a s1 := by
  have rv := vals_ints hi
  have ll : vs.length = ns.length := hi.length
  cases hk : K.lookup a with
  | some o =>
    have e := kin a o hk
    rw [ha] at e
    have eo := Option.some.inj e
    subst eo
    refine law_from (H := fun _ => none) kin gl bt bb nl gz ⟨_, _, ha⟩ room F bind (fun b u z => ?_) (fun b => .inl rfl) (fun b z => absurd rfl z) (fun z => absurd rfl z) (hs _ (.inr ⟨_, vs.toArray, _, hk, rfl, rfl, rfl, ?_, by simpa using rv⟩))
    · have z' : (none : Option HO) = some u := z
      cases z'
    · rw [List.size_toArray, ll]
      exact hl
  | none =>
    obtain ⟨H, eH⟩ : ∃ H : Hp, H = fun b => if b = a then some (.frz { cls := .type "list", data := .seq vs.toArray } (.lst (ns.map V.int))) else none := ⟨_, rfl⟩
    have h1 : H a = some (.frz { cls := .type "list", data := .seq vs.toArray } (.lst (ns.map V.int))) := by
      rw [eH]
      exact if_pos rfl
    have h2 : ∀ b, b ≠ a → H b = none := fun b n => by
      rw [eH]
      exact if_neg n
    refine law_from (H := H) kin gl bt bb nl gz ⟨_, _, ha⟩ room F bind (fun b u z => ?_) (fun b => ?_) (fun b z => ?_) (fun _ => hk) (hs _ (.inl (.inr ⟨_, h1⟩)))
    · by_cases n : b = a
      · rw [n, h1] at z
        have eu := Option.some.inj z
        subst eu
        rw [n]
        exact ⟨ha, by rw [List.length_map]; exact hl, vs, _, rv, ha⟩
      · rw [h2 b n] at z
        cases z
    · by_cases n : b = a
      · exact .inr ⟨_, _, by rw [n]; exact h1⟩
      · exact .inl (h2 b n)
    · exact Classical.byContradiction fun n => z (h2 b n)
end
theorem walk_ofG {l : PySem.W.OpenLaw} {n k : Nat} {q : Program} {loose : List Str} {XP : (Str → Option Value) → Heap → Prop} {YP : World → Heap → Prop} {d : DefRec} {K : Params → PySem.W.Frag} {sp : World → Sp} {x : Str}
    (hn : l.most = some n) (hn2 : n ≤ sizeLine) (hdf : d.params.defaults = []) (room : Room k callerA) (hY : ∀ (w : World) (h : Heap), YP w h → (K w.params).In h)
    (F : ∀ (w : World) (mg : Str → Option Value) (fa : Addr) (h : Heap), (K w.params).In h → h.Ns mainGlobals mg → mg d.name = some (.ref fa) →
      ∃ fd : FuncData, (∀ (s : Shared) (u : Value), BindsTo s fd ⟨[u], []⟩ [(x, u)]) ∧ ∀ base : Heap, (K w.params).In base → base.Ns mainGlobals mg → FnG l.prog w (K w.params) mg base k fa fd [x] (sp w))
    (hs : ∀ (w : World) (H : Hp) (a : Addr) (ns : List Int), ns.length ≤ n → SqL (K w.params) H a (ns.map V.int) → sp w [.ref a] H (fun v _ => v = .bl true) fun _ _ _ => False) :
    PySem.W.WalkO q loose XP YP l.row.toRowW d [] (fun f vs => PySem.call f vs) := by
  refine Att.attach_call hn hdf fun w _ s1 mg _ fa _ _ _ _ a vs ns G Y _ _ _ hmg obj nums len gz => ?_
  have kin := hY w _ Y
  obtain ⟨fd, hb, hF⟩ := F w mg fa _ kin G.T.g hmg
  exact law_callG kin G.T.g G.T.b G.T.builtins G.T.nolimit gz obj nums (Nat.le_trans len hn2) room hF hb fun H hS => hs w H a ns len hS
end CS
set_option maxHeartbeats 4000000
namespace CS
open PySem PySem.Spec PyProof.Rows L2
section
variable {prog : Program} {w : World} {A : Around} {E : Value → Shared → Prop} {s : Shared} {z TI TO T i1 i2 : Addr} {fp1 fp2 : List Addr} {n1 n2 i : Nat} {P1 P2 : Nat → Value → Prop} {St1 St2 : Nat → Heap → Prop} {f : Bool} {a1 a2 : Value}
theorem gone_alive {T : Addr} {Q : Option Obj → Shared → Prop} (hT : s.heap.get? T = none) (h : Q none s) : wpAny (model prog w) A (loadIfAlive T) Q E s := by
  have q : Q (s.heap.get? T) s := by
    rw [hT]
    exact h
  exact fun _ _ _ => q
theorem gone_free {Q : Bool → Shared → Prop} (hz : IsZipHeld s.heap z TI TO T f) (hT : s.heap.get? T = none) (h : Q true s) : wpAny (model prog w) A (Builtin.SmallTypes.ownedTupleIsFree (.ref z)) Q E s := by
  unfold Builtin.SmallTypes.ownedTupleIsFree
  refine wpAny_bind (wpAny_field hz rfl (x := rawInt T) rfl ?_)
  show wpAny _ _ (loadIfAlive ((T : Int).toNat) >>= _) _ _ _
  rw [Int.toNat_natCast]
  refine wpAny_bind (gone_alive hT ?_)
  exact wpAny_pure h
/-- a zip while it draws -/
def ZDraw (h : Heap) (z TI TO : Addr) (f : Bool) : Prop := h.get? z = some { cls := .type "zip", data := .fields #[.ellipsis, .bool f, .bool false, .ref TI, .ref TO] }
/-- one more of a zip whose tuple nobody holds any more -/
theorem gone_item {Q : Value → Shared → Prop} (S : ZipSep2 z TI TO i1 i2 fp1 fp2) (D1 : Draws prog w A i1 fp1 n1 P1 St1) (D2 : Draws prog w A i2 fp2 n2 P2 St2)
    (hz : IsZipHeld s.heap z TI TO T f) (hT : s.heap.get? T = none) (hTI : IsTupOf2 s.heap TI (.ref i1) (.ref i2)) (hTO : IsTupOf2 s.heap TO a1 a2) (st1 : St1 i s.heap) (st2 : St2 i s.heap) (lt1 : i < n1) (lt2 : i < n2)
    (hq : ∀ x y h' tk, P1 i x → P2 i y → IsZip h' z TI TO (rawInt s.heap.objs.size) → IsTupOf2 h' TO x y → St1 (i + 1) h' → St2 (i + 1) h' → IsTupOf2 h' s.heap.objs.size x y → h'.objs.size = s.heap.objs.size + 1 →
      (∀ c u, c ≠ z → c ≠ TO → c ≠ i1 → c ≠ i2 → s.heap.get? c = some u → h'.get? c = some u) → Q (.ref s.heap.objs.size) { s with heap := h', toks := tk }) :
    wpAny (model prog w) A (Builtin.«zip.__next__» ⟨[.ref z], []⟩) (fun fin s' => ∃ v, fin = .done (.ret v) ∧ Q v s') E s := by
  obtain ⟨hp, gn, dr, tk0, os⟩ := s
  show wpAny _ _ (field (.ref z) 2 >>= _) _ _ _
  refine wpAny_bind (wpAny_field hz rfl (x := .bool false) rfl ?_)
  show wpAny _ _ (field (.ref z) 3 >>= _) _ _ _
  refine wpAny_bind (wpAny_field hz rfl (x := .ref TI) rfl (wpAny_bind (wpAny_seqItems hTI rfl ?_)))
  show wpAny _ _ (Builtin.SmallTypes.ownedTupleIsFree (.ref z) >>= _) _ _ _
  refine wpAny_bind (gone_free hz hT ?_)
  simp only [if_true]
  refine wpAny_bind (wpAny_rule (wpAny_bind (wpAny_field hz rfl (x := .ref TO) rfl ?_)))
  refine wpAny_bind (wpAny_setField_rec hz (by simp) fun e0 z0 b0 => ?_)
  replace z0 : ZDraw e0 z TI TO f := z0
  replace b0 : Heap.SameBut z hp e0 := b0
  refine wpAny_bind ?_
  simp only [List.zipIdx_cons, List.zipIdx_nil, List.forIn_cons, List.forIn_nil]
  refine wpAny_bind (wpAny_bind (wpAny_onRaise ?_))
  show wpAny _ _ (Builtin.SmallTypes.nextOf (.ref i1) >>= _) _ _ ⟨e0, gn, dr, tk0, os⟩
  refine wpAny_bind (D1.item i _ _ _ lt1 (D1.over st1 b0 S.zf1) fun x e1 t1 px sx b1 => wpAny_pure ?_)
  replace b1 : Heap.SameBut i1 e0 e1 := b1
  have o1 : IsTupOf2 e1 TO a1 a2 := b1.extBut _ _ S.Ti1 (b0.extBut _ _ S.TOz hTO)
  refine wpAny_bind (wpAny_seqItems (s := ⟨e1, gn, dr, t1, os⟩) o1 rfl (wpAny_bind (updateSeq_IsTupOf2 (s := ⟨e1, gn, dr, t1, os⟩) o1 fun e2 o2 b2 => ?_)))
  replace o2 : IsTupOf2 e2 TO x a2 := o2
  replace b2 : Heap.SameBut TO e1 e2 := b2
  refine wpAny_bind (wpAny_letGo (wpAny_pure (wpAny_bind (wpAny_bind (wpAny_onRaise ?_)))))
  show wpAny _ _ (Builtin.SmallTypes.nextOf (.ref i2) >>= _) _ _ ⟨e2, gn, dr, t1, os⟩
  refine wpAny_bind (D2.item i _ _ _ lt2 (D2.over (D2.over (D2.over st2 b0 S.zf2) b1 S.sep1_2) b2 S.Tf2) fun y e3 t2 py sy b3 => wpAny_pure ?_)
  replace b3 : Heap.SameBut i2 e2 e3 := b3
  have o3 : IsTupOf2 e3 TO x a2 := b3.extBut _ _ S.Ti2 o2
  refine wpAny_bind (wpAny_seqItems (s := ⟨e3, gn, dr, t2, os⟩) o3 rfl (wpAny_bind (updateSeq_IsTupOf2 (s := ⟨e3, gn, dr, t2, os⟩) o3 fun e4 o4 b4 => ?_)))
  replace o4 : IsTupOf2 e4 TO x y := o4
  replace b4 : Heap.SameBut TO e3 e4 := b4
  refine wpAny_bind (wpAny_letGo (wpAny_pure (wpAny_pure (wpAny_bind (wpAny_seqItems (s := ⟨e4, gn, dr, t2, os⟩) o4 rfl (wpAny_bind (wpAny_newTuple ?_)))))))
  have sz : e4.objs.size = hp.objs.size := by rw [b4.1, b3.1, b2.1, b1.1, b0.1]
  have z4 : ZDraw e4 z TI TO f := b4.extBut _ _ S.TOz.symm (b3.extBut _ _ S.zi2 (b2.extBut _ _ S.TOz.symm (b1.extBut _ _ S.zi1 z0)))
  have kept : ∀ c u, c ≠ z → c ≠ TO → c ≠ i1 → c ≠ i2 → hp.get? c = some u → e4.get? c = some u := fun c u c1 c2 c3 c4 q => b4.extBut _ _ c2 (b3.extBut _ _ c4 (b2.extBut _ _ c2 (b1.extBut _ _ c3 (b0.extBut _ _ c1 q))))
  have j1 : St1 (i + 1) e4 := D1.over (D1.over (D1.over sx b2 S.Tf1) b3 S.sep2_1) b4 S.Tf1
  have j2 : St2 (i + 1) e4 := D2.over sy b4 S.Tf2
  have zl : z < e4.objs.size := Heap.lt_size z4
  show wpAny _ _ (Builtin.SmallTypes.ownedTupleHandOut (.ref z) (.ref e4.objs.size) >>= _) _ _ ⟨e4.push { cls := .type "tuple", data := .seq #[x, y] }, gn, dr, t2, os⟩
  refine wpAny_bind ?_
  unfold Builtin.SmallTypes.ownedTupleHandOut
  have z5 : ZDraw (e4.push { cls := .type "tuple", data := .seq #[x, y] }) z TI TO f := Heap.get?_push_of_some _ z4
  refine wpAny_bind (wpAny_setField_rec z5 (by simp) fun e6 z6 b6 => ?_)
  replace z6 : IsZipHeld e6 z TI TO e4.objs.size f := z6
  refine wpAny_setField_rec z6 (by simp) fun e7 z7 b7 => ?_
  replace z7 : IsZip e7 z TI TO (rawInt e4.objs.size) := z7
  replace b6 : Heap.SameBut z (e4.push { cls := .type "tuple", data := .seq #[x, y] }) e6 := b6
  replace b7 : Heap.SameBut z e6 e7 := b7
  have up : ∀ c u, c ≠ z → e4.get? c = some u → e7.get? c = some u := fun c u c1 q => b7.extBut _ _ c1 (b6.extBut _ _ c1 (Heap.get?_push_of_some _ q))
  have tp : IsTupOf2 e7 e4.objs.size x y := b7.extBut _ _ (Nat.ne_of_gt zl) (b6.extBut _ _ (Nat.ne_of_gt zl) (Heap.get?_push_size _ rfl))
  have sz7 : e7.objs.size = e4.objs.size + 1 := by rw [b7.1, b6.1, Heap.size_push]
  rw [sz] at z7 tp sz7
  refine wpAny_pure ⟨_, rfl, ?_⟩
  show Q (.ref e4.objs.size) ⟨e7, gn, dr, t2, os⟩
  rw [sz]
  exact hq x y e7 t2 px py z7 (up _ _ S.TOz o4) (D1.frame _ _ _ j1 fun b hb u q => up b u (fun e => S.zf1 (e ▸ hb)) q) (D2.frame _ _ _ j2 fun b hb u q => up b u (fun e => S.zf2 (e ▸ hb)) q) tp sz7 fun c u c1 c2 c3 c4 q => up c u c1 (kept c u c1 c2 c3 c4 q)
theorem gone_end {Q : Fin → Shared → Prop} (S : ZipSep2 z TI TO i1 i2 fp1 fp2) (D1 : Draws prog w A i1 fp1 n1 P1 St1) (D2 : Draws prog w A i2 fp2 n2 P2 St2)
    (hz : IsZipHeld s.heap z TI TO T f) (hT : s.heap.get? T = none) (hTI : IsTupOf2 s.heap TI (.ref i1) (.ref i2)) (hTO : IsTupOf2 s.heap TO a1 a2) (st1 : St1 i s.heap) (st2 : St2 i s.heap) (le1 : i ≤ n1) (le2 : i ≤ n2) (fin : i = n1 ∨ i = n2)
    (he : ∀ h' tk e, (∀ c u, c ≠ z → c ≠ TO → c ≠ i1 → c ≠ i2 → s.heap.get? c = some u → h'.get? c = some u) → (∃ u, h'.get? e = some u ∧ u.cls = .type "StopIteration") → E (.ref e) { s with heap := h', toks := tk }) :
    wpAny (model prog w) A (Builtin.«zip.__next__» ⟨[.ref z], []⟩) Q E s := by
  obtain ⟨hp, gn, dr, tk0, os⟩ := s
  show wpAny _ _ (field (.ref z) 2 >>= _) _ _ _
  refine wpAny_bind (wpAny_field hz rfl (x := .bool false) rfl ?_)
  show wpAny _ _ (field (.ref z) 3 >>= _) _ _ _
  refine wpAny_bind (wpAny_field hz rfl (x := .ref TI) rfl (wpAny_bind (wpAny_seqItems hTI rfl ?_)))
  show wpAny _ _ (Builtin.SmallTypes.ownedTupleIsFree (.ref z) >>= _) _ _ _
  refine wpAny_bind (gone_free hz hT ?_)
  simp only [if_true]
  refine wpAny_bind (wpAny_rule (wpAny_bind (wpAny_field hz rfl (x := .ref TO) rfl ?_)))
  refine wpAny_bind (wpAny_setField_rec hz (by simp) fun e0 z0 b0 => ?_)
  replace z0 : ZDraw e0 z TI TO f := z0
  replace b0 : Heap.SameBut z hp e0 := b0
  refine wpAny_bind ?_
  simp only [List.zipIdx_cons, List.zipIdx_nil, List.forIn_cons, List.forIn_nil]
  refine wpAny_bind (wpAny_bind (wpAny_onRaise ?_))
  show wpAny _ _ (Builtin.SmallTypes.nextOf (.ref i1) >>= _) _ _ ⟨e0, gn, dr, tk0, os⟩
  by_cases lt1 : i < n1
  · refine wpAny_bind (D1.item i _ _ _ lt1 (D1.over st1 b0 S.zf1) fun x e1 t1 px sx b1 => wpAny_pure ?_)
    replace b1 : Heap.SameBut i1 e0 e1 := b1
    have o1 : IsTupOf2 e1 TO a1 a2 := b1.extBut _ _ S.Ti1 (b0.extBut _ _ S.TOz hTO)
    refine wpAny_bind (wpAny_seqItems (s := ⟨e1, gn, dr, t1, os⟩) o1 rfl (wpAny_bind (updateSeq_IsTupOf2 (s := ⟨e1, gn, dr, t1, os⟩) o1 fun e2 o2 b2 => ?_)))
    replace o2 : IsTupOf2 e2 TO x a2 := o2
    replace b2 : Heap.SameBut TO e1 e2 := b2
    refine wpAny_bind (wpAny_letGo (wpAny_pure (wpAny_bind (wpAny_bind (wpAny_onRaise ?_)))))
    have ei : i = n2 := by omega
    show wpAny _ _ (Builtin.SmallTypes.nextOf (.ref i2) >>= _) _ _ ⟨e2, gn, dr, t1, os⟩
    refine wpAny_bind (D2.done ⟨e2, gn, dr, t1, os⟩ _ _ (by rw [← ei]; exact D2.over (D2.over (D2.over st2 b0 S.zf2) b1 S.sep1_2) b2 S.Tf2) fun q e hq hE => ?_)
    replace hq : Heap.ExtBut i2 e2 q := hq
    obtain ⟨oe, g1, g2⟩ := hE
    replace g1 : q.get? e = some oe := g1
    have zq : ZDraw q z TI TO f := hq _ _ S.zi2 (b2.extBut _ _ S.TOz.symm (b1.extBut _ _ S.zi1 z0))
    have ne : e ≠ z := fun x => by
      rw [x, zq] at g1
      have := Option.some.inj g1
      subst this
      simp at g2
    refine wpAny_setField_rec (s := ⟨q, gn, dr, t1, os⟩) zq (by simp) fun q' _ b' => ?_
    replace b' : Heap.SameBut z q q' := b'
    exact he q' t1 e (fun c u c1 c2 c3 c4 r => b'.extBut _ _ c1 (hq _ _ c4 (b2.extBut _ _ c2 (b1.extBut _ _ c3 (b0.extBut _ _ c1 r))))) ⟨oe, b'.extBut _ _ ne g1, g2⟩
  · have ei : i = n1 := by omega
    refine wpAny_bind (D1.done ⟨e0, gn, dr, tk0, os⟩ _ _ (by rw [← ei]; exact D1.over st1 b0 S.zf1) fun q e hq hE => ?_)
    replace hq : Heap.ExtBut i1 e0 q := hq
    obtain ⟨oe, g1, g2⟩ := hE
    replace g1 : q.get? e = some oe := g1
    have zq : ZDraw q z TI TO f := hq _ _ S.zi1 z0
    have ne : e ≠ z := fun x => by
      rw [x, zq] at g1
      have := Option.some.inj g1
      subst this
      simp at g2
    refine wpAny_setField_rec (s := ⟨q, gn, dr, tk0, os⟩) zq (by simp) fun q' _ b' => ?_
    replace b' : Heap.SameBut z q q' := b'
    exact he q' tk0 e (fun c u c1 c2 c3 c4 r => b'.extBut _ _ c1 (hq _ _ c3 (b0.extBut _ _ c1 r))) ⟨oe, b'.extBut _ _ ne g1, g2⟩
end
end CS
set_option maxHeartbeats 4000000
namespace CS
open PySem PySem.Spec PyProof.Rows L2
section
variable {prog : Program} {w : World} {A : Around} {E : Value → Shared → Prop} {s : Shared} {z TI TO T i1 i2 : Addr} {fp1 fp2 : List Addr} {n1 n2 i : Nat} {P1 P2 : Nat → Value → Prop} {St1 St2 : Nat → Heap → Prop}
/-- a zip between two turns: what it gave is let go, or may be held yet -/
def ZNow (h : Heap) (z TI TO : Addr) : Prop := IsZip h z TI TO .none ∨ ∃ T f, IsZipHeld h z TI TO T f
theorem now_item {Q : Option Value → Shared → Prop} (S : ZipSep2 z TI TO i1 i2 fp1 fp2) (D1 : Draws prog w A.in1 i1 fp1 n1 P1 St1) (D2 : Draws prog w A.in1 i2 fp2 n2 P2 St2)
    (hz : ZNow s.heap z TI TO) (hTI : IsTupOf2 s.heap TI (.ref i1) (.ref i2)) (hTO : ∃ a b, IsTupOf2 s.heap TO a b) (st1 : St1 i s.heap) (st2 : St2 i s.heap) (lt1 : i < n1) (lt2 : i < n2)
    (hq : ∀ x y h' tk, P1 i x → P2 i y → ZNow h' z TI TO → IsTupOf2 h' TI (.ref i1) (.ref i2) → (∃ a b, IsTupOf2 h' TO a b) → St1 (i + 1) h' → St2 (i + 1) h' → IsTupOf2 h' s.heap.objs.size x y →
      (∀ c u, c ≠ z → c ≠ TO → c ≠ i1 → c ≠ i2 → s.heap.get? c = some u → h'.get? c = some u) → Q (some (.ref s.heap.objs.size)) { s with heap := h', toks := tk }) : wpAny (model prog w) A (pyNext (.ref z)) Q E s := by
  obtain ⟨a1, a2, hTO⟩ := hTO
  rcases hz with hz | ⟨T, f, hz⟩
  · exact wpAny_pyNext_zipD2_item S D1 D2 hz hTI hTO st1 st2 lt1 lt2 fun x y h' tk p1 p2 b1 b2 d1 d2 b5 _ b7 => hq x y h' tk p1 p2 (.inr ⟨_, false, b1⟩) (b7 _ _ S.TIz S.TITO S.TIi1 S.TIi2 hTI) ⟨_, _, b2⟩ d1 d2 b5 b7
  · have hty : s.TypeIs (.ref z) "zip" := ⟨_, hz, rfl⟩
    unfold pyNext
    refine wpAny_bind (wpAny_attempt (wpAny_callSpecial?_slot (name := Str.ofString "__next__") hty F.slot_zip_next (wpAny_call_entry F.slot_zip_next hty F.entry_zip_next ?_ (F.args_zip_next_1 _))))
    cases hT : s.heap.get? T with
    | some oT => exact held_item S D1 D2 hz hT hTI st1 st2 lt1 lt2 fun x y h' tk p1 p2 b1 d1 d2 b5 _ b7 => wpAny_pure (hq x y h' tk p1 p2 (.inr ⟨T, true, b1⟩) (b7 _ _ S.TIz S.TIi1 S.TIi2 hTI) ⟨_, _, b7 _ _ S.TOz S.Ti1 S.Ti2 hTO⟩ d1 d2 b5 fun c u c1 _ c3 c4 q => b7 c u c1 c3 c4 q)
    | none => exact gone_item S D1 D2 hz hT hTI hTO st1 st2 lt1 lt2 fun x y h' tk p1 p2 b1 b2 d1 d2 b5 _ b7 => wpAny_pure (hq x y h' tk p1 p2 (.inr ⟨_, false, b1⟩) (b7 _ _ S.TIz S.TITO S.TIi1 S.TIi2 hTI) ⟨_, _, b2⟩ d1 d2 b5 b7)
theorem now_end {Q : Option Value → Shared → Prop} (S : ZipSep2 z TI TO i1 i2 fp1 fp2) (D1 : Draws prog w A.in1 i1 fp1 n1 P1 St1) (D2 : Draws prog w A.in1 i2 fp2 n2 P2 St2)
    (hz : ZNow s.heap z TI TO) (hTI : IsTupOf2 s.heap TI (.ref i1) (.ref i2)) (hTO : ∃ a b, IsTupOf2 s.heap TO a b) (st1 : St1 i s.heap) (st2 : St2 i s.heap) (le1 : i ≤ n1) (le2 : i ≤ n2) (fin : i = n1 ∨ i = n2)
    (hq : ∀ h' tk, (∀ c u, c ≠ z → c ≠ TO → c ≠ i1 → c ≠ i2 → s.heap.get? c = some u → h'.get? c = some u) → Q none { s with heap := h', toks := tk }) : wpAny (model prog w) A (pyNext (.ref z)) Q E s := by
  obtain ⟨a1, a2, hTO⟩ := hTO
  rcases hz with hz | ⟨T, f, hz⟩
  · exact wpAny_pyNext_zipD2_end S D1 D2 hz hTI hTO st1 st2 le1 le2 fin hq
  · have hty : s.TypeIs (.ref z) "zip" := ⟨_, hz, rfl⟩
    have stop : ∀ h' tk e, (∀ c u, c ≠ z → c ≠ TO → c ≠ i1 → c ≠ i2 → s.heap.get? c = some u → h'.get? c = some u) → (∃ u, h'.get? e = some u ∧ u.cls = .type "StopIteration") → wpAny (model prog w) A (isInstance (.ref e) (.type "StopIteration") >>= fun b => if b = true then pure none else throw (.ref e)) Q E { s with heap := h', toks := tk } := fun h' tk e hk hE => by
      obtain ⟨u, hu, hcl⟩ := hE
      exact wpAny_bind (wpAny_isInstance (T := "StopIteration") (b := true) ⟨u, hu, hcl⟩ isSubtype_stop (wpAny_pure (hq _ _ hk)))
    unfold pyNext
    refine wpAny_bind (wpAny_attempt (wpAny_callSpecial?_slot (name := Str.ofString "__next__") hty F.slot_zip_next (wpAny_call_entry F.slot_zip_next hty F.entry_zip_next ?_ (F.args_zip_next_1 _))))
    cases hT : s.heap.get? T with
    | some oT =>
      refine held_end S D1 D2 hz hT hTI st1 st2 le1 le2 fin fun h' tk e hk hE => ?_
      obtain ⟨u, hu, hcl⟩ := hE
      exact wpAny_bind (wpAny_isInstance (T := "StopIteration") (b := true) ⟨u, hu, hcl⟩ isSubtype_stop (wpAny_pure (hq _ _ fun c v c1 _ c3 c4 q => hk c v c1 c3 c4 q)))
    | none =>
      refine gone_end S D1 D2 hz hT hTI hTO st1 st2 le1 le2 fin fun h' tk e hk hE => ?_
      obtain ⟨u, hu, hcl⟩ := hE
      exact wpAny_bind (wpAny_isInstance (T := "StopIteration") (b := true) ⟨u, hu, hcl⟩ isSubtype_stop (wpAny_pure (hq _ _ hk)))
end
/-- the tuples at a and b, one name for each pair; it ends just where one of them ends -/
def ItzN (K : PySem.W.Frag) (a b : Addr) : It :=
  ⟨fun i H => ∃ (xs ys : List V) (x y : V), SqT K H a xs ∧ SqT K H b ys ∧ xs[i]? = some x ∧ ys[i]? = some y,
    fun i H v H' => ∃ (T : Addr) (x y : V), v = .ref T ∧ H T = none ∧ H' = upd H T (.tup [x, y]) ∧ (∀ xs, SqT K H a xs → xs[i]? = some x) ∧ ∀ ys, SqT K H b ys → ys[i]? = some y,
    fun i H => ∃ xs ys : List V, SqT K H a xs ∧ SqT K H b ys ∧ i ≤ xs.length ∧ i ≤ ys.length ∧ (i = xs.length ∨ i = ys.length)⟩
theorem walk_zipN {K : PySem.W.Frag} {a b : Addr} {xs ys : List V} {n : Nat} (hn : n = min xs.length ys.length) : Walk (ItzN K a b) n (fun H => SqT K H a xs ∧ SqT K H b ys) (YPair (fun i => xs[i]?) (fun i => ys[i]?)) := by
  subst hn
  refine ⟨fun i H hi q => ?_, fun H q => ⟨xs, ys, q.1, q.2, by omega, by omega, by omega⟩, fun i H v H' hi q y => ?_⟩
  · have l1 : i < xs.length := by omega
    have l2 : i < ys.length := by omega
    exact ⟨xs, ys, xs[i], ys[i], q.1, q.2, List.getElem?_eq_getElem l1, List.getElem?_eq_getElem l2⟩
  · obtain ⟨T, x, z, e1, e2, e3, e4, e5⟩ := y
    exact ⟨T, x, z, e1, e2, e3, e4 xs q.1, e5 ys q.2⟩
theorem zip_self {M : Program} {w : World} {A : Around} {E : Value → Shared → Prop} {s : Shared} {z TI TO : Addr} {Q : Value → Shared → Prop} (hz : ZNow s.heap z TI TO) (h : Q (.ref z) s) : wpAny (model M w) A (pyIter (.ref z)) Q E s := by
  have ty : s.TypeIs (.ref z) "zip" := by
    rcases hz with hz | ⟨T, f, hz⟩
    · exact ⟨_, hz, rfl⟩
    · exact ⟨_, hz, rfl⟩
  refine wpAny_pyIter_slot ty F.slot_zip_iter (wpAny_call_entry F.slot_zip_iter ty F.entry_zip_iter ?_ (F.args_zip_iter_1 _))
  show wpAny _ _ (ret (.ref z)) _ _ s
  exact wpAny_pure ⟨_, rfl, "zip", _, ty, F.slot_zip_next.lookup, h⟩
open RZ
theorem turn_zipN {P : Program} {w : World} {K : PySem.W.Frag} {x : Str} {tpos : Pos} {a b z TI TO i1 i2 : Addr} (S : ZipSep2 z TI TO i1 i2 [i1, a] [i2, b]) (na : a ≠ i1) (nb : b ≠ i2) :
    Turn P w K (.Name x tpos) (ItzN K a b) [z, TI, TO, i1, i2] z (fun i h => ZNow h z TI TO ∧ IsTupOf2 h TI (.ref i1) (.ref i2) ∧ (∃ u v, IsTupOf2 h TO u v) ∧ h.IsTupleIter i1 a i ∧ h.IsTupleIter i2 b i) where
  mem := by simp
  obj := by
    rintro i h ⟨hz, hTI, ⟨u, v, hTO⟩, ⟨o1, e1, _, d1⟩, ⟨o2, e2, _, d2⟩⟩ c hc
    simp only [List.mem_cons, List.not_mem_nil, or_false] at hc
    rcases hc with rfl | rfl | rfl | rfl | rfl
    · rcases hz with hz | ⟨T, f, hz⟩
      · exact ⟨_, hz, fun v q => nomatch q⟩
      · exact ⟨_, hz, fun v q => nomatch q⟩
    · exact ⟨_, hTI, fun v q => nomatch q⟩
    · exact ⟨_, hTO, fun v q => nomatch q⟩
    · exact ⟨o1, e1, fun v q => by rw [d1] at q; cases q⟩
    · exact ⟨o2, e2, fun v q => by rw [d2] at q; cases q⟩
  keep := by
    rintro i h h' ⟨hz, hTI, ⟨u, v, hTO⟩, h1, h2⟩ k
    refine ⟨?_, k TI (by simp) _ hTI, ⟨u, v, k TO (by simp) _ hTO⟩, h1.at fun o q => k i1 (by simp) o q, h2.at fun o q => k i2 (by simp) o q⟩
    rcases hz with hz | ⟨T, f, hz⟩
    · exact .inl (k z (by simp) _ hz)
    · exact .inr ⟨T, f, k z (by simp) _ hz⟩
  item := by
    rintro X hP hw hK hc i pins s σ H E I hf ⟨hz, hTI, hTO, h1, h2⟩ ⟨xs, ys, x1, y1, hqx, hqy, hx, hy⟩
    subst hP hw hK
    have hh : X.A.handled = none := I.ok.hd hc
    obtain ⟨its, rv, p, _⟩ := I.tuple hqx
    obtain ⟨its2, rv2, p2, _⟩ := I.tuple hqy
    obtain ⟨u, hu, ru⟩ := rv.get hx
    obtain ⟨u2, hu2, ru2⟩ := rv2.get hy
    have l1 : i < its.toArray.size := by
      rw [List.size_toArray]
      exact (List.getElem?_eq_some_iff.mp hu).1
    have l2 : i < its2.toArray.size := by
      rw [List.size_toArray]
      exact (List.getElem?_eq_some_iff.mp hu2).1
    have D1 := Draws.tuple (prog := X.prog) (w := X.w) (A := X.A.in1) hh i1 a na its.toArray
    have D2 := Draws.tuple (prog := X.prog) (w := X.w) (A := X.A.in1) hh i2 b nb its2.toArray
    refine now_item S D1 D2 hz hTI hTO ⟨h1, p⟩ ⟨h2, p2⟩ l1 l2 fun v1 v2 h' tk q1 q2 z' TI' TO' d1 d2 tp kp => ⟨_, rfl, wpAny_pure ?_⟩
    have ev1 : v1 = u := by
      rw [List.getElem?_toArray, hu] at q1
      exact (Option.some.inj q1).symm
    have ev2 : v2 = u2 := by
      rw [List.getElem?_toArray, hu2] at q2
      exact (Option.some.inj q2).symm
    subst ev1
    subst ev2
    have new : ObjOk X.prog X.w (upd H s.heap.objs.size (.tup [x1, y1])) h' s.heap.objs.size (.tup [x1, y1]) := ⟨by show 2 ≤ sizeLine; decide, [v1, v2], .cons ru (.cons ru2 .nil), ⟨_, tp, rfl, _, rfl⟩⟩
    have J : Inv X pins σ (upd H s.heap.objs.size (.tup [x1, y1])) { s with heap := h', toks := tk } := I.turnedNew (t' := tk) (ch := [z, TI, TO, i1, i2]) (fun c o hb q => kp c o (fun e => hb (by simp [e])) (fun e => hb (by simp [e])) (fun e => hb (by simp [e])) (fun e => hb (by simp [e])) q) hf (Nat.le_refl _) new
    refine ⟨.ref s.heap.objs.size, _, J, rfl, ⟨_, x1, y1, rfl, I.hok.fresh (Nat.le_refl _), rfl, fun l hl => by rw [I.tuple_inj hl hqx]; exact hx, fun l hl => by rw [I.tuple_inj hl hqy]; exact hy⟩, ⟨z', TI', TO', d1.1, d2.1⟩, fun c hcm => ?_⟩
    have hlt : c < s.heap.objs.size := by
      have hcm' := hcm
      simp only [List.mem_cons, List.not_mem_nil, or_false] at hcm'
      rcases hcm' with rfl | rfl | rfl | rfl | rfl
      · rcases hz with hz | ⟨T, f, hz⟩ <;> exact Heap.lt_size hz
      · exact Heap.lt_size hTI
      · obtain ⟨_, _, e⟩ := hTO
        exact Heap.lt_size e
      · obtain ⟨_, e, _⟩ := h1
        exact Heap.lt_size e
      · obtain ⟨_, e, _⟩ := h2
        exact Heap.lt_size e
    rw [upd_ne (Nat.ne_of_lt hlt)]
    exact (hf c hcm).1
  done := by
    rintro X hP hw hK hc i pins s σ H E I hf ⟨hz, hTI, hTO, h1, h2⟩ ⟨xs, ys, hqx, hqy, le1, le2, hend⟩
    subst hP hw hK
    have hh : X.A.handled = none := I.ok.hd hc
    obtain ⟨its, rv, p, _⟩ := I.tuple hqx
    obtain ⟨its2, rv2, p2, _⟩ := I.tuple hqy
    have e1 : its.toArray.size = xs.length := by rw [List.size_toArray]; exact rv.length.symm
    have e2 : its2.toArray.size = ys.length := by rw [List.size_toArray]; exact rv2.length.symm
    have D1 := Draws.tuple (prog := X.prog) (w := X.w) (A := X.A.in1) hh i1 a na its.toArray
    have D2 := Draws.tuple (prog := X.prog) (w := X.w) (A := X.A.in1) hh i2 b nb its2.toArray
    refine now_end S D1 D2 hz hTI hTO ⟨h1, p⟩ ⟨h2, p2⟩ (by omega) (by omega) (by omega) fun h' tk kp => ⟨rfl, ?_⟩
    exact I.turnedL (t' := tk) (ch := [z, TI, TO, i1, i2]) (fun c o hb q => kp c o (fun e => hb (by simp [e])) (fun e => hb (by simp [e])) (fun e => hb (by simp [e])) (fun e => hb (by simp [e])) q) hf
  self := fun A i s Q E st h => zip_self st.1 h
/-- for p in zip(x, y), x and y tuples, p one name -/
def iZipN (K : PySem.W.Frag) (ta : TA) : TI := fun σ H R => ta σ H fun vs H1 => ∃ (a b : Addr) (xs ys : List V), vs = [.ref a, .ref b] ∧ SqT K H1 a xs ∧ SqT K H1 b ys ∧ R (ItzN K a b) H1
theorem pi_zipN {X : Cx} {e e2 : Expr} {ta : TA} {x : Str} {p pos tpos : Pos} (hg : Gl X "zip") (hm : X.mg "zip" = none) (ha : PA X [e, e2] ta)
    (hs : starEach [e, e2] X.env = (false, eval e X.env) :: starEach [e2] X.env := by rfl) (hpl : (backTo pos (starEach [e2] X.env)).any (·.1) = false := by rfl) :
    PI X (.Name x tpos) (.Call (.Name "zip" p) [e, e2] [] pos) (iZipN X.K ta) := by
  refine ⟨fun pins s0 σ H0 R I0 hw => ?_⟩
  refine Call_ (ld_blt I0 hg hm PyProof.Rows.boot_zip (PyProof.Rows.callWith_type1 (thn (ha.run pos pins s0 σ H0 _ I0 hw) fun us s1 ⟨vs, H1, I1, r1, q1⟩ => ?_) hs hpl))
  obtain ⟨a, b, xs, ys, rfl, hqx, hqy, q⟩ := q1
  obtain ⟨u1, u2, rfl, ra, rb⟩ := vals2 r1
  cases ra
  cases rb
  obtain ⟨its, rv, p1, _⟩ := I1.tuple hqx
  obtain ⟨its2, rv2, p2, _⟩ := I1.tuple hqy
  have la := lt_of_tuple p1
  have lb := lt_of_tuple p2
  have S := zip_sep2 (N := s1.heap.objs.size) (fp1 := [a]) (fp2 := [b]) (fun c hc => by rw [List.mem_singleton.mp hc]; exact la) (fun c hc => by rw [List.mem_singleton.mp hc]; exact lb)
  refine call_zipT (show s1.heap.IsTuple a its.toArray from p1) (show s1.heap.IsTuple b its2.toArray from p2) fun h' hz hTI hTO h1 h2 hsz hk => ?_
  refine zip_self (TI := s1.heap.objs.size + 2) (TO := s1.heap.objs.size + 3) (.inl hz) ?_
  have I2 : Inv X pins σ H1 { s1 with heap := h' } := I1.kept (t' := s1.toks) hk
  refine ⟨s1.heap.objs.size + 4, [s1.heap.objs.size + 4, s1.heap.objs.size + 2, s1.heap.objs.size + 3, s1.heap.objs.size, s1.heap.objs.size + 1], _, _, H1, rfl, I2, turn_zipN S (Nat.ne_of_lt la) (Nat.ne_of_lt (Nat.lt_succ_of_lt lb)), ⟨.inl hz, hTI, ⟨_, _, hTO⟩, h1, h2⟩, fun c hcm => ?_, q⟩
  have hle : s1.heap.objs.size ≤ c := by
    simp only [List.mem_cons, List.not_mem_nil, or_false] at hcm
    rcases hcm with rfl | rfl | rfl | rfl | rfl
    · exact Nat.le_add_right _ _
    · exact Nat.le_add_right _ _
    · exact Nat.le_add_right _ _
    · exact Nat.le_refl _
    · exact Nat.le_add_right _ _
  exact I1.fpOk hle (I1.hok.fresh hle)
end CS
namespace K00
open PySem PySem.Spec PyProof.Rows L2 CS
def top (i : Nat) : Stmt := PySem.Challenge.pw_countedsteps_k00_journeys_or_not.main.body.getD i (.Pass ⟨0, 0, 0, 0⟩)
abbrev sPlace : Stmt := top 3
abbrev sStep : Stmt := top 4
abbrev sJour : Stmt := top 5
abbrev sSteps : Stmt := top 6
abbrev sBox : Stmt := top 8
abbrev sTake : Stmt := top 9
abbrev sCells : Stmt := top 10
abbrev sOf : Stmt := top 11
abbrev sPick : Stmt := top 12
abbrev sSame : Stmt := top 13
abbrev sTags : Stmt := top 14
abbrev sWalk : Stmt := top 15
abbrev sIsTag : Stmt := top 16
abbrev sIsRow : Stmt := top 17
abbrev sSpoilt : Stmt := top 18
abbrev sHand : Stmt := top 19
abbrev sRight : Stmt := top 20
abbrev sLaw : Stmt := top 21

/-! ### heaps and lists -/
theorem same_upd {H : Hp} {p : Addr} {o : HO} (h : H p = none) : Same H (upd H p o) := fun b x e => by
  rw [upd_ne (ne_of_none e h)]
  exact e
theorem cut1 (xs : List V) : cutV xs (some 1) none = xs.drop 1 := by
  unfold cutV
  rw [show HT.sIx xs.length 0 (some 1) = min 1 xs.length from HT.sIx_nat xs.length 0 1, HT.sIx_none]
  cases xs with
  | nil => rfl
  | cons x r =>
    rw [show min 1 (x :: r).length = 1 by
      rw [List.length_cons]
      omega]
    show (List.take ((x :: r).length - 1) r) = r
    rw [List.length_cons, Nat.add_sub_cancel]
    exact List.take_length
theorem sIx_one {n : Nat} (h : 0 < n) : HT.sIx n 0 (some 1) = 1 := by
  rw [show HT.sIx n 0 (some 1) = min 1 n from HT.sIx_nat n 0 1]
  omega
theorem sqT_same {K : PySem.W.Frag} {H H' : Hp} {a : Addr} {xs : List V} (e : Same H H') (h : SqT K H a xs) : SqT K H' a xs := by
  rcases h with (h | ⟨o, h⟩) | h
  · exact .inl (.inl (e _ _ h))
  · exact .inl (.inr ⟨o, e _ _ h⟩)
  · exact .inr h
/-- a tuple or a list of texts -/
def Jr (K : PySem.W.Frag) (H : Hp) (a : Addr) (ss : List Str) : Prop := SqT K H a (ss.map V.str) ∨ SqL K H a (ss.map V.str)
theorem Jr.keep {K : PySem.W.Frag} {H H' : Hp} {a : Addr} {ss : List Str} (h : Jr K H a ss) (s : Same H H') : Jr K H' a ss := by
  rcases h with h | h
  · exact .inl (sqT_same s h)
  · exact .inr (s.seq h)
section
variable {P : Program} {w : World} {K : PySem.W.Frag} {mg : Str → Option Value} {base : Heap}
/-! ### steps_of -/
def spSteps (K : PySem.W.Frag) : Sp := fun vs H Q _ => ∃ (a : Addr) (ss : List Str), vs = [.ref a] ∧ Jr K H a ss ∧ 0 < ss.length ∧
  ∀ (H' : Hp) (p : Addr) (as : List Addr), Same H H' → H p = none → H' p = some (.tup (as.map V.ref)) → as.length = ss.length - 1 → PairsAt (ss.map V.str) (ss.tail.map V.str) as H' → Q (.ref p) H'
theorem scSteps : FnScope ["journey"] ["journey"] (defScope sSteps) := ⟨rfl, rfl, rfl, by decide +kernel, rfl, by decide +kernel, by decide +kernel⟩
theorem ok_steps {f : Addr} {fd : FuncData} {k : Nat} (F : Fun K "steps_of" "steps_of" sSteps f fd) (mt : mg "tuple" = none) (mz : mg "zip" = none) : FnOk P w K mg base CX0 (k + 1) f fd ["journey"] (spSteps K) := by
  refine F.ok scSteps (fun vs H Q E h => ?_) (fun cdv A outer s H vs Q E hr h => ?_)
  · obtain ⟨a, ss, rfl, _⟩ := h
    rfl
  · obtain ⟨a, ss, rfl, hJ, h0, q⟩ := h
    refine ⟨_, pss_one (ps_ret (pe_tupZip (by rfl) mt (by rfl) mz (pa_cons (pv 0) (pa_cons (pe_slice (SlR.or sl_tup sl_list) (pv 0) (po_some pe_int) po_none) pa_nil)))), ?_⟩
    have hne : ¬ (HT.sIx (ss.map V.str).length 0 (some 1) = 0 ∧ HT.sIx (ss.map V.str).length (ss.map V.str).length none = (ss.map V.str).length) := fun z => by
      rw [sIx_one (by rw [List.length_map]; exact h0)] at z
      exact absurd z.1 (by decide)
    have fin : ∀ (H1 Hc : Hp) (p : Addr) (as : List Addr), Same H H1 → Same H1 Hc → as.length = min (ss.map V.str).length (cutV (ss.map V.str) (some 1) none).length → PairsAt (ss.map V.str) (cutV (ss.map V.str) (some 1) none) as Hc → Hc p = none → Q (.ref p) (upd Hc p (.tup (as.map V.ref))) := fun H1 Hc p as s1 s2 l pr np => by
      rw [cut1, ← List.map_drop, List.drop_one] at pr l
      have s3 : Same H Hc := s1.trans s2
      refine q _ p as (s3.trans (same_upd np)) (s3.free np) upd_same ?_ ?_
      · rw [l, List.length_map, List.length_map, List.length_tail]
        omega
      · exact fun j a x y e1 e2 e3 => by rw [upd_ne (ne_of_none (pr j a x y e1 e2 e3) np)]; exact pr j a x y e1 e2 e3
    refine ⟨.ref a, rfl, .ref a, rfl, 1, rfl, ?_⟩
    rcases hJ with hJ | hJ
    · refine .inl ⟨a, _, rfl, hJ, hne, fun c nc => ⟨a, c, _, _, rfl, .inl ⟨sqT_same (same_upd nc) hJ, .inl (.inl upd_same)⟩, fun Hc p as s2 l pr np => fin _ Hc p as (same_upd nc) s2 l pr np⟩⟩
    · refine .inr ⟨a, _, rfl, hJ, fun c nc => ⟨a, c, _, _, rfl, .inr ⟨(same_upd nc).seq hJ, .inl (.inl upd_same)⟩, fun Hc p as s2 l pr np => fin _ Hc p as (same_upd nc) s2 l pr np⟩⟩
/-! ### pairs -/
def prs (ss : List Str) : List (Str × Str) := ss.zip ss.tail
theorem prs_len (ss : List Str) : (prs ss).length = ss.length - 1 := by
  unfold prs
  rw [List.length_zip, List.length_tail]
  omega
theorem prs_at {H : Hp} {ss : List Str} {as : List Addr} (h : PairsAt (ss.map V.str) (ss.tail.map V.str) as H) (hl : as.length = ss.length - 1) {j : Nat} {v : V} (hv : (as.map V.ref)[j]? = some v) :
    ∃ (T : Addr) (x y : Str), v = .ref T ∧ (prs ss)[j]? = some (x, y) ∧ H T = some (.tup [.str x, .str y]) := by
  rw [List.getElem?_map] at hv
  have hj : j < ss.length - 1 := by
    rw [← hl]
    refine Classical.byContradiction fun z => ?_
    rw [List.getElem?_eq_none (by omega)] at hv
    cases hv
  have h1 : j < as.length := by omega
  have h2 : j < ss.length := by omega
  have h3 : j < ss.tail.length := by rw [List.length_tail]; exact hj
  rw [List.getElem?_eq_getElem h1] at hv
  refine ⟨as[j], ss[j], ss.tail[j], (Option.some.inj hv).symm, ?_, h j _ _ _ (List.getElem?_eq_getElem h1) ?_ ?_⟩
  · unfold prs
    rw [List.getElem?_zip_eq_some]
    exact ⟨List.getElem?_eq_getElem h2, List.getElem?_eq_getElem h3⟩
  · rw [List.getElem?_map, List.getElem?_eq_getElem h2]
    rfl
  · rw [List.getElem?_map, List.getElem?_eq_getElem h3]
    rfl
theorem take_snoc {α : Type} {l : List α} {i : Nat} {x : α} (h : l[i]? = some x) : l.take (i + 1) = l.take i ++ [x] := by
  rw [List.take_add_one, h]
  rfl
end
end K00
namespace K00
open PySem PySem.Spec PyProof.Rows L2 CS
/-- all but b is as it was -/
def Keep (b : Addr) (H H' : Hp) : Prop := ∀ c o, c ≠ b → H c = some o → H' c = some o
theorem Keep.refl (b : Addr) (H : Hp) : Keep b H H := fun _ _ _ e => e
theorem Keep.trans {b : Addr} {H H1 H2 : Hp} (x : Keep b H H1) (y : Keep b H1 H2) : Keep b H H2 := fun c o n e => y c o n (x c o n e)
theorem Keep.of_same {b : Addr} {H H1 : Hp} (x : Same H H1) : Keep b H H1 := fun c o _ e => x c o e
theorem Keep.upd {b : Addr} (H : Hp) (o : HO) : Keep b H (L2.upd H b o) := fun c u n e => by rw [upd_ne n]; exact e
theorem Keep.sqL {K : PySem.W.Frag} {b a : Addr} {H H' : Hp} {xs : List V} (x : Keep b H H') (n : a ≠ b) (h : SqL K H a xs) : SqL K H' a xs := by
  rcases h with (h | ⟨o, h⟩) | h
  · exact .inl (.inl (x _ _ n h))
  · exact .inl (.inr ⟨o, x _ _ n h⟩)
  · exact .inr h
theorem Keep.sqT {K : PySem.W.Frag} {b a : Addr} {H H' : Hp} {xs : List V} (x : Keep b H H') (n : a ≠ b) (h : SqT K H a xs) : SqT K H' a xs := by
  rcases h with (h | ⟨o, h⟩) | h
  · exact .inl (.inl (x _ _ n h))
  · exact .inl (.inr ⟨o, x _ _ n h⟩)
  · exact .inr h
theorem b01 (c : Bool) : 0 ≤ (if c = true then (1 : Int) else 0) ∧ (if c = true then (1 : Int) else 0) ≤ 1 := by cases c <;> decide
theorem abs0 (i : Int) : 0 ≤ (if i < 0 then -i else i) := by split <;> omega
theorem mul01 (i : Int) (c : Bool) : CMul i (if c = true then (1 : Int) else 0) := by
  have q := b01 c
  exact .inr ⟨by omega, by omega⟩
theorem dv64 (i : Int) : CDivN i 64 := ⟨by decide, by decide⟩
theorem dvM (i : Int) : CDivN i 1000003 := ⟨by decide, by decide⟩
section
variable {P : Program} {w : World} {K : PySem.W.Frag} {mg : Str → Option Value} {base : Heap}
/-! ### the box of draws -/
/-- a box at b: what is left of the number, the seed, how often it was asked -/
def BoxAt (H : Hp) (b : Addr) (n : Nat) : Prop := ∃ A B C : Int, H b = some (.lst [.int A, .int B, .int C]) ∧ 0 ≤ A ∧ 0 ≤ B ∧ B < 2 ^ 62 ∧ 0 ≤ C ∧ C ≤ n
def spBox (K : PySem.W.Frag) : Sp := fun vs H Q _ => ∃ (a : Addr) (ns : List Int) (k : Nat), vs = [.ref a, .int (k : Nat)] ∧ SqL K H a (ns.map V.int) ∧ k < ns.length ∧ ns.length ≤ 1000 ∧ ∀ (H' : Hp) (p : Addr), Same H H' → H p = none → BoxAt H' p 0 → Q (.ref p) H'
theorem scBox : FnScope ["_law_script", "_law_k", "_law_cell"] ["_law_script", "_law_k"] (defScope sBox) := ⟨rfl, rfl, rfl, by decide +kernel, rfl, by decide +kernel, by decide +kernel⟩
theorem ok_box {f : Addr} {fd : FuncData} {k : Nat} (F : Fun K "_law_box" "_law_box" sBox f fd) (ml : mg "len" = none) (ma : mg "abs" = none) (mi : mg "int" = none) : FnOk P w K mg base CX0 (k + 1) f fd ["_law_script", "_law_k"] (spBox K) := by
  refine F.ok scBox (fun vs H Q E h => ?_) (fun cdv A outer s H vs Q E hr h => ?_)
  · obtain ⟨a, ns, k, rfl, _⟩ := h
    rfl
  · obtain ⟨a, ns, k, rfl, hS, hk, h1, q⟩ := h
    refine ⟨_, pss_cons (ps_set (i := 2) scBox.nd rfl (.inl rfl) (pe_ifExp (pt_cmpR op_lt (pv 1) (pe_callB call_len_seq (by rfl) ml PySem.boot_len (pa_cons (pv 0) pa_nil)) (nomark _)) (pe_ix ix_list (pv 0) (pv 1) (fun _ _ => rfl)) pe_int))
      (pss_one (ps_ret (pe_lst (pa_cons (pe_op op_mul (pe_callB call_abs (by rfl) ma (by decide +kernel) (pa_cons (pv 2) pa_nil)) (pe_callTy call_int1 (by rfl) mi (by decide +kernel) (pa_cons (pe_cmpR op_ge (pe_callB call_abs (by rfl) ma (by decide +kernel) (pa_cons (pv 2) pa_nil)) (pe_op op_pow pe_int pe_int) (nomark _)) pa_nil)))
        (pa_cons (pe_op op_add (pe_op op_add (pe_op op_modN (pe_callTy call_int1 (by rfl) mi (by decide +kernel) (pa_cons (pv 2) pa_nil)) pe_int) (pe_op op_mul pe_int (pv 1))) pe_int) (pa_cons pe_int pa_nil)))))), ?_⟩
    have hx : (ns.map V.int)[k]? = some (.int ns[k]) := by rw [List.getElem?_map, List.getElem?_eq_getElem hk]; rfl
    have hd : decide ((k : Int) < ((ns.map V.int).length : Nat)) = true := decide_eq_true (by rw [List.length_map]; omega)
    refine ⟨.int (k : Nat), rfl, .ref a, rfl, a, _, rfl, .inl hS, _, _, rfl, rfl, _, rfl, ?_⟩
    rw [hd]
    refine ⟨.ref a, rfl, .int (k : Nat), rfl, a, _, _, _, rfl, rfl, hS, atI_nat hx, ?_⟩
    have e1 := Int.fmod_nonneg_of_pos ns[k] (b := 2305843009213693951) (by decide)
    have e2 := Int.fmod_lt_of_pos ns[k] (b := 2305843009213693951) (by decide)
    refine ⟨.int ns[k], rfl, _, rfl, .int ns[k], rfl, _, rfl, 10, 18, rfl, rfl, ⟨by decide, by decide, by decide⟩, _, _, rfl, rfl, .inr ⟨_, rfl, _, _, rfl, rfl, mul01 _ _, ?_⟩⟩
    refine ⟨.int ns[k], rfl, .inl ⟨_, rfl, _, _, rfl, rfl, (by show (2305843009213693951 : Int) ≠ 0; decide), _, rfl, _, _, rfl, rfl, .inl (by decide), _, _, rfl, rfl, _, _, rfl, rfl, ?_⟩⟩
    refine ⟨by show 3 ≤ sizeLine; decide, fun p np => q _ p (same_upd np) np ?_⟩
    refine ⟨_, _, 0, upd_same, Int.mul_nonneg (abs0 _) (b01 _).1, ?_, ?_, Int.le_refl 0, Int.le_refl 0⟩
    · have : (0 : Int) ≤ k := Int.natCast_nonneg k
      omega
    · have : (k : Int) < 1000 := by omega
      omega
/-! ### a draw -/
def spTake : Sp := fun vs H Q _ => ∃ (b : Addr) (n : Nat) (m : Int), vs = [.ref b, .int m] ∧ BoxAt H b n ∧ n ≤ 1000000 ∧ 0 < m ∧ m < 1000000 ∧ ∀ (H' : Hp) (r : Int), Keep b H H' → BoxAt H' b (n + 1) → 0 ≤ r → r < m → Q (.int r) H'
theorem scTake : FnScope ["_law_box_here", "_law_below", "_law_digit_so", "_law_once", "_law_odd", "_law_twice"] ["_law_box_here", "_law_below"] (defScope sTake) := ⟨rfl, rfl, rfl, by decide +kernel, rfl, by decide +kernel, by decide +kernel⟩
theorem ok_take {f : Addr} {fd : FuncData} {k : Nat} (F : Fun K "_law_take" "_law_take" sTake f fd) (mi : mg "int" = none) : FnOk P w K mg base CX0 (k + 1) f fd ["_law_box_here", "_law_below"] spTake := by
  refine F.ok scTake (fun vs H Q E h => ?_) (fun cdv A outer s H vs Q E hr h => ?_)
  · obtain ⟨b, n, m, rfl, _⟩ := h
    rfl
  · obtain ⟨b, n, m, rfl, ⟨A, B, C, hb, hA, hB, hB2, hC, hC2⟩, hn, hm, hm2, q⟩ := h
    refine ⟨_, pss_cons (ps_if (pt_cmpR op_gt (pe_ix ix_list (pv 0) pe_int (fun _ _ => rfl)) pe_int (nomark _))
        (pss_cons (ps_set (i := 2) scTake.nd rfl (.inl rfl) (pe_op op_modN (pe_callTy call_int1 (by rfl) mi (by decide +kernel) (pa_cons (pe_ix ix_list (pv 0) pe_int (fun _ _ => rfl)) pa_nil)) (pv 1)))
          (pss_cons (ps_asg (pe_op op_fdivN (pe_ix ix_list (pv 0) pe_int (fun _ _ => rfl)) (pv 1)) (pg_sub (pv 0) pe_int set_list)) (pss_one (ps_ret (pv 2))))) pss_nil)
      (pss_cons (ps_asg (pe_op op_add (pe_ix ix_list (pv 0) pe_int (fun _ _ => rfl)) pe_int) (pg_sub (pv 0) pe_int set_list))
      (pss_cons (ps_set (i := 3) scTake.nd rfl (.inl rfl) (pe_op op_modN (pe_callTy call_int1 (by rfl) mi (by decide +kernel) (pa_cons (pe_op op_mul (pe_op op_add (pe_ix ix_list (pv 0) pe_int (fun _ _ => rfl)) (pe_op op_mul pe_int (pe_ix ix_list (pv 0) pe_int (fun _ _ => rfl)))) (pe_op op_add pe_int (pe_ix ix_list (pv 0) pe_int (fun _ _ => rfl)))) pa_nil)) pe_int))
      (pss_cons (ps_set (i := 4) scTake.nd rfl (.inl rfl) (pe_op op_add (pe_op op_modN (pe_callTy call_int1 (by rfl) mi (by decide +kernel) (pa_cons (pv 3) pa_nil)) pe_int) pe_int))
      (pss_cons (ps_set (i := 5) scTake.nd rfl (.inl rfl) (pe_op op_modN (pe_callTy call_int1 (by rfl) mi (by decide +kernel) (pa_cons (pe_op op_mul (pe_op op_add (pe_op op_add (pv 3) (pe_ix ix_list (pv 0) pe_int (fun _ _ => rfl))) (pe_op op_fdivN (pe_ix ix_list (pv 0) pe_int (fun _ _ => rfl)) pe_int)) (pv 4)) pa_nil)) pe_int))
      (pss_one (ps_ret (pe_op op_modN (pe_callTy call_int1 (by rfl) mi (by decide +kernel) (pa_cons (pe_op op_fdivN (pe_op op_modN (pe_callTy call_int1 (by rfl) mi (by decide +kernel) (pa_cons (pe_op op_add (pe_op op_mul (pv 5) pe_int) (pv 3)) pa_nil)) pe_int) pe_int) pa_nil)) (pv 1)))))))), ?_⟩
    refine ⟨.ref b, rfl, b, _, 0, .int A, rfl, rfl, SqL.of hb, atI_nat (j := 0) rfl, _, _, rfl, rfl, _, rfl, ?_⟩
    refine ite2 (fun c => ?_) (fun c => ?_)
    · have hg : 0 < A := of_decide_eq_true c
      have r0 := Int.fmod_nonneg_of_pos A hm
      have r1 := Int.fmod_lt_of_pos A hm
      have d0 := Int.fdiv_nonneg hA (Int.le_of_lt hm)
      refine ⟨.ref b, rfl, b, _, 0, .int A, rfl, rfl, SqL.of hb, atI_nat (j := 0) rfl, .inl ⟨A, rfl, .int m, rfl, A, m, rfl, rfl, by omega, ?_⟩⟩
      refine ⟨.ref b, rfl, b, _, 0, .int A, rfl, rfl, SqL.of hb, atI_nat (j := 0) rfl, .int m, rfl, A, m, rfl, rfl, ⟨by omega, by omega⟩, ?_⟩
      refine ⟨.ref b, rfl, b, _, 0, 0, rfl, rfl, hb, rfl, ?_⟩
      refine ⟨_, rfl, ?_⟩
      exact q _ _ (Keep.upd H _) ⟨_, B, C, upd_same, d0, hB, hB2, hC, by omega⟩ r0 r1
    · refine ⟨.ref b, rfl, b, _, 2, .int C, rfl, rfl, SqL.of hb, atI_nat (j := 2) rfl, _, _, rfl, rfl, ?_⟩
      refine ⟨.ref b, rfl, b, _, 2, 2, rfl, rfl, hb, rfl, ?_⟩
      have hb2 : SqL K (upd H b (.lst [.int A, .int B, .int (C + 1)])) b [.int A, .int B, .int (C + 1)] := SqL.of upd_same
      have i1 : atI [V.int A, V.int B, V.int (C + 1)] 1 = some (V.int B) := atI_nat (j := 1) rfl
      have i2 : atI [V.int A, V.int B, V.int (C + 1)] 2 = some (V.int (C + 1)) := atI_nat (j := 2) rfl
      refine ⟨.ref b, rfl, b, _, 1, .int B, rfl, rfl, hb2, i1, .ref b, rfl, b, _, 2, .int (C + 1), rfl, rfl, hb2, i2, _, _, rfl, rfl, .inl (by decide), _, _, rfl, rfl, .ref b, rfl, b, _, 2, .int (C + 1), rfl, rfl, hb2, i2, _, _, rfl, rfl,
        _, _, rfl, rfl, .inr (by omega), .inl ⟨_, rfl, _, _, rfl, rfl, (by show (2147483647 : Int) ≠ 0; decide), ?_⟩⟩
      have o0 := Int.fmod_nonneg_of_pos ((B + 48271 * (C + 1)) * (39373 + (C + 1))) (b := 2147483647) (by decide)
      have o1 := Int.fmod_lt_of_pos ((B + 48271 * (C + 1)) * (39373 + (C + 1))) (b := 2147483647) (by decide)
      dsimp only
      revert o0 o1
      generalize Int.fmod ((B + 48271 * (C + 1)) * (39373 + (C + 1))) 2147483647 = o
      intro o0 o1
      refine ⟨.int o, rfl, .inl ⟨_, rfl, _, _, rfl, rfl, (by show (40009 : Int) ≠ 0; decide), _, _, rfl, rfl, ?_⟩⟩
      have v0 := Int.fmod_nonneg_of_pos o (b := 40009) (by decide)
      have v1 := Int.fmod_lt_of_pos o (b := 40009) (by decide)
      dsimp only
      revert v0 v1
      generalize Int.fmod o 40009 = v
      intro v0 v1
      refine ⟨.int o, rfl, .ref b, rfl, b, _, 2, .int (C + 1), rfl, rfl, hb2, i2, _, _, rfl, rfl, .ref b, rfl, b, _, 1, .int B, rfl, rfl, hb2, i1, _, _, rfl, rfl, dvM _, _, _, rfl, rfl, .int (v + 7), rfl, _, _, rfl, rfl, .inr (by omega),
        .inl ⟨_, rfl, _, _, rfl, rfl, (by show (2147483629 : Int) ≠ 0; decide), ?_⟩⟩
      refine ⟨.int _, rfl, _, _, rfl, rfl, .inr (by decide), .int o, rfl, _, _, rfl, rfl, .inl ⟨_, rfl, _, _, rfl, rfl, (by show (2147483587 : Int) ≠ 0; decide), _, _, rfl, rfl, dv64 _, .inl ⟨_, rfl, .int m, rfl, _, _, rfl, rfl, (by omega), ?_⟩⟩⟩
      exact q _ _ (Keep.upd H _) ⟨A, B, C + 1, upd_same, hA, hB, hB2, by omega, by omega⟩ (Int.fmod_nonneg_of_pos _ hm) (Int.fmod_lt_of_pos _ hm)
end
end K00
namespace K00
open PySem PySem.Spec PyProof.Rows L2 CS
theorem BoxAt.same {H H' : Hp} {b : Addr} {n : Nat} (h : BoxAt H b n) (s : Same H H') : BoxAt H' b n := by
  obtain ⟨A, B, C, e, r⟩ := h
  exact ⟨A, B, C, s _ _ e, r⟩
theorem BoxAt.up {H : Hp} {b : Addr} {n m : Nat} (h : BoxAt H b n) (l : n ≤ m) : BoxAt H b m := by
  obtain ⟨A, B, C, e, a1, a2, a3, a4, a5⟩ := h
  exact ⟨A, B, C, e, a1, a2, a3, a4, by omega⟩
theorem drop_map {α β : Type} (f : α → β) : ∀ (l : List α) (i : Nat), (l.map f).eraseIdx i = (l.eraseIdx i).map f
  | [], _ => rfl
  | _ :: _, 0 => rfl
  | x :: l, i + 1 => by
    show f x :: (l.map f).eraseIdx i = f x :: (l.eraseIdx i).map f
    rw [drop_map f l i]
theorem out_perm {α : Type} : ∀ {l : List α} {i : Nat} (h : i < l.length), List.Perm (l[i] :: l.eraseIdx i) l
  | [], _, h => absurd h (Nat.not_lt_zero _)
  | _ :: _, 0, _ => List.Perm.refl _
  | x :: l, i + 1, h => (List.Perm.swap x _ _).trans ((out_perm (l := l) (i := i) (Nat.lt_of_succ_lt_succ h)).cons x)
/-- the signs of a text -/
def signs (z : Str) : List Str := z.cps.toList.map fun c => ⟨#[c]⟩
section
variable {X : Cx}
theorem vals_signs : ∀ (l : List Nat) (us : List Value), us.length = l.length → (∀ (j : Nat) (u : Value), us[j]? = some u → ∃ (c : Nat) (t : Tok), l[j]? = some c ∧ u = Value.str ⟨#[c]⟩ t) → Vals (l.map fun c => V.str ⟨#[c]⟩) us
  | [], [], _, _ => .nil
  | [], _ :: _, h, _ => by cases h
  | _ :: _, [], h, _ => by cases h
  | c :: l, u :: us, h, q => by
    obtain ⟨c', t, e1, e2⟩ := q 0 u rfl
    cases e1
    refine .cons ⟨t, e2⟩ (vals_signs l us (Nat.succ.inj h) fun j v e => q (j + 1) v e)
theorem call_list_txt (hc : X.calm = true) : CallR X (.type "list") (fun xs H Q => ∃ z : Str, xs = [.str z] ∧ z.cps.size ≤ 1000 ∧ ∀ l, H l = none → Q (.ref l) (upd H l (.lst ((signs z).map V.str)))) := by
  intro pins s σ H xs us Q I r h
  obtain ⟨z, rfl, hz, q⟩ := h
  obtain ⟨u, rfl, rx⟩ := vals1 r
  obtain ⟨t, rfl⟩ := rx
  have hfit : z.cps.size ≤ sizeLine := Nat.le_of_lt (small1000 hz)
  refine call_list_str (I.ok.hd hc) z t (fun h' tk acc c' hk hS it => ?_) hfit
  have rv : Vals ((signs z).map V.str) acc.toList := by
    unfold signs
    rw [List.map_map]
    refine vals_signs z.cps.toList acc.toList (by rw [Array.length_toList, Array.length_toList]; exact it.1) fun j u e => ?_
    rw [Array.getElem?_toList] at e
    obtain ⟨c, u', e1, e2⟩ := it.2 j u e
    exact ⟨c, u', by rw [Array.getElem?_toList]; exact e1, e2⟩
  refine ⟨.ref s.heap.objs.size, _, I.laid (t' := tk) hk (Nat.le_refl _) (show ObjOk X.prog X.w _ h' _ (.lst _) from ⟨?_, acc.toList, c', rv, ?_⟩), rfl, q _ (I.hok.fresh (Nat.le_refl _))⟩
  · unfold signs
    rw [List.length_map, List.length_map, Array.length_toList]
    exact hfit
  · simpa using hS
end
section
variable {P : Program} {w : World} {K : PySem.W.Frag} {mg : Str → Option Value} {base : Heap}
/-! ### of -/
def spOf (K : PySem.W.Frag) : Sp := fun vs H Q _ => ∃ (b t : Addr) (n : Nat) (xs : List V), vs = [.ref b, .ref t] ∧ BoxAt H b n ∧ n ≤ 1000000 ∧ t ≠ b ∧ SqL K H t xs ∧ 0 < xs.length ∧ xs.length < 1000000 ∧
  ∀ (H' : Hp) (i : Nat) (x : V), Keep b H H' → BoxAt H' b (n + 1) → xs[i]? = some x → Q x H'
theorem scOf : FnScope ["_law_box_here", "_law_some"] ["_law_box_here", "_law_some"] (defScope sOf) := ⟨rfl, rfl, rfl, by decide +kernel, rfl, by decide +kernel, by decide +kernel⟩
theorem ok_of {f g : Addr} {fd gd : FuncData} {k : Nat} (F : Fun K "_law_of" "_law_of" sOf f fd) (G : FnOk P w K mg base CX0 k g gd ["_law_box_here", "_law_below"] spTake) (bG : Binds K gd ["_law_box_here", "_law_below"] []) (kG : PySem.W.keepIn K (.ref g) = true) (mG : mg "_law_take" = some (.ref g)) (ml : mg "len" = none) :
    FnOk P w K mg base CX0 (k + 1) f fd ["_law_box_here", "_law_some"] (spOf K) := by
  refine F.ok scOf (fun vs H Q E h => ?_) (fun cdv A outer s H vs Q E hr h => ?_)
  · obtain ⟨b, t, n, xs, rfl, _⟩ := h
    rfl
  · obtain ⟨b, t, n, xs, rfl, hb, hn, ntb, hS, h0, h1, q⟩ := h
    refine ⟨_, pss_one (ps_ret (pe_ix ix_list (pv 1) (pe_call G hr (by rfl) mG kG bG .nil pass0 (pa_cons (pv 0) (pa_cons (pe_callB call_len_seq (by rfl) ml PySem.boot_len (pa_cons (pv 1) pa_nil)) pa_nil))) (fun _ _ => rfl))), ?_⟩
    refine ⟨.ref t, rfl, .ref b, rfl, .ref t, rfl, t, _, rfl, .inl hS, ?_⟩
    refine ⟨b, n, _, rfl, hb, hn, (by omega), (by omega), fun H' r k1 b1 r0 r1 => ?_⟩
    have hlt : r.toNat < xs.length := by omega
    have hx : xs[r.toNat]? = some xs[r.toNat] := List.getElem?_eq_getElem hlt
    refine ⟨t, xs, r, xs[r.toNat], rfl, rfl, k1.sqL ntb hS, ?_, q H' r.toNat _ k1 b1 hx⟩
    have za := atI_nat hx
    rw [show ((r.toNat : Nat) : Int) = r by omega] at za
    exact za
/-! ### pick -/
def spPick (K : PySem.W.Frag) : Sp := fun vs H Q _ => ∃ (b : Addr) (v : V) (m : Int) (n : Nat) (ss : List Str), vs = [.ref b, v, .int m] ∧ BoxAt H b n ∧ n ≤ 900000 ∧ 0 ≤ m ∧ ss.length ≤ 100 ∧
  ((∃ t, v = .ref t ∧ t ≠ b ∧ SqL K H t (ss.map V.str)) ∨ ∃ z, v = .str z ∧ signs z = ss) ∧
  ∀ (H' : Hp) (p : Addr) (fs rs : List Str), Keep b H H' → BoxAt H' b (n + 100) → (H p = none) → p ≠ b → H' p = some (.lst (fs.map V.str)) → (fs.length : Int) = min m ss.length → List.Perm (fs ++ rs) ss → Q (.ref p) H'
theorem scPick : FnScope ["_law_box_here", "_law_pool_so", "_law_many_so", "_law_rest", "_law_found", "_law_turn"] ["_law_box_here", "_law_pool_so", "_law_many_so"] (defScope sPick) := ⟨rfl, rfl, rfl, by decide +kernel, rfl, by decide +kernel, by decide +kernel⟩
theorem ok_pick {f g : Addr} {fd gd : FuncData} {k : Nat} (F : Fun K "_law_pick" "_law_pick" sPick f fd) (G : FnOk P w K mg base CX0 k g gd ["_law_box_here", "_law_below"] spTake) (bG : Binds K gd ["_law_box_here", "_law_below"] []) (kG : PySem.W.keepIn K (.ref g) = true) (mG : mg "_law_take" = some (.ref g)) (ml : mg "len" = none) (mL : mg "list" = none) (mr : mg "range" = none) (mm : mg "min" = none) :
    FnOk P w K mg base CX0 (k + 1) f fd ["_law_box_here", "_law_pool_so", "_law_many_so"] (spPick K) := by
  refine F.ok scPick (fun vs H Q E h => ?_) (fun cdv A outer s H vs Q E hr h => ?_)
  · obtain ⟨b, v, m, n, ss, rfl, _⟩ := h
    rfl
  · obtain ⟨b, v, m, n, ss, rfl, hb, hn, hm, h1, hv, q⟩ := h
    refine ⟨_, pss_cons (ps_par (i := 3) (j := 4) (by rfl) scPick.nd rfl rfl (by decide) rfl rfl (pa_cons (pe_callTy (CallR.or call_list_of (call_list_txt (by rfl))) (by rfl) mL (by decide +kernel) (pa_cons (pv 1) pa_nil)) (pa_cons (pe_lst pa_nil) pa_nil)) (by rfl))
      (pss_cons (ps_for PassesOwn.never rfl (pi_range1 (by rfl) mr (pa_cons (pe_callB (call_min2 rfl) (by rfl) mm (by decide +kernel) (pa_cons (pv 2) (pa_cons (pe_callB call_len_seq (by rfl) ml PySem.boot_len (pa_cons (pv 3) pa_nil)) pa_nil))) pa_nil)) (pg_name (i := 5) scPick.nd rfl (.inl rfl))
        (pss_one (ps_expr (pe_bm PySem.F.plainAttrs_list PySem.F.slot_list_append PySem.F.type_list_append mt_append (pv 4)
          (pa_cons (pe_bm PySem.F.plainAttrs_list PySem.F.slot_list_pop PySem.F.type_list_pop mt_popAt (pv 3) (pa_cons (pe_call G hr (by rfl) mG kG bG .nil pass0 (pa_cons (pv 0) (pa_cons (pe_callB call_len_seq (by rfl) ml PySem.boot_len (pa_cons (pv 3) pa_nil)) pa_nil))) pa_nil)) pa_nil)))))
      (pss_one (ps_ret (pv 4)))), ?_⟩
    have hz0 : ∀ z : Str, signs z = ss → z.cps.size ≤ 1000 := fun z e => by
      rw [← e] at h1
      unfold signs at h1
      rw [List.length_map, Array.length_toList] at h1
      omega
    rcases hv with ⟨t, hv1, _, hS⟩ | ⟨z, hv1, hv2⟩
    · refine ⟨v, rfl, .inl ⟨t, _, (by rw [hv1]), .inl hS, fun l nl => ?_⟩⟩
      refine ⟨Nat.zero_le _, fun o no => ⟨_, _, rfl, ?_⟩⟩
      have nbl : b ≠ l := fun z => by
        obtain ⟨_, _, _, e, _⟩ := hb
        rw [z, nl] at e
        cases e
      have nlo : l ≠ o := fun z => by
        rw [← z, upd_same] at no
        cases no
      have nbo : b ≠ o := fun z => by
        obtain ⟨_, _, _, e, _⟩ := hb
        rw [← z, upd_ne nbl, e] at no
        cases no
      have hL : SqL K (upd (upd H l (.lst (ss.map V.str))) o (.lst [])) l (ss.map V.str) := by
        refine SqL.of ?_
        rw [upd_ne nlo]
        exact upd_same
      have s0 : Same H (upd (upd H l (.lst (ss.map V.str))) o (.lst [])) := (same_upd nl).trans (same_upd no)
      have noH : H o = none := by
        rw [upd_ne nlo.symm] at no
        exact no
      have hmn : (if (((ss.map V.str).length : Nat) : Int) < m then (((ss.map V.str).length : Nat) : Int) else m) = min m ss.length := by
        rw [List.length_map]
        split <;> omega
      refine ⟨.int m, rfl, .ref l, rfl, l, _, rfl, .inl hL, _, _, rfl, ?_⟩
      rw [hmn]
      refine ⟨_, rfl, by omega, by omega, for_range (fun i σ H' => ∃ (y5 : Option V) (fs rs : List Str), σ = [some (.ref b), some v, some (.int m), some (.ref l), some (.ref o), y5] ∧ Keep b H H' ∧ BoxAt H' b (n + i) ∧ H' l = some (.lst (rs.map V.str)) ∧ H' o = some (.lst (fs.map V.str)) ∧ fs.length = i ∧ List.Perm (fs ++ rs) ss)
        ⟨none, [], ss, rfl, Keep.of_same s0, hb.same s0, (by rw [upd_ne nlo]; exact upd_same), upd_same, rfl, List.Perm.refl _⟩ ?_ ?_⟩
      · rintro i σ H' hi ⟨y5, fs, rs, rfl, k1, b1, eL, eO, hfl, hp⟩
        have hrl : fs.length + rs.length = ss.length := by
          have z := hp.length_eq
          rw [List.length_append] at z
          exact z
        have hil : i < ss.length := by omega
        refine ⟨.ref o, rfl, .inl ⟨rfl, _, SqL.of eO⟩, .ref l, rfl, .inl ⟨rfl, _, SqL.of eL⟩, .ref b, rfl, .ref l, rfl, l, _, rfl, .inl (SqL.of eL), b, n + i, _, rfl, b1, by omega, (by rw [List.length_map]; omega), (by rw [List.length_map]; omega), fun H2 r k2 b2 r0 r1 => ?_⟩
        rw [List.length_map] at r1
        have hlt : r.toNat < rs.length := by omega
        have eL2 : H2 l = some (.lst (rs.map V.str)) := k2 _ _ nbl.symm eL
        have eO2 : H2 o = some (.lst (fs.map V.str)) := k2 _ _ nbo.symm eO
        have hx : (rs.map V.str)[r.toNat]? = some (.str rs[r.toNat]) := by
          rw [List.getElem?_map, List.getElem?_eq_getElem hlt]
          rfl
        refine ⟨l, _, r, r.toNat, _, rfl, rfl, eL2, by omega, by omega, ?_, hx, ?_⟩
        · unfold seqIndex?
          rw [List.length_map, if_neg (show ¬ r < 0 by omega)]
          simp only [Bool.and_eq_true, decide_eq_true_eq]
          rw [if_pos ⟨r0, r1⟩]
        · refine ⟨o, _, _, rfl, rfl, (by rw [upd_ne nlo.symm]; exact eO2), ?_, ?_⟩
          · rw [List.length_map]
            exact Nat.lt_of_le_of_lt (show fs.length ≤ 1000 by omega) (small1000 (Nat.le_refl _))
          · refine ⟨_, fs ++ [rs[r.toNat]], rs.eraseIdx r.toNat, rfl, fun c u nc e => ?_, ?_, ?_, ?_, ?_, ?_⟩
            · have e2 := k2 c u nc (k1 c u nc e)
              have ncl : c ≠ l := ne_of_none e nl
              have nco : c ≠ o := ne_of_none e noH
              rw [upd_ne nco, upd_ne ncl]
              exact e2
            · obtain ⟨A1, B1, C1, eb, rr⟩ := b2
              exact ⟨A1, B1, C1, by rw [upd_ne nbo, upd_ne nbl]; exact eb, rr⟩
            · rw [upd_ne nlo, upd_same, drop_map]
            · rw [upd_same, List.map_append]
              rfl
            · rw [List.length_append, hfl]
              rfl
            · rw [List.append_assoc]
              exact (List.Perm.append_left fs (out_perm hlt)).trans hp
      · rintro σ H' ⟨y5, fs, rs, rfl, k1, b1, eL, eO, hfl, hp⟩
        exact ⟨.ref o, rfl, q H' o fs rs k1 (b1.up (by omega)) noH nbo.symm eO (by rw [hfl]; omega) hp⟩
    · refine ⟨v, rfl, .inr ⟨z, (by rw [hv1]), hz0 z hv2, fun l nl => ?_⟩⟩
      rw [hv2]
      refine ⟨Nat.zero_le _, fun o no => ⟨_, _, rfl, ?_⟩⟩
      have nbl : b ≠ l := fun z => by
        obtain ⟨_, _, _, e, _⟩ := hb
        rw [z, nl] at e
        cases e
      have nlo : l ≠ o := fun z => by
        rw [← z, upd_same] at no
        cases no
      have nbo : b ≠ o := fun z => by
        obtain ⟨_, _, _, e, _⟩ := hb
        rw [← z, upd_ne nbl, e] at no
        cases no
      have hL : SqL K (upd (upd H l (.lst (ss.map V.str))) o (.lst [])) l (ss.map V.str) := by
        refine SqL.of ?_
        rw [upd_ne nlo]
        exact upd_same
      have s0 : Same H (upd (upd H l (.lst (ss.map V.str))) o (.lst [])) := (same_upd nl).trans (same_upd no)
      have noH : H o = none := by
        rw [upd_ne nlo.symm] at no
        exact no
      have hmn : (if (((ss.map V.str).length : Nat) : Int) < m then (((ss.map V.str).length : Nat) : Int) else m) = min m ss.length := by
        rw [List.length_map]
        split <;> omega
      refine ⟨.int m, rfl, .ref l, rfl, l, _, rfl, .inl hL, _, _, rfl, ?_⟩
      rw [hmn]
      refine ⟨_, rfl, by omega, by omega, for_range (fun i σ H' => ∃ (y5 : Option V) (fs rs : List Str), σ = [some (.ref b), some v, some (.int m), some (.ref l), some (.ref o), y5] ∧ Keep b H H' ∧ BoxAt H' b (n + i) ∧ H' l = some (.lst (rs.map V.str)) ∧ H' o = some (.lst (fs.map V.str)) ∧ fs.length = i ∧ List.Perm (fs ++ rs) ss)
        ⟨none, [], ss, rfl, Keep.of_same s0, hb.same s0, (by rw [upd_ne nlo]; exact upd_same), upd_same, rfl, List.Perm.refl _⟩ ?_ ?_⟩
      · rintro i σ H' hi ⟨y5, fs, rs, rfl, k1, b1, eL, eO, hfl, hp⟩
        have hrl : fs.length + rs.length = ss.length := by
          have z := hp.length_eq
          rw [List.length_append] at z
          exact z
        have hil : i < ss.length := by omega
        refine ⟨.ref o, rfl, .inl ⟨rfl, _, SqL.of eO⟩, .ref l, rfl, .inl ⟨rfl, _, SqL.of eL⟩, .ref b, rfl, .ref l, rfl, l, _, rfl, .inl (SqL.of eL), b, n + i, _, rfl, b1, by omega, (by rw [List.length_map]; omega), (by rw [List.length_map]; omega), fun H2 r k2 b2 r0 r1 => ?_⟩
        rw [List.length_map] at r1
        have hlt : r.toNat < rs.length := by omega
        have eL2 : H2 l = some (.lst (rs.map V.str)) := k2 _ _ nbl.symm eL
        have eO2 : H2 o = some (.lst (fs.map V.str)) := k2 _ _ nbo.symm eO
        have hx : (rs.map V.str)[r.toNat]? = some (.str rs[r.toNat]) := by
          rw [List.getElem?_map, List.getElem?_eq_getElem hlt]
          rfl
        refine ⟨l, _, r, r.toNat, _, rfl, rfl, eL2, by omega, by omega, ?_, hx, ?_⟩
        · unfold seqIndex?
          rw [List.length_map, if_neg (show ¬ r < 0 by omega)]
          simp only [Bool.and_eq_true, decide_eq_true_eq]
          rw [if_pos ⟨r0, r1⟩]
        · refine ⟨o, _, _, rfl, rfl, (by rw [upd_ne nlo.symm]; exact eO2), ?_, ?_⟩
          · rw [List.length_map]
            exact Nat.lt_of_le_of_lt (show fs.length ≤ 1000 by omega) (small1000 (Nat.le_refl _))
          · refine ⟨_, fs ++ [rs[r.toNat]], rs.eraseIdx r.toNat, rfl, fun c u nc e => ?_, ?_, ?_, ?_, ?_, ?_⟩
            · have e2 := k2 c u nc (k1 c u nc e)
              have ncl : c ≠ l := ne_of_none e nl
              have nco : c ≠ o := ne_of_none e noH
              rw [upd_ne nco, upd_ne ncl]
              exact e2
            · obtain ⟨A1, B1, C1, eb, rr⟩ := b2
              exact ⟨A1, B1, C1, by rw [upd_ne nbo, upd_ne nbl]; exact eb, rr⟩
            · rw [upd_ne nlo, upd_same, drop_map]
            · rw [upd_same, List.map_append]
              rfl
            · rw [List.length_append, hfl]
              rfl
            · rw [List.append_assoc]
              exact (List.Perm.append_left fs (out_perm hlt)).trans hp
      · rintro σ H' ⟨y5, fs, rs, rfl, k1, b1, eL, eO, hfl, hp⟩
        exact ⟨.ref o, rfl, q H' o fs rs k1 (b1.up (by omega)) noH nbo.symm eO (by rw [hfl]; omega) hp⟩
end
end K00
namespace K00
open PySem PySem.Spec PyProof.Rows L2 CS
theorem Keep.free {b p : Addr} {H H' : Hp} (k : Keep b H H') (n : p ≠ b) (h : H' p = none) : H p = none := by
  cases e : H p with
  | none => rfl
  | some o =>
    rw [k _ _ n e] at h
    cases h
section
variable {P : Program} {w : World} {K : PySem.W.Frag} {mg : Str → Option Value} {base : Heap}
/-! ### tags -/
def letters : List Nat := (Str.ofString "abcdefghijklmnopqrstuvwxyz").cps.toList
/-- a PLACE -/
def isPl (z : Str) : Bool := decide (0 < z.cps.size) && decide (z.cps.size < 9) && z.cps.toList.all fun c => decide (c ∈ letters)
def spTags (K : PySem.W.Frag) : Sp := fun vs H Q _ => ∃ (b : Addr) (m : Int) (n : Nat), vs = [.ref b, .int m] ∧ BoxAt H b n ∧ n ≤ 800000 ∧ 0 ≤ m ∧ m ≤ 8 ∧
  ∀ (H' : Hp) (p : Addr) (fs : List Str), Keep b H H' → BoxAt H' b (n + 101) → H p = none → p ≠ b → H' p = some (.lst (fs.map V.str)) → (fs.length : Int) = m → fs.Nodup → (∀ z ∈ fs, PyData.strOk z = true) → (∀ z ∈ fs, isPl z = true) → Q (.ref p) H'
def pool0 : List Str := ["a", "b", "c", "d", "e", "f", "g", "h"]
def pool1 : List Str := ["a", "ab", "abc", "b", "ba", "z", "zzzzzzzz", "y"]
def pool2 : List Str := ["hall", "hal", "desk", "shop", "yard", "gate", "inn", "ford"]
theorem part_nodup {fs rs ss : List Str} (h : List.Perm (fs ++ rs) ss) (n : ss.Nodup) : fs.Nodup := by
  have q := h.nodup_iff.mpr n
  exact (List.nodup_append.mp q).1
theorem scTags : FnScope ["_law_box_here", "_law_many_so", "_law_kind_so"] ["_law_box_here", "_law_many_so"] (defScope sTags) := ⟨rfl, rfl, rfl, by decide +kernel, rfl, by decide +kernel, by decide +kernel⟩
theorem ok_tags {f g g2 : Addr} {fd gd gd2 : FuncData} {k : Nat} (F : Fun K "_law_tags" "_law_tags" sTags f fd) (G : FnOk P w K mg base CX0 k g gd ["_law_box_here", "_law_below"] spTake) (bG : Binds K gd ["_law_box_here", "_law_below"] []) (kG : PySem.W.keepIn K (.ref g) = true) (mG : mg "_law_take" = some (.ref g))
    (G2 : FnOk P w K mg base CX0 (k + 1) g2 gd2 ["_law_box_here", "_law_pool_so", "_law_many_so"] (spPick K)) (bG2 : Binds K gd2 ["_law_box_here", "_law_pool_so", "_law_many_so"] []) (kG2 : PySem.W.keepIn K (.ref g2) = true) (mG2 : mg "_law_pick" = some (.ref g2)) :
    FnOk P w K mg base CX0 (k + 2) f fd ["_law_box_here", "_law_many_so"] (spTags K) := by
  refine F.ok scTags (fun vs H Q E h => ?_) (fun cdv A outer s H vs Q E hr h => ?_)
  · obtain ⟨b, m, n, rfl, _⟩ := h
    rfl
  · obtain ⟨b, m, n, rfl, hb, hn, hm, hm2, q⟩ := h
    have hr1 : Room k _ := hr.mono (by omega)
    refine ⟨_, pss_cons (ps_set (i := 2) scTags.nd rfl (.inl rfl) (pe_call G hr1 (by rfl) mG kG bG .nil pass0 (pa_cons (pv 0) (pa_cons pe_int pa_nil))))
      (pss_cons (ps_if (pt_cmpR op_eq (pv 2) pe_int (nomark _)) (pss_one (ps_ret (pe_call G2 hr (by rfl) mG2 kG2 bG2 .nil pass0 (pa_cons (pv 0) (pa_cons pe_str (pa_cons (pv 1) pa_nil)))))) pss_nil)
      (pss_cons (ps_if (pt_cmpR op_eq (pv 2) pe_int (nomark _)) (pss_one (ps_ret (pe_call G2 hr (by rfl) mG2 kG2 bG2 .nil pass0 (pa_cons (pv 0) (pa_cons (pe_lst (pa_cons pe_str (pa_cons pe_str (pa_cons pe_str (pa_cons pe_str (pa_cons pe_str (pa_cons pe_str (pa_cons pe_str (pa_cons pe_str pa_nil))))))))) (pa_cons (pv 1) pa_nil)))))) pss_nil)
      (pss_one (ps_ret (pe_call G2 hr (by rfl) mG2 kG2 bG2 .nil pass0 (pa_cons (pv 0) (pa_cons (pe_lst (pa_cons pe_str (pa_cons pe_str (pa_cons pe_str (pa_cons pe_str (pa_cons pe_str (pa_cons pe_str (pa_cons pe_str (pa_cons pe_str pa_nil))))))))) (pa_cons (pv 1) pa_nil)))))))), ?_⟩
    refine ⟨.ref b, rfl, b, n, 3, rfl, hb, by omega, by decide, by decide, fun H1 r k1 b1 r0 r1 => ?_⟩
    have tail : ∀ (H2 : Hp) (ss : List Str), Keep b H H2 → BoxAt H2 b (n + 1) → ss.length = 8 → ss.Nodup → ss.all PyData.strOk = true → ss.all isPl = true → ∀ (H' : Hp) (p : Addr) (fs rs : List Str), Keep b H2 H' → BoxAt H' b (n + 1 + 100) → H2 p = none → p ≠ b → H' p = some (.lst (fs.map V.str)) → (fs.length : Int) = min m ss.length → List.Perm (fs ++ rs) ss → Q (.ref p) H' := by
      intro H2 ss k2 b2 hl hnd hok hpl H' p fs rs k3 b3 np npb ep el hp
      refine q H' p fs (k2.trans k3) (b3.up (by omega)) (k2.free npb np) npb ep ?_ (part_nodup hp hnd) (fun z hz => List.all_eq_true.mp hok z (hp.mem_iff.mp (List.mem_append_left _ hz))) fun z hz => List.all_eq_true.mp hpl z (hp.mem_iff.mp (List.mem_append_left _ hz))
      rw [el, hl]
      omega
    refine ⟨.int r, rfl, rfl, _, rfl, ?_⟩
    refine ite2 (fun c => ?_) (fun c => ?_)
    · refine ⟨.ref b, rfl, .int m, rfl, b, _, m, n + 1, pool0, rfl, b1, by omega, hm, by decide, .inr ⟨_, rfl, by decide +kernel⟩, ?_⟩
      exact tail H1 pool0 k1 b1 rfl (by decide +kernel) (by decide +kernel) (by decide +kernel)
    · refine ⟨.int r, rfl, rfl, _, rfl, ?_⟩
      refine ite2 (fun c => ?_) (fun c => ?_)
      · refine ⟨.ref b, rfl, (by show 8 ≤ sizeLine; decide), fun t nt => ?_⟩
        have ntb : t ≠ b := fun z => by
          obtain ⟨_, _, _, e, _⟩ := b1
          rw [← z, nt] at e
          cases e
        refine ⟨.int m, rfl, b, _, m, n + 1, pool1, rfl, b1.same (same_upd nt), by omega, hm, by decide, .inl ⟨t, rfl, ntb, SqL.of upd_same⟩, ?_⟩
        exact tail _ pool1 (k1.trans (Keep.of_same (same_upd nt))) (b1.same (same_upd nt)) rfl (by decide +kernel) (by decide +kernel) (by decide +kernel)
      · refine ⟨.ref b, rfl, (by show 8 ≤ sizeLine; decide), fun t nt => ?_⟩
        have ntb : t ≠ b := fun z => by
          obtain ⟨_, _, _, e, _⟩ := b1
          rw [← z, nt] at e
          cases e
        refine ⟨.int m, rfl, b, _, m, n + 1, pool2, rfl, b1.same (same_upd nt), by omega, hm, by decide, .inl ⟨t, rfl, ntb, SqL.of upd_same⟩, ?_⟩
        exact tail _ pool2 (k1.trans (Keep.of_same (same_upd nt))) (b1.same (same_upd nt)) rfl (by decide +kernel) (by decide +kernel) (by decide +kernel)
end
end K00
namespace K00
open PySem PySem.Spec PyProof.Rows L2 CS
section
variable {P : Program} {w : World} {K : PySem.W.Frag} {mg : Str → Option Value} {base : Heap}
/-! ### walk -/
/-- neighbours are unlike -/
def Alt (rs : List Str) : Prop := ∀ (j : Nat) (x y : Str), rs[j]? = some x → rs[j + 1]? = some y → x ≠ y
def WR (ss rs : List Str) : Prop := (∀ r ∈ rs, r ∈ ss) ∧ Alt rs
theorem alt_one (z : Str) : Alt [z] := fun j x y h1 h2 => by
  cases j with
  | zero => cases h2
  | succ j => cases h2
theorem wr_snoc {ss rs : List Str} {la z : Str} (h : WR ss rs) (hla : rs[rs.length - 1]? = some la) (hz : z ∈ ss) (hne : z ≠ la) : WR ss (rs ++ [z]) := by
  refine ⟨fun r hr => (List.mem_append.mp hr).elim (h.1 r) fun hr => by rw [List.mem_singleton.mp hr]; exact hz, fun j x y h1 h2 => ?_⟩
  by_cases hj : j + 1 < rs.length
  · rw [List.getElem?_append_left (by omega)] at h1 h2
    exact h.2 j x y h1 h2
  · have hl := (List.getElem?_eq_some_iff.mp h2).1
    rw [List.length_append, List.length_singleton] at hl
    have ej : j + 1 = rs.length := by omega
    rw [ej, List.getElem?_append_right (Nat.le_refl _), Nat.sub_self] at h2
    rw [List.getElem?_append_left (by omega), show j = rs.length - 1 by omega, hla] at h1
    rw [← Option.some.inj h1, ← (Option.some.inj h2 : z = y)]
    exact fun q => hne q.symm
def spWalk (K : PySem.W.Frag) : Sp := fun vs H Q _ => ∃ (b t : Addr) (m : Int) (n : Nat) (ss : List Str), vs = [.ref b, .ref t, .int m] ∧ BoxAt H b n ∧ n ≤ 700000 ∧ t ≠ b ∧ SqL K H t (ss.map V.str) ∧ 2 ≤ ss.length ∧ ss.length ≤ 100 ∧ ss.Nodup ∧ 0 ≤ m ∧ m ≤ 100 ∧
  ∀ (H' : Hp) (p : Addr) (rs : List Str), Keep b H H' → BoxAt H' b (n + 1000) → H p = none → p ≠ b → H' p = some (.tup (rs.map V.str)) → 0 < rs.length → (rs.length : Int) ≤ m + 2 → (∀ r ∈ rs, r ∈ ss) → Alt rs → Q (.ref p) H'
abbrev nWalk : List Str := ["_law_box_here", "_law_tags_here", "_law_most_so", "_law_row_so", "_law_turn", "_law_near", "_law_back_so", "_law_tag"]
theorem scWalk : FnScope nWalk ["_law_box_here", "_law_tags_here", "_law_most_so"] (defScope sWalk) := ⟨rfl, rfl, rfl, by decide +kernel, rfl, by decide +kernel, by decide +kernel⟩
theorem some_other {ss : List Str} (h : 2 ≤ ss.length) (n : ss.Nodup) (x : Str) : 0 < (ss.filter fun y => !decide (V.str y = V.str x)).length := by
  match ss, h, n with
  | a :: c :: r, _, n =>
    have hac : a ≠ c := fun e => by
      have q := (List.nodup_cons.mp n).1
      rw [e] at q
      exact q (List.mem_cons_self ..)
    refine List.length_pos_of_mem (a := if a = x then c else a) ?_
    by_cases e : a = x
    · rw [if_pos e]
      refine List.mem_filter.mpr ⟨List.mem_cons_of_mem _ (List.mem_cons_self ..), ?_⟩
      simp only [Bool.not_eq_true', decide_eq_false_iff_not, V.str.injEq]
      exact fun z => hac (e.trans z.symm)
    · rw [if_neg e]
      refine List.mem_filter.mpr ⟨List.mem_cons_self .., ?_⟩
      simp only [Bool.not_eq_true', decide_eq_false_iff_not, V.str.injEq]
      exact e
theorem atI_neg {xs : List V} {x : V} {j : Nat} (h : xs[xs.length - j]? = some x) (h0 : 0 < j) (hj : j ≤ xs.length) : atI xs (-(j : Int)) = some x := by
  have e : ixN xs.length (-(j : Int)) = some (xs.length - j) := by
    unfold ixN
    rw [if_neg (by omega), if_pos (by omega)]
    congr 1
    omega
  unfold atI
  rw [e]
  exact h
theorem ok_walk {f g g2 : Addr} {fd gd gd2 : FuncData} {k : Nat} (F : Fun K "_law_walk" "_law_walk" sWalk f fd) (G : FnOk P w K mg base CX0 k g gd ["_law_box_here", "_law_below"] spTake) (bG : Binds K gd ["_law_box_here", "_law_below"] []) (kG : PySem.W.keepIn K (.ref g) = true) (mG : mg "_law_take" = some (.ref g))
    (G2 : FnOk P w K mg base CX0 (k + 1) g2 gd2 ["_law_box_here", "_law_some"] (spOf K)) (bG2 : Binds K gd2 ["_law_box_here", "_law_some"] []) (kG2 : PySem.W.keepIn K (.ref g2) = true) (mG2 : mg "_law_of" = some (.ref g2)) (mr : mg "range" = none) (ml : mg "len" = none) (mt : mg "tuple" = none) :
    FnOk P w K mg base CX0 (k + 2) f fd ["_law_box_here", "_law_tags_here", "_law_most_so"] (spWalk K) := by
  refine F.ok scWalk (fun vs H Q E h => ?_) (fun cdv A outer s H vs Q E hr h => ?_)
  · obtain ⟨b, t, m, n, ss, rfl, _⟩ := h
    rfl
  · obtain ⟨b, t, m, n, ss, rfl, hb, hn, ntb, hS, hl, hl2, hnd, hm, hm2, q⟩ := h
    have hr1 : Room k _ := hr.mono (by omega)
    refine ⟨_, pss_cons (ps_set (i := 3) scWalk.nd rfl (.inr rfl) (pe_lst (pa_cons (pe_call G2 hr (by rfl) mG2 kG2 bG2 .nil pass0 (pa_cons (pv 0) (pa_cons (pv 1) pa_nil))) pa_nil)))
      (pss_cons (ps_for PassesOwn.never rfl (pi_range1 (by rfl) mr (pa_cons (pe_call G hr1 (by rfl) mG kG bG .nil pass0 (pa_cons (pv 0) (pa_cons (pe_op op_add (pv 2) pe_int) pa_nil))) pa_nil)) (pg_name (i := 4) scWalk.nd rfl (.inl rfl))
        (pss_cons (ps_setLc (i := 5) (own := [("_law_tag", 7)]) (g := gName 7) rfl scWalk.nd rfl rfl (sw_true rfl rfl rfl (by decide +kernel)) (pi_list (pv 1)) (blkOk_by (own := [("_law_tag", 7)]) (N := nWalk) (sc := defScope sWalk) (by decide +kernel))
            (fun _ _ _ _ _ => pg_name (i := 7) scWalk.nd rfl (Or.inl rfl) (.inr rfl)) (fun _ _ _ _ _ => pts_one (pt_cmpR op_ne (pv 7) (pe_ix (r := rIxL K) ix_list (pv 3) (pe_un un_neg pe_int) (fun _ _ => rfl)) (nomark _))) (fun _ _ _ _ _ => pv 7))
        (pss_cons (ps_set (i := 6) scWalk.nd rfl (.inl rfl) (pe_and (pe_cmpR op_gt (pe_callB call_len_seq (by rfl) ml PySem.boot_len (pa_cons (pv 3) pa_nil)) pe_int (nomark _)) (pe_one (pe_cmpR op_eq (pe_call G hr1 (by rfl) mG kG bG .nil pass0 (pa_cons (pv 0) (pa_cons pe_int pa_nil))) pe_int (nomark _)))))
        (pss_one (ps_expr (pe_bm PySem.F.plainAttrs_list PySem.F.slot_list_append PySem.F.type_list_append mt_append (pv 3)
          (pa_cons (pe_ifExp (pt_val (pv 6)) (pe_ix ix_list (pv 3) (pe_un un_neg pe_int) (fun _ _ => rfl)) (pe_call G2 hr (by rfl) mG2 kG2 bG2 .nil pass0 (pa_cons (pv 0) (pa_cons (pv 5) pa_nil)))) pa_nil)))))))
      (pss_cons (ps_if (PW.pt (pw_and (pt_cmpR op_ne (pe_ix ix_list (pv 3) (pe_un un_neg pe_int) (fun _ _ => rfl)) (pe_ix ix_list (pv 3) pe_int (fun _ _ => rfl)) (nomark _))
          (pw_and (pt_cmpR op_le (pe_callB call_len_seq (by rfl) ml PySem.boot_len (pa_cons (pv 3) pa_nil)) (pv 2) (nomark _)) (pw_and1 (pt_cmpR op_eq (pe_call G hr1 (by rfl) mG kG bG .nil pass0 (pa_cons (pv 0) (pa_cons pe_int pa_nil))) pe_int (nomark _))))))
        (pss_one (ps_expr (pe_bm PySem.F.plainAttrs_list PySem.F.slot_list_append PySem.F.type_list_append mt_append (pv 3) (pa_cons (pe_ix ix_list (pv 3) pe_int (fun _ _ => rfl)) pa_nil)))) pss_nil)
      (pss_one (ps_ret (pe_callTy call_tuple_of (by rfl) mt (by decide +kernel) (pa_cons (pv 3) pa_nil)))))), ?_⟩
    have strOf : ∀ (i : Nat) (x : V) (l : List Str), (l.map V.str)[i]? = some x → ∃ z, x = .str z ∧ l[i]? = some z := fun i x l e => by
      rw [List.getElem?_map] at e
      cases e2 : l[i]? with
      | none =>
        rw [e2] at e
        cases e
      | some z =>
        rw [e2] at e
        exact ⟨z, (Option.some.inj e).symm, rfl⟩
    refine ⟨.ref b, rfl, .ref t, rfl, b, t, n, _, rfl, hb, by omega, ntb, hS, (by rw [List.length_map]; omega), (by rw [List.length_map]; omega), fun H1 i0 x0 k1 b1 hx0 => ?_⟩
    obtain ⟨z0, rfl, hz0⟩ := strOf _ _ _ hx0
    refine ⟨(by show 1 ≤ sizeLine; decide), fun l nl => ?_⟩
    have nbl : b ≠ l := fun z => by
      obtain ⟨_, _, _, e, _⟩ := b1
      rw [z, nl] at e
      cases e
    have noH : H l = none := k1.free nbl.symm nl
    -- how many turns
    refine ⟨.ref b, rfl, .int m, rfl, _, _, rfl, rfl, b, n + 1, _, rfl, b1.same (same_upd nl), by omega, by omega, by omega, fun H2 tn k2 b2 t0 t1 => ?_⟩
    have eL2 : H2 l = some (.lst ([z0].map V.str)) := k2 _ _ nbl.symm upd_same
    have k02 : Keep b H H2 := (k1.trans (Keep.of_same (same_upd nl))).trans k2
    refine ⟨tn, rfl, by omega, by omega, for_range (fun i σ H' => ∃ (y4 y5 y6 y7 : Option V) (rs : List Str), σ = [some (.ref b), some (.ref t), some (.int m), some (.ref l), y4, y5, y6, y7] ∧ Keep b H H' ∧ BoxAt H' b (n + 2 + 2 * i) ∧ H' l = some (.lst (rs.map V.str)) ∧ rs.length = i + 1 ∧ WR ss rs)
      ⟨none, none, none, none, [z0], rfl, k02, b2, eL2, rfl, ⟨fun r hr => by rw [List.mem_singleton.mp hr]; exact List.mem_of_getElem? hz0, alt_one z0⟩⟩ ?_ ?_⟩
    · rintro i σ H3 hi ⟨y4, y5, y6, y7, rs, rfl, k3, b3, e3, hrl, hin⟩
      have hil : (i : Int) < tn := by omega
      have hS3 : SqL K H3 t (ss.map V.str) := k3.sqL ntb hS
      obtain ⟨la, hla⟩ : ∃ la, rs[rs.length - 1]? = some la := ⟨rs[rs.length - 1]'(by omega), List.getElem?_eq_getElem (by omega)⟩
      have hlaV : (rs.map V.str)[(rs.map V.str).length - 1]? = some (.str la) := by
        rw [List.length_map, List.getElem?_map, hla]
        rfl
      have atla : atI (rs.map V.str) (-1) = some (.str la) := atI_neg (j := 1) hlaV (by decide) (by rw [List.length_map]; omega)
      refine ⟨.ref t, rfl, t, rfl, ⟨_, hS3⟩, fun D nD => lc_list (K := K) (a := t) (xs := ss.map V.str) (fun j H4 => Same H3 H4 ∧ H4 D = some (.lst (((ss.take j).filter fun y => !decide (V.str y = V.str la)).map V.str))) ⟨same_upd nD, upd_same⟩ (fun j H4 _ z => z.1.seq hS3) ?_ ?_⟩
      · rintro j x H4 hx ⟨s4, eD⟩
        obtain ⟨y, rfl, hy⟩ := strOf _ _ _ hx
        refine ⟨rfl, .str y, rfl, .ref l, rfl, 1, rfl, l, _, -1, .str la, rfl, rfl, SqL.of (s4 _ _ e3), atla, rfl, _, rfl, ?_⟩
        have hj : j < ss.length := (List.getElem?_eq_some_iff.mp hy).1
        rw [take_snoc hy, List.filter_append]
        refine ite2 (fun c => ?_) (fun c => ?_)
        · refine ⟨.str y, rfl, _, eD, ?_, fun c2 o e => ?_, ?_⟩
          · rw [List.length_map]
            refine Nat.lt_of_le_of_lt (Nat.le_trans (List.length_filter_le _ _) ?_) (small1000 (n := 100) (by decide))
            rw [List.length_take]
            omega
          · rw [upd_ne (ne_of_none e nD)]
            exact s4 _ _ e
          · rw [upd_same, List.filter_cons, if_pos c, List.filter_nil, List.map_append]
            rfl
        · rw [List.filter_cons, if_neg c, List.filter_nil, List.append_nil]
          exact ⟨s4, eD⟩
      · rintro H4 ⟨s4, eD⟩
        rw [List.length_map, List.take_length] at eD
        have npos := some_other hl hnd la
        have nle := List.length_filter_le (fun y => !decide (V.str y = V.str la)) ss
        have nin : ∀ y ∈ ss.filter (fun y => !decide (V.str y = V.str la)), y ∈ ss ∧ y ≠ la := fun y hy => ⟨(List.mem_filter.mp hy).1, fun z => by have q := (List.mem_filter.mp hy).2; rw [z] at q; simp at q⟩
        generalize (ss.filter fun y => !decide (V.str y = V.str la)) = near at eD npos nle nin
        have k4 : Keep b H H4 := k3.trans (Keep.of_same s4)
        have b4 := b3.same s4
        have e4 := s4 _ _ e3
        have nDb : D ≠ b := fun z => by
          obtain ⟨_, _, _, e, _⟩ := b3
          rw [← z, nD] at e
          cases e
        have nDl : D ≠ l := fun z => by
          rw [← z, nD] at e3
          cases e3
        have sz : (rs.map V.str).length < sizeLine := by
          rw [List.length_map]
          exact small1000 (n := rs.length) (by omega)
        refine ⟨.ref l, rfl, l, _, rfl, .inl (SqL.of e4), _, _, rfl, rfl, _, rfl, ?_⟩
        refine ite2 (fun c => ?_) (fun c => ?_)
        · have c' : (1 : Int) < ((rs.map V.str).length : Nat) := of_decide_eq_true c
          rw [List.length_map] at c'
          refine ⟨.ref b, rfl, b, _, 3, rfl, b4, by omega, by decide, by decide, fun H5 r k5 b5 r0 r1 => ⟨rfl, ?_⟩⟩
          have e5 := k5 _ _ nbl.symm e4
          refine ⟨.ref l, rfl, .inl ⟨rfl, _, SqL.of e5⟩, .bl _, rfl, _, rfl, ?_⟩
          refine ite2 (fun _ => ?_) (fun _ => ?_)
          · obtain ⟨z, hz2⟩ : ∃ z, rs[rs.length - 2]? = some z := ⟨rs[rs.length - 2]'(by omega), List.getElem?_eq_getElem (by omega)⟩
            have hz : z ∈ ss := hin.1 z (List.mem_of_getElem? hz2)
            have hne : z ≠ la := hin.2 (rs.length - 2) z la hz2 (by rw [show rs.length - 2 + 1 = rs.length - 1 by omega]; exact hla)
            have hzV : (rs.map V.str)[(rs.map V.str).length - 2]? = some (.str z) := by
              rw [List.length_map, List.getElem?_map, hz2]
              rfl
            refine ⟨.ref l, rfl, 2, rfl, l, _, -2, .str z, rfl, rfl, SqL.of e5, atI_neg (j := 2) hzV (by decide) (by rw [List.length_map]; omega), ?_⟩
            refine ⟨l, _, _, rfl, rfl, e5, sz, _, _, _, _, rs ++ [z], rfl, fun c2 o nc e => ?_, ?_, ?_, ?_, wr_snoc hin hla hz hne⟩
            · rw [upd_ne (ne_of_none e noH)]
              exact k5 _ _ nc (k4 _ _ nc e)
            · obtain ⟨A1, B1, C1, eb, q1, q2, q3, q4, q5⟩ := b5
              exact ⟨A1, B1, C1, by rw [upd_ne nbl]; exact eb, q1, q2, q3, q4, by omega⟩
            · rw [upd_same, List.map_append]
              rfl
            · rw [List.length_append, hrl]
              rfl
          · refine ⟨.ref b, rfl, .ref D, rfl, b, D, _, near.map V.str, rfl, b5, by omega, nDb, SqL.of (k5 _ _ nDb eD), (by rw [List.length_map]; omega), (by rw [List.length_map]; omega), fun H6 i6 x6 k6 b6 hx6 => ?_⟩
            obtain ⟨z, rfl, hz6⟩ := strOf _ _ _ hx6
            have hz : z ∈ ss := (nin z (List.mem_of_getElem? hz6)).1
            have hne : z ≠ la := (nin z (List.mem_of_getElem? hz6)).2
            have e6 := k6 _ _ nbl.symm e5
            refine ⟨l, _, _, rfl, rfl, e6, sz, _, _, _, _, rs ++ [z], rfl, fun c2 o nc e => ?_, ?_, ?_, ?_, wr_snoc hin hla hz hne⟩
            · rw [upd_ne (ne_of_none e noH)]
              exact k6 _ _ nc (k5 _ _ nc (k4 _ _ nc e))
            · obtain ⟨A1, B1, C1, eb, q1, q2, q3, q4, q5⟩ := b6
              exact ⟨A1, B1, C1, by rw [upd_ne nbl]; exact eb, q1, q2, q3, q4, by omega⟩
            · rw [upd_same, List.map_append]
              rfl
            · rw [List.length_append, hrl]
              rfl
        · refine ⟨.ref l, rfl, .inl ⟨rfl, _, SqL.of e4⟩, .bl _, rfl, _, rfl, ?_⟩
          refine ite2 (fun z => absurd z Bool.false_ne_true) (fun _ => ?_)
          refine ⟨.ref b, rfl, .ref D, rfl, b, D, _, near.map V.str, rfl, b4, by omega, nDb, SqL.of eD, (by rw [List.length_map]; omega), (by rw [List.length_map]; omega), fun H6 i6 x6 k6 b6 hx6 => ?_⟩
          obtain ⟨z, rfl, hz6⟩ := strOf _ _ _ hx6
          have hz : z ∈ ss := (nin z (List.mem_of_getElem? hz6)).1
          have hne : z ≠ la := (nin z (List.mem_of_getElem? hz6)).2
          have e6 := k6 _ _ nbl.symm e4
          refine ⟨l, _, _, rfl, rfl, e6, sz, _, _, _, _, rs ++ [z], rfl, fun c2 o nc e => ?_, ?_, ?_, ?_, wr_snoc hin hla hz hne⟩
          · rw [upd_ne (ne_of_none e noH)]
            exact k6 _ _ nc (k4 _ _ nc e)
          · obtain ⟨A1, B1, C1, eb, q1, q2, q3, q4, q5⟩ := b6
            exact ⟨A1, B1, C1, by rw [upd_ne nbl]; exact eb, q1, q2, q3, q4, by omega⟩
          · rw [upd_same, List.map_append]
            rfl
          · rw [List.length_append, hrl]
            rfl
    · rintro σ H3 ⟨y4, y5, y6, y7, rs, rfl, k3, b3, e3, hrl, hin⟩
      obtain ⟨la, hla⟩ : ∃ la, rs[rs.length - 1]? = some la := ⟨rs[rs.length - 1]'(by omega), List.getElem?_eq_getElem (by omega)⟩
      have hlaV : (rs.map V.str)[(rs.map V.str).length - 1]? = some (.str la) := by
        rw [List.length_map, List.getElem?_map, hla]
        rfl
      have atla : atI (rs.map V.str) (-1) = some (.str la) := atI_neg (j := 1) hlaV (by decide) (by rw [List.length_map]; omega)
      obtain ⟨fi, hfi⟩ : ∃ fi, rs[0]? = some fi := ⟨rs[0]'(by omega), List.getElem?_eq_getElem (by omega)⟩
      have hfiV : (rs.map V.str)[0]? = some (.str fi) := by
        rw [List.getElem?_map, hfi]
        rfl
      have atfi : atI (rs.map V.str) 0 = some (.str fi) := atI_nat (j := 0) hfiV
      have sz : (rs.map V.str).length < sizeLine := by
        rw [List.length_map]
        exact small1000 (n := rs.length) (by omega)
      refine ⟨.ref l, rfl, 1, rfl, l, _, -1, .str la, rfl, rfl, SqL.of e3, atla, .ref l, rfl, l, _, 0, .str fi, rfl, rfl, SqL.of e3, atfi, rfl, _, rfl, ?_⟩
      refine ite2 (fun c0 => ?_) (fun c => ?_)
      · refine ⟨.ref l, rfl, l, _, rfl, .inl (SqL.of e3), .int m, rfl, _, _, rfl, rfl, _, rfl, ?_⟩
        refine ite2 (fun c => ?_) (fun c => ?_)
        · have c' : (((rs.map V.str).length : Nat) : Int) ≤ m := of_decide_eq_true c
          rw [List.length_map] at c'
          refine ⟨.ref b, rfl, b, _, 3, rfl, b3, by omega, by decide, by decide, fun H5 r k5 b5 r0 r1 => ⟨rfl, _, rfl, ?_⟩⟩
          have e5 := k5 _ _ nbl.symm e3
          refine ite2 (fun c => ?_) (fun c => ?_)
          · refine ⟨.ref l, rfl, .inl ⟨rfl, _, SqL.of e5⟩, .ref l, rfl, l, _, 0, .str fi, rfl, rfl, SqL.of e5, atfi, ?_⟩
            refine ⟨l, _, _, rfl, rfl, e5, sz, ?_⟩
            have kR : Keep b H (upd H5 l (.lst (rs.map V.str ++ [.str fi]))) := fun c2 o nc e => by
              rw [upd_ne (ne_of_none e noH)]
              exact k5 _ _ nc (k3 _ _ nc e)
            have bR : BoxAt (upd H5 l (.lst (rs.map V.str ++ [.str fi]))) b (n + 2 + 2 * tn.toNat + 1) := by
              obtain ⟨A1, B1, C1, eb, q1⟩ := b5
              exact ⟨A1, B1, C1, by rw [upd_ne nbl]; exact eb, q1⟩
            have eR : upd H5 l (.lst (rs.map V.str ++ [.str fi])) l = some (.lst ((rs ++ [fi]).map V.str)) := by
              rw [upd_same, List.map_append]
              rfl
            have hpos : 0 < (rs ++ [fi]).length := by rw [List.length_append, List.length_singleton]; omega
            have hle : (((rs ++ [fi]).length : Nat) : Int) ≤ m + 2 := by rw [List.length_append, List.length_singleton]; omega
            have hne : fi ≠ la := fun z => by rw [z] at c0; simp at c0
            have hmem : WR ss (rs ++ [fi]) := wr_snoc hin hla (hin.1 _ (List.mem_of_getElem? hfi)) hne
            generalize rs ++ [fi] = rr at eR hpos hle hmem
            exact ⟨.ref l, rfl, l, _, rfl, .inl ⟨SqL.of eR, fun p np => q _ p rr (kR.trans (Keep.of_same (same_upd np))) ((bR.up (by omega)).same (same_upd np)) (kR.free (fun z => by rw [z] at np; obtain ⟨_, _, _, e, _⟩ := bR; rw [np] at e; cases e) np) (fun z => by rw [z] at np; obtain ⟨_, _, _, e, _⟩ := bR; rw [np] at e; cases e) upd_same hpos (by omega) hmem.1 hmem.2⟩⟩
          · have kR := k3.trans k5
            have bR := b5
            have eR := e5
            have hpos : 0 < rs.length := by omega
            have hle : ((rs.length : Nat) : Int) ≤ m + 2 := by omega
            have hmem := hin
            generalize rs = rr at eR hpos hle hmem
            exact ⟨.ref l, rfl, l, _, rfl, .inl ⟨SqL.of eR, fun p np => q _ p rr (kR.trans (Keep.of_same (same_upd np))) ((bR.up (by omega)).same (same_upd np)) (kR.free (fun z => by rw [z] at np; obtain ⟨_, _, _, e, _⟩ := bR; rw [np] at e; cases e) np) (fun z => by rw [z] at np; obtain ⟨_, _, _, e, _⟩ := bR; rw [np] at e; cases e) upd_same hpos (by omega) hmem.1 hmem.2⟩⟩
        · have kR := k3
          have bR := b3
          have eR := e3
          have hpos : 0 < rs.length := by omega
          have hle : ((rs.length : Nat) : Int) ≤ m + 2 := by omega
          have hmem := hin
          generalize rs = rr at eR hpos hle hmem
          exact ⟨.ref l, rfl, l, _, rfl, .inl ⟨SqL.of eR, fun p np => q _ p rr (kR.trans (Keep.of_same (same_upd np))) ((bR.up (by omega)).same (same_upd np)) (kR.free (fun z => by rw [z] at np; obtain ⟨_, _, _, e, _⟩ := bR; rw [np] at e; cases e) np) (fun z => by rw [z] at np; obtain ⟨_, _, _, e, _⟩ := bR; rw [np] at e; cases e) upd_same hpos (by omega) hmem.1 hmem.2⟩⟩
      · have kR := k3
        have bR := b3
        have eR := e3
        have hpos : 0 < rs.length := by omega
        have hle : ((rs.length : Nat) : Int) ≤ m + 2 := by omega
        have hmem := hin
        generalize rs = rr at eR hpos hle hmem
        exact ⟨.ref l, rfl, l, _, rfl, .inl ⟨SqL.of eR, fun p np => q _ p rr (kR.trans (Keep.of_same (same_upd np))) ((bR.up (by omega)).same (same_upd np)) (kR.free (fun z => by rw [z] at np; obtain ⟨_, _, _, e, _⟩ := bR; rw [np] at e; cases e) np) (fun z => by rw [z] at np; obtain ⟨_, _, _, e, _⟩ := bR; rw [np] at e; cases e) upd_same hpos (by omega) hmem.1 hmem.2⟩⟩
end
end K00
namespace K00
open PySem PySem.Spec PyProof.Rows L2 CS RZ
/-! ### same -/
def okD : Nat → PyData → Prop
  | 0, _ => False
  | _ + 1, .int _ => True
  | _ + 1, .str _ => True
  | _ + 1, .bool _ => True
  | _ + 1, .none => True
  | n + 1, .list ds => ds.length ≤ 1000 ∧ ∀ d ∈ ds, okD n d
  | n + 1, .tuple ds => ds.length ≤ 1000 ∧ ∀ d ∈ ds, okD n d
  | _ + 1, _ => False
mutual
theorem dp_same {K : PySem.W.Frag} {H H' : Hp} (s : Same H H') : ∀ {v : V} {d : PyData}, Dp K H v d → Dp K H' v d
  | _, _, .non => .non
  | _, _, .bl b => .bl b
  | _, _, .int i => .int i
  | _, _, .str x => .str x
  | _, _, .lst q r => .lst (s.seq q) (dp_sameAll s r)
  | _, _, .tup q r => .tup (sqT_same s q) (dp_sameAll s r)
theorem dp_sameAll {K : PySem.W.Frag} {H H' : Hp} (s : Same H H') : ∀ {vs : List V} {ds : List PyData}, DpAll K H vs ds → DpAll K H' vs ds
  | _, _, .nil => .nil
  | _, _, .cons q r => .cons (dp_same s q) (dp_sameAll s r)
end
theorem dpAll_len {K : PySem.W.Frag} {H : Hp} : ∀ {ds : List PyData} {vs : List V}, DpAll K H vs ds → vs.length = ds.length
  | _, _, .nil => rfl
  | _, _, .cons _ r => congrArg (· + 1) (dpAll_len r)
theorem dpAll_at {K : PySem.W.Frag} {H : Hp} : ∀ {ds : List PyData} {vs : List V}, DpAll K H vs ds → ∀ {i : Nat} {v : V}, vs[i]? = some v → ∃ d, ds[i]? = some d ∧ Dp K H v d
  | _, _, .nil, i, _, h => by cases h
  | _, _, .cons q r, 0, _, h => by cases h; exact ⟨_, rfl, q⟩
  | _, _, .cons q r, i + 1, v, h => dpAll_at r (i := i) h
theorem tyL {K : PySem.W.Frag} {H : Hp} {a : Addr} {xs : List V} (h : SqL K H a xs) : TyX K H (.ref a) (.type "list") := by
  rcases h with (h | ⟨o, h⟩) | ⟨o, its, n, h, c, _⟩
  · exact .base (.lst h)
  · exact .base (.frz h)
  · exact .kList h c
theorem tyT {K : PySem.W.Frag} {H : Hp} {a : Addr} {xs : List V} (h : SqT K H a xs) : TyX K H (.ref a) (.type "tuple") := by
  rcases h with (h | ⟨o, h⟩) | ⟨o, its, n, h, c, _⟩
  · exact .base (.tup h)
  · exact .fTuple h
  · exact .kTuple h c
theorem walk_zipT {K : PySem.W.Frag} {a b : Addr} {xs ys : List V} {n : Nat} (hn : n = min xs.length ys.length) : Walk (ItzT K a b) n (fun H => SqT K H a xs ∧ SqT K H b ys) (YPair (fun i => xs[i]?) (fun i => ys[i]?)) := by
  subst hn
  refine ⟨fun i H hi q => ?_, fun H q => ⟨xs, ys, q.1, q.2, by omega⟩, fun i H v H' hi q y => ?_⟩
  · have l1 : i < xs.length := by omega
    have l2 : i < ys.length := by omega
    exact ⟨xs, ys, xs[i], ys[i], q.1, q.2, by simp [l1], by simp [l2]⟩
  · obtain ⟨T, x, z, e1, e2, e3, e4, e5⟩ := y
    exact ⟨T, x, z, e1, e2, e3, e4 xs q.1, e5 ys q.2⟩
section
variable {P : Program} {w : World} {K : PySem.W.Frag} {mg : Str → Option Value} {base : Heap}
def spSame (K : PySem.W.Frag) (n : Nat) : Sp := fun vs H Q _ => ∃ (x y : V) (d : PyData), vs = [x, y] ∧ Dp K H x d ∧ Dp K H y d ∧ okD n d ∧ ∀ H' : Hp, Same H H' → Q (.bl true) H'
/-- what the top says of the built-ins that same asks -/
structure SmT (mg : Str → Option Value) : Prop where
  is : mg "isinstance" = none
  li : mg "list" = none
  tu : mg "tuple" = none
  le : mg "len" = none
  al : mg "all" = none
  zi : mg "zip" = none
  bo : mg "bool" = none
  st : mg "str" = none
  int : mg "int" = none
abbrev nSame : List Str := ["_law_got", "_law_due", "_law_mine", "_law_its"]
theorem scSame : FnScope nSame ["_law_got", "_law_due"] (defScope sSame) := ⟨rfl, rfl, rfl, by decide +kernel, rfl, by decide +kernel, by decide +kernel⟩
theorem same_none {f : Addr} {fd : FuncData} : FnOk P w K mg base CX0 0 f fd ["_law_got", "_law_due"] (spSame K 0) := by
  have no : ∀ vs H Q E, ¬ spSame K 0 vs H Q E := fun vs H Q E h => by
    obtain ⟨_, _, d, _, _, _, h, _⟩ := h
    cases d <;> exact h
  exact ⟨fun vs H Q E h => absurd h (no vs H Q E), fun A outer s H args us vs Q E _ _ _ _ h => absurd h (no vs H Q E)⟩
theorem isi_one {t c : String} {b : Bool} (h : kitB t c = some b) : PySem.W.kitOne K (.type t) (.type c) = some b := kit_ty h
theorem any_ff {t a b : String} (h1 : kitB t a = some false) (h2 : kitB t b = some false) : PySem.W.kitAny K (.type t) [.type a, .type b] = some false :=
  kitAny_cons (kit_ty h1) (fun _ => kitAny_cons (kit_ty h2) (fun _ => kitAny_nil) fun z => nomatch z) fun z => nomatch z
theorem any_t {t a b : String} (h1 : kitB t a = some true) : PySem.W.kitAny K (.type t) [.type a, .type b] = some true := kitAny_cons (kit_ty h1) (fun z => nomatch z) fun _ => rfl
theorem any_ft {t a b : String} (h1 : kitB t a = some false) (h2 : kitB t b = some true) : PySem.W.kitAny K (.type t) [.type a, .type b] = some true :=
  kitAny_cons (kit_ty h1) (fun _ => kitAny_cons (kit_ty h2) (fun z => nomatch z) fun _ => rfl) fun _ => rfl
theorem all_yes : ∀ n : Nat, (List.replicate n true).all id = true
  | 0 => rfl
  | n + 1 => by
    rw [List.replicate_succ, List.all_cons, all_yes n]
    rfl
theorem ok_same {n : Nat} {f : Addr} {fd : FuncData} (F : Fun K "_law_same" "_law_same" sSame f fd) (G : FnOk P w K mg base CX0 n f fd ["_law_got", "_law_due"] (spSame K n)) (bG : Binds K fd ["_law_got", "_law_due"] []) (mG : mg "_law_same" = some (.ref f)) (T : SmT mg) :
    FnOk P w K mg base CX0 (n + 1) f fd ["_law_got", "_law_due"] (spSame K (n + 1)) := by
  refine F.ok scSame (fun vs H Q E h => ?_) (fun cdv A outer s H vs Q E hr h => ?_)
  · obtain ⟨x, y, d, rfl, _⟩ := h
    rfl
  · obtain ⟨x, y, d, rfl, hx, hy, hd, q⟩ := h
    refine ⟨_, pss_cons (ps_if (pt_val (pe_callB call_isiT (by rfl) T.is (by decide +kernel) (pa_cons (pv 1) (pa_cons (pe_tup (pa_cons (pe_bltn (v := .ty "list") (by rfl) T.li (by decide +kernel) rfl) (pa_cons (pe_bltn (v := .ty "tuple") (by rfl) T.tu (by decide +kernel) rfl) pa_nil))) pa_nil))))
        (pss_cons (ps_if (PW.pt (pw_or (pt_cmpR op_ne (pe_callB call_isi (by rfl) T.is (by decide +kernel) (pa_cons (pv 0) (pa_cons (pe_bltn (v := .ty "list") (by rfl) T.li (by decide +kernel) rfl) pa_nil))) (pe_callB call_isi (by rfl) T.is (by decide +kernel) (pa_cons (pv 1) (pa_cons (pe_bltn (v := .ty "list") (by rfl) T.li (by decide +kernel) rfl) pa_nil))) (nomark _))
            (pw_or1 (pt_cmpR op_ne (pe_callB call_isi (by rfl) T.is (by decide +kernel) (pa_cons (pv 0) (pa_cons (pe_bltn (v := .ty "tuple") (by rfl) T.tu (by decide +kernel) rfl) pa_nil))) (pe_callB call_isi (by rfl) T.is (by decide +kernel) (pa_cons (pv 1) (pa_cons (pe_bltn (v := .ty "tuple") (by rfl) T.tu (by decide +kernel) rfl) pa_nil))) (nomark _)))))
          (pss_one (ps_ret (pe_bl))) pss_nil)
        (pss_one (ps_ret (pe_and (pe_cmpR op_eq (pe_callB call_len_seq (by rfl) T.le PySem.boot_len (pa_cons (pv 0) pa_nil)) (pe_callB call_len_seq (by rfl) T.le PySem.boot_len (pa_cons (pv 1) pa_nil)) (nomark _))
          (pe_one (pe_callB (cr_all rfl) (by rfl) T.al (by decide +kernel) (pa_cons (pe_lc (own := [("_law_mine", 2), ("_law_its", 3)]) (g := gTup K 2 (gCons (gName 2) (gCons (gName 3) gNil))) (by rfl) scSame.nd (pi_zipA (by rfl) T.zi (pa_cons (pv 0) (pa_cons (pv 1) pa_nil)))
            (blkOk_by (own := [("_law_mine", 2), ("_law_its", 3)]) (N := nSame) (sc := defScope sSame) (by decide +kernel))
            (fun _ _ _ _ _ => pg_tup rfl (pgs_cons (pg_name (i := 2) scSame.nd rfl (Or.inl rfl) (.inr rfl)) (pgs_cons (pg_name (i := 3) scSame.nd rfl (Or.inl rfl) (.inr rfl)) pgs_nil))) (fun _ _ _ _ _ => pts_nil)
            (fun _ _ _ _ _ => pe_call G hr (by rfl) mG F.kp bG .nil pass0 (pa_cons (pv 2) (pa_cons (pv 3) pa_nil)))) pa_nil))))))) pss_nil)
      (pss_cons (ps_if (PW.pt (pw_or (pt_cmpR op_isN (pv 1) pe_non (nomark _)) (pw_or1 (pt_val (pe_callB call_isiT (by rfl) T.is (by decide +kernel) (pa_cons (pv 1) (pa_cons (pe_tup (pa_cons (pe_bltn (v := .ty "bool") (by rfl) T.bo (by decide +kernel) rfl) (pa_cons (pe_bltn (v := .ty "str") (by rfl) T.st (by decide +kernel) rfl) pa_nil))) pa_nil)))))))
        (pss_one (ps_ret (pe_and (pe_cmpR op_eq (pv 0) (pv 1) (nomark _)) (pe_and (pe_cmpR op_eq (pe_callB call_isi (by rfl) T.is (by decide +kernel) (pa_cons (pv 0) (pa_cons (pe_bltn (v := .ty "bool") (by rfl) T.bo (by decide +kernel) rfl) pa_nil))) (pe_callB call_isi (by rfl) T.is (by decide +kernel) (pa_cons (pv 1) (pa_cons (pe_bltn (v := .ty "bool") (by rfl) T.bo (by decide +kernel) rfl) pa_nil))) (nomark _))
          (pe_one (pe_cmpR op_eq (pe_cmpR op_isN (pv 0) pe_non (nomark _)) (pe_cmpR op_isN (pv 1) pe_non (nomark _)) (nomark _))))))) pss_nil)
      (pss_one (ps_ret (pe_and (pe_callB call_isi (by rfl) T.is (by decide +kernel) (pa_cons (pv 0) (pa_cons (pe_bltn (v := .ty "int") (by rfl) T.int (by decide +kernel) rfl) pa_nil)))
        (pe_and (pe_not (pe_callB call_isi (by rfl) T.is (by decide +kernel) (pa_cons (pv 0) (pa_cons (pe_bltn (v := .ty "bool") (by rfl) T.bo (by decide +kernel) rfl) pa_nil)))) (pe_one (pe_cmpR op_eq (pv 0) (pv 1) (nomark _)))))))), ?_⟩
    have two : 2 ≤ sizeLine := by decide
    cases d with
    | int i =>
      cases hx
      cases hy
      refine ⟨.int i, rfl, two, fun p np => ⟨_, p, _, _, _, false, rfl, upd_same, .cons (.ty _) (.cons (.ty _) .nil), .base (.int i), any_ff (by decide +kernel) (by decide +kernel), _, rfl, ?_⟩⟩
      refine ite2 (fun z => absurd z Bool.false_ne_true) (fun _ => ?_)
      refine ⟨.int i, rfl, rfl, _, rfl, ?_⟩
      refine ite2 (fun z => absurd (of_decide_eq_true z) (fun e => by cases e)) (fun _ => ?_)
      refine ⟨.int i, rfl, two, fun p2 np2 => ⟨_, p2, _, _, _, false, rfl, upd_same, .cons (.ty _) (.cons (.ty _) .nil), .base (.int i), any_ff (by decide +kernel) (by decide +kernel), _, rfl, ?_⟩⟩
      refine ite2 (fun z => absurd z Bool.false_ne_true) (fun _ => ?_)
      refine ⟨.int i, rfl, _, _, _, _, true, rfl, .ty _, .base (.int i), isi_one (by decide +kernel), _, rfl, ?_⟩
      refine ite2 (fun _ => ?_) (fun z => absurd rfl z)
      refine ⟨.int i, rfl, _, _, _, _, false, rfl, .ty _, .base (.int i), isi_one (by decide +kernel), _, rfl, _, rfl, ?_⟩
      refine ite2 (fun _ => ?_) (fun z => absurd rfl z)
      refine ⟨.int i, rfl, .int i, rfl, rfl, ?_⟩
      have e : decide (V.int i = V.int i) = true := decide_eq_true rfl
      rw [e]
      exact q _ ((same_upd np).trans (same_upd np2))
    | str z =>
      cases hx
      cases hy
      refine ⟨.str z, rfl, two, fun p np => ⟨_, p, _, _, _, false, rfl, upd_same, .cons (.ty _) (.cons (.ty _) .nil), .base (.str z), any_ff (by decide +kernel) (by decide +kernel), _, rfl, ?_⟩⟩
      refine ite2 (fun z => absurd z Bool.false_ne_true) (fun _ => ?_)
      refine ⟨.str z, rfl, rfl, _, rfl, ?_⟩
      refine ite2 (fun z => absurd (of_decide_eq_true z) (fun e => by cases e)) (fun _ => ?_)
      refine ⟨.str z, rfl, two, fun p2 np2 => ⟨_, p2, _, _, _, true, rfl, upd_same, .cons (.ty _) (.cons (.ty _) .nil), .base (.str z), any_ft (by decide +kernel) (by decide +kernel), _, rfl, ?_⟩⟩
      refine ite2 (fun _ => ?_) (fun z => absurd rfl z)
      refine ⟨.str z, rfl, .str z, rfl, rfl, _, rfl, ?_⟩
      refine ite2 (fun _ => ?_) (fun e => absurd (decide_eq_true rfl) e)
      refine ⟨.str z, rfl, _, _, _, _, false, rfl, .ty _, .base (.str z), isi_one (by decide +kernel), .str z, rfl, _, _, _, _, false, rfl, .ty _, .base (.str z), isi_one (by decide +kernel), rfl, _, rfl, ?_⟩
      refine ite2 (fun _ => ?_) (fun e => absurd rfl e)
      refine ⟨.str z, rfl, rfl, .str z, rfl, rfl, rfl, ?_⟩
      have e : decide (V.bl (decide (V.str z = V.non)) = V.bl (decide (V.str z = V.non))) = true := decide_eq_true rfl
      rw [e]
      exact q _ ((same_upd np).trans (same_upd np2))
    | bool z =>
      cases hx
      cases hy
      refine ⟨.bl z, rfl, two, fun p np => ⟨_, p, _, _, _, false, rfl, upd_same, .cons (.ty _) (.cons (.ty _) .nil), .base (.bl z), any_ff (by decide +kernel) (by decide +kernel), _, rfl, ?_⟩⟩
      refine ite2 (fun z => absurd z Bool.false_ne_true) (fun _ => ?_)
      refine ⟨.bl z, rfl, rfl, _, rfl, ?_⟩
      refine ite2 (fun z => absurd (of_decide_eq_true z) (fun e => by cases e)) (fun _ => ?_)
      refine ⟨.bl z, rfl, two, fun p2 np2 => ⟨_, p2, _, _, _, true, rfl, upd_same, .cons (.ty _) (.cons (.ty _) .nil), .base (.bl z), any_t (by decide +kernel), _, rfl, ?_⟩⟩
      refine ite2 (fun _ => ?_) (fun z => absurd rfl z)
      refine ⟨.bl z, rfl, .bl z, rfl, rfl, _, rfl, ?_⟩
      refine ite2 (fun _ => ?_) (fun e => absurd (decide_eq_true rfl) e)
      refine ⟨.bl z, rfl, _, _, _, _, true, rfl, .ty _, .base (.bl z), isi_one (by decide +kernel), .bl z, rfl, _, _, _, _, true, rfl, .ty _, .base (.bl z), isi_one (by decide +kernel), rfl, _, rfl, ?_⟩
      refine ite2 (fun _ => ?_) (fun e => absurd rfl e)
      refine ⟨.bl z, rfl, rfl, .bl z, rfl, rfl, rfl, ?_⟩
      have e : decide (V.bl (decide (V.bl z = V.non)) = V.bl (decide (V.bl z = V.non))) = true := decide_eq_true rfl
      rw [e]
      exact q _ ((same_upd np).trans (same_upd np2))
    | none =>
      cases hx
      cases hy
      refine ⟨.non, rfl, two, fun p np => ⟨_, p, _, _, _, false, rfl, upd_same, .cons (.ty _) (.cons (.ty _) .nil), .base .non, any_ff (by decide +kernel) (by decide +kernel), _, rfl, ?_⟩⟩
      refine ite2 (fun z => absurd z Bool.false_ne_true) (fun _ => ?_)
      refine ⟨.non, rfl, rfl, _, rfl, ?_⟩
      refine ite2 (fun _ => ?_) (fun z => absurd (decide_eq_true rfl) z)
      refine ⟨.non, rfl, .non, rfl, rfl, _, rfl, ?_⟩
      refine ite2 (fun _ => ?_) (fun e => absurd (decide_eq_true rfl) e)
      refine ⟨.non, rfl, _, _, _, _, false, rfl, .ty _, .base .non, isi_one (by decide +kernel), .non, rfl, _, _, _, _, false, rfl, .ty _, .base .non, isi_one (by decide +kernel), rfl, _, rfl, ?_⟩
      refine ite2 (fun _ => ?_) (fun e => absurd rfl e)
      refine ⟨.non, rfl, rfl, .non, rfl, rfl, rfl, ?_⟩
      have e : decide (V.bl (decide (V.non = V.non)) = V.bl (decide (V.non = V.non))) = true := decide_eq_true rfl
      rw [e]
      exact q _ (same_upd np)
    | list ds =>
      obtain ⟨hlen, hds⟩ := hd
      cases hx with
      | lst hxs hxa =>
      cases hy with
      | lst hys hya =>
      rename_i a xs b ys
      have lx := dpAll_len hxa
      have ly := dpAll_len hya
      refine ⟨.ref b, rfl, two, fun p np => ⟨_, p, _, _, _, true, rfl, upd_same, .cons (.ty _) (.cons (.ty _) .nil), tyL ((same_upd np).seq hys), any_t (by decide +kernel), _, rfl, ?_⟩⟩
      refine ite2 (fun _ => ?_) (fun z => absurd rfl z)
      have s1 : Same H (upd H p (.tup [.ty "list", .ty "tuple"])) := same_upd np
      have hxs1 := (s1).seq hxs
      have hys1 := (s1).seq hys
      refine ⟨.ref a, rfl, _, _, _, _, true, rfl, .ty _, tyL hxs1, isi_one (by decide +kernel), .ref b, rfl, _, _, _, _, true, rfl, .ty _, tyL hys1, isi_one (by decide +kernel), rfl, _, rfl, ?_⟩
      refine ite2 (fun c => by rw [decide_eq_true rfl] at c; cases c) (fun _ => ?_)
      refine ⟨.ref a, rfl, _, _, _, _, false, rfl, .ty _, tyL hxs1, isi_one (by decide +kernel), .ref b, rfl, _, _, _, _, false, rfl, .ty _, tyL hys1, isi_one (by decide +kernel), rfl, _, rfl, ?_⟩
      refine ite2 (fun c => by rw [decide_eq_true rfl] at c; cases c) (fun _ => ?_)
      refine ⟨.ref a, rfl, a, _, rfl, .inl hxs1, .ref b, rfl, b, _, rfl, .inl hys1, rfl, _, rfl, ?_⟩
      refine ite2 (fun _ => ?_) (fun z => absurd (decide_eq_true (congrArg V.int (by rw [lx, ly]))) z)
      refine ⟨.ref a, rfl, .ref b, rfl, a, b, xs, ys, rfl, .inl ⟨hxs1, hys1, fun D nD => lc_it (walk_zip (K := K) (a := a) (b := b) (xs := xs) (ys := ys) rfl)
        (fun i H' => Same (upd H p (.tup [.ty "list", .ty "tuple"])) H' ∧ H' D = some (.lst ((List.replicate i true).map V.bl))) ⟨same_upd nD, upd_same⟩ (fun i H' _ z => ⟨(z.1).seq hxs1, (z.1).seq hys1⟩) ?_ ?_⟩⟩
      · rintro i v H2 H3 hi ⟨s2, eD⟩ ⟨T1, x1, y1, rfl, nT, rfl, hx1, hy1⟩
        obtain ⟨d1, e1, r1⟩ := dpAll_at hxa hx1
        obtain ⟨d2, e2, r2⟩ := dpAll_at hya hy1
        have ed : d1 = d2 := by
          rw [e1] at e2
          exact Option.some.inj e2
        subst ed
        have s3 : Same (upd H p (.tup [.ty "list", .ty "tuple"])) (upd H2 T1 (.tup [x1, y1])) := s2.trans (same_upd nT)
        have hi' : i < 1000 := by omega
        refine ⟨T1, [x1, y1], rfl, SqT.of upd_same, rfl, x1, [y1], rfl, y1, [], rfl, rfl, ?_⟩
        refine ⟨rfl, ?_⟩
        unfold tYes
        refine ite2 (fun _ => ?_) (fun z => absurd rfl z)
        refine ⟨x1, rfl, y1, rfl, x1, y1, d1, rfl, dp_same (s1.trans s3) r1, dp_same (s1.trans s3) r2, hds d1 (List.mem_of_getElem? e1), fun H4 s4 => ?_⟩
        have eD4 : H4 D = some (.lst ((List.replicate i true).map V.bl)) := s4 _ _ (by rw [upd_ne (ne_of_none eD nT)]; exact eD)
        refine ⟨_, eD4, ?_, fun c o e => ?_, ?_⟩
        · rw [List.length_map, List.length_replicate]
          exact small1000 (Nat.le_of_lt hi')
        · rw [upd_ne (ne_of_none e nD)]
          exact s4 _ _ (s3 _ _ e)
        · rw [upd_same, List.replicate_succ', List.map_append]
          rfl
      · rintro H2 ⟨s2, eD⟩
        refine ⟨D, _, rfl, SqL.of eD, ?_⟩
        rw [all_yes]
        exact q _ (s1.trans s2)
    | tuple ds =>
      obtain ⟨hlen, hds⟩ := hd
      cases hx with
      | tup hxs hxa =>
      cases hy with
      | tup hys hya =>
      rename_i a xs b ys
      have lx := dpAll_len hxa
      have ly := dpAll_len hya
      refine ⟨.ref b, rfl, two, fun p np => ⟨_, p, _, _, _, true, rfl, upd_same, .cons (.ty _) (.cons (.ty _) .nil), tyT (sqT_same (same_upd np) hys), any_ft (by decide +kernel) (by decide +kernel), _, rfl, ?_⟩⟩
      refine ite2 (fun _ => ?_) (fun z => absurd rfl z)
      have s1 : Same H (upd H p (.tup [.ty "list", .ty "tuple"])) := same_upd np
      have hxs1 := sqT_same (s1) hxs
      have hys1 := sqT_same (s1) hys
      refine ⟨.ref a, rfl, _, _, _, _, false, rfl, .ty _, tyT hxs1, isi_one (by decide +kernel), .ref b, rfl, _, _, _, _, false, rfl, .ty _, tyT hys1, isi_one (by decide +kernel), rfl, _, rfl, ?_⟩
      refine ite2 (fun c => by rw [decide_eq_true rfl] at c; cases c) (fun _ => ?_)
      refine ⟨.ref a, rfl, _, _, _, _, true, rfl, .ty _, tyT hxs1, isi_one (by decide +kernel), .ref b, rfl, _, _, _, _, true, rfl, .ty _, tyT hys1, isi_one (by decide +kernel), rfl, _, rfl, ?_⟩
      refine ite2 (fun c => by rw [decide_eq_true rfl] at c; cases c) (fun _ => ?_)
      refine ⟨.ref a, rfl, a, _, rfl, .inr hxs1, .ref b, rfl, b, _, rfl, .inr hys1, rfl, _, rfl, ?_⟩
      refine ite2 (fun _ => ?_) (fun z => absurd (decide_eq_true (congrArg V.int (by rw [lx, ly]))) z)
      refine ⟨.ref a, rfl, .ref b, rfl, a, b, xs, ys, rfl, .inr ⟨hxs1, hys1, fun D nD => lc_it (walk_zipT (K := K) (a := a) (b := b) (xs := xs) (ys := ys) rfl)
        (fun i H' => Same (upd H p (.tup [.ty "list", .ty "tuple"])) H' ∧ H' D = some (.lst ((List.replicate i true).map V.bl))) ⟨same_upd nD, upd_same⟩ (fun i H' _ z => ⟨sqT_same (z.1) hxs1, sqT_same (z.1) hys1⟩) ?_ ?_⟩⟩
      · rintro i v H2 H3 hi ⟨s2, eD⟩ ⟨T1, x1, y1, rfl, nT, rfl, hx1, hy1⟩
        obtain ⟨d1, e1, r1⟩ := dpAll_at hxa hx1
        obtain ⟨d2, e2, r2⟩ := dpAll_at hya hy1
        have ed : d1 = d2 := by
          rw [e1] at e2
          exact Option.some.inj e2
        subst ed
        have s3 : Same (upd H p (.tup [.ty "list", .ty "tuple"])) (upd H2 T1 (.tup [x1, y1])) := s2.trans (same_upd nT)
        have hi' : i < 1000 := by omega
        refine ⟨T1, [x1, y1], rfl, SqT.of upd_same, rfl, x1, [y1], rfl, y1, [], rfl, rfl, ?_⟩
        refine ⟨rfl, ?_⟩
        unfold tYes
        refine ite2 (fun _ => ?_) (fun z => absurd rfl z)
        refine ⟨x1, rfl, y1, rfl, x1, y1, d1, rfl, dp_same (s1.trans s3) r1, dp_same (s1.trans s3) r2, hds d1 (List.mem_of_getElem? e1), fun H4 s4 => ?_⟩
        have eD4 : H4 D = some (.lst ((List.replicate i true).map V.bl)) := s4 _ _ (by rw [upd_ne (ne_of_none eD nT)]; exact eD)
        refine ⟨_, eD4, ?_, fun c o e => ?_, ?_⟩
        · rw [List.length_map, List.length_replicate]
          exact small1000 (Nat.le_of_lt hi')
        · rw [upd_ne (ne_of_none e nD)]
          exact s4 _ _ (s3 _ _ e)
        · rw [upd_same, List.replicate_succ', List.map_append]
          rfl
      · rintro H2 ⟨s2, eD⟩
        refine ⟨D, _, rfl, SqL.of eD, ?_⟩
        rw [all_yes]
        exact q _ (s1.trans s2)
    | _ => exact absurd hd id
end
end K00
namespace K00
open PySem PySem.Spec PyProof.Rows L2 CS
/-- what stood at first stands, and all of H2 but l -/
def KeepTo (H H2 : Hp) (l : Addr) (H' : Hp) : Prop := Same H H' ∧ Keep l H2 H'
theorem cut3 (ns : List Int) : cutV (ns.map V.int) (some 3) (some 63) = ((ns.drop (min 3 ns.length)).take (min 63 ns.length - min 3 ns.length)).map V.int := by
  unfold cutV
  rw [show HT.sIx (ns.map V.int).length 0 (some 3) = min 3 (ns.map V.int).length from HT.sIx_nat _ 0 3, show HT.sIx (ns.map V.int).length (ns.map V.int).length (some 63) = min 63 (ns.map V.int).length from HT.sIx_nat _ _ 63, List.length_map, List.map_take, List.map_drop]
theorem cut0 (ns : List Int) : cutV (ns.map V.int) none (some 3) = (ns.take (min 3 ns.length)).map V.int := by
  unfold cutV
  rw [show HT.sIx (ns.map V.int).length 0 none = 0 from HT.sIx_none _ _, show HT.sIx (ns.map V.int).length (ns.map V.int).length (some 3) = min 3 (ns.map V.int).length from HT.sIx_nat _ _ 3, List.length_map, List.map_take]
  rfl
section
variable {P : Program} {w : World} {K : PySem.W.Frag} {mg : Str → Option Value} {base : Heap}
def spCells (K : PySem.W.Frag) : Sp := fun vs H Q _ => ∃ (a : Addr) (ns : List Int), vs = [.ref a, .int 3] ∧ SqL K H a (ns.map V.int) ∧ ns.length ≤ 63 ∧
  ∀ (H' : Hp) (p : Addr) (ms : List Int), Same H H' → H p = none → H' p = some (.lst (ms.map V.int)) → 1 ≤ ms.length → ms.length ≤ 3 → Q (.ref p) H'
theorem scCells : FnScope ["_law_script", "_law_most_so", "_law_cells_here", "_law_k", "_law_cell", "_law_at_so"] ["_law_script", "_law_most_so"] (defScope sCells) := ⟨rfl, rfl, rfl, by decide +kernel, rfl, by decide +kernel, by decide +kernel⟩
theorem ok_cells {f : Addr} {fd : FuncData} {k : Nat} (F : Fun K "_law_cells" "_law_cells" sCells f fd) (mL : mg "list" = none) (mE : mg "enumerate" = none) (mi : mg "int" = none) : FnOk P w K mg base CX0 (k + 1) f fd ["_law_script", "_law_most_so"] (spCells K) := by
  refine F.ok scCells (fun vs H Q E h => ?_) (fun cdv A outer s H vs Q E hr h => ?_)
  · obtain ⟨a, ns, rfl, _⟩ := h
    rfl
  · obtain ⟨a, ns, rfl, hS, hn, q⟩ := h
    refine ⟨_, pss_cons (ps_set (i := 2) scCells.nd rfl (.inl rfl) (pe_orT (pe_callTy call_list_of (by rfl) mL (by decide +kernel) (pa_cons (pe_slice sl_list (pv 0) po_none (po_some (pv 1))) pa_nil)) (pe_one (pe_lst (pa_cons pe_int pa_nil)))))
      (pss_cons (ps_for PassesOwn.never rfl (pi_enum (by rfl) mE (pa_cons (pe_slice sl_list (pv 0) (po_some (pv 1)) (po_some pe_int)) pa_nil))
          (pg_tup rfl (pgs_cons (pg_name (i := 3) scCells.nd rfl (.inl rfl)) (pgs_cons (pg_name (i := 4) scCells.nd rfl (.inl rfl)) pgs_nil)))
        (pss_cons (ps_set (i := 5) scCells.nd rfl (.inl rfl) (pe_op op_modN (pe_callTy call_int1 (by rfl) mi (by decide +kernel) (pa_cons (pv 3) pa_nil)) (pv 1)))
          (pss_one (ps_asg (pe_op op_add (pe_ix ix_list (pv 2) (pv 5) (fun _ _ => rfl)) (pe_op op_mul (pv 4) (pe_op op_add (pv 3) pe_int))) (pg_sub (pv 2) (pv 5) set_list)))))
      (pss_one (ps_ret (pv 2)))), ?_⟩
    refine ⟨.ref a, rfl, .int 3, rfl, 3, rfl, a, ns.map V.int, rfl, hS, fun c nc => ?_⟩
    rw [cut0]
    refine ⟨c, _, rfl, .inl (SqL.of upd_same), fun l nl0 => ?_⟩
    have s0 : Same H (upd (upd H c (.lst ((ns.take (min 3 ns.length)).map V.int))) l (.lst ((ns.take (min 3 ns.length)).map V.int))) := (same_upd nc).trans (same_upd nl0)
    have nlH : H l = none := (same_upd nc).free nl0
    have hl1 : (ns.take (min 3 ns.length)).length = min 3 ns.length := by
      rw [List.length_take]
      omega
    refine ⟨_, .inl ⟨_, SqL.of upd_same, rfl⟩, ?_⟩
    refine ite2 (fun c1 => ?_) (fun c1 => ?_)
    · have hpos : 0 < ns.length := by
        cases ns with
        | nil => cases c1
        | cons x r => exact Nat.succ_pos _
      have e1 : (upd (upd H c (.lst ((ns.take (min 3 ns.length)).map V.int))) l (.lst ((ns.take (min 3 ns.length)).map V.int))) l = some (.lst ((ns.take (min 3 ns.length)).map V.int)) := upd_same
      generalize upd (upd H c (.lst ((ns.take (min 3 ns.length)).map V.int))) l (.lst ((ns.take (min 3 ns.length)).map V.int)) = H1 at s0 e1
      generalize ns.take (min 3 ns.length) = ms at e1 hl1
      have s1 := s0
      have nl := nlH
      have m1 : 1 ≤ ms.length := by omega
      have m3 : ms.length ≤ 3 := by omega
      have h3 : 3 < ns.length → ms.length = 3 := fun _ => by omega
      refine ⟨.ref a, rfl, .int 3, rfl, 3, rfl, 63, rfl, a, ns.map V.int, rfl, s1.seq hS, fun c2 nc2 => ?_⟩
      rw [cut3]
      have s2 : Same H (upd H1 c2 (.lst (((ns.drop (min 3 ns.length)).take (min 63 ns.length - min 3 ns.length)).map V.int))) := s1.trans (same_upd nc2)
      have ncl : c2 ≠ l := fun z => by
        rw [z, e1] at nc2
        cases nc2
      have hC : SqL K (upd H1 c2 (.lst (((ns.drop (min 3 ns.length)).take (min 63 ns.length - min 3 ns.length)).map V.int))) c2 (((ns.drop (min 3 ns.length)).take (min 63 ns.length - min 3 ns.length)).map V.int) := SqL.of upd_same
      have eL : (upd H1 c2 (.lst (((ns.drop (min 3 ns.length)).take (min 63 ns.length - min 3 ns.length)).map V.int))) l = some (.lst (ms.map V.int)) := by
        rw [upd_ne ncl.symm]
        exact e1
      have hlenr : ((ns.drop (min 3 ns.length)).take (min 63 ns.length - min 3 ns.length)).length = min 63 ns.length - min 3 ns.length := by
        rw [List.length_take, List.length_drop]
        omega
      generalize ((ns.drop (min 3 ns.length)).take (min 63 ns.length - min 3 ns.length)) = rest at s2 hC eL hlenr
      generalize upd H1 c2 (.lst (rest.map V.int)) = H2 at s2 hC eL
      refine ⟨c2, rest.map V.int, rfl, hC, for_it (walk_enum (K := K) (a := c2) (xs := rest.map V.int)) (fun i σ H' => ∃ (y3 y4 y5 : Option V) (zs : List Int), σ = [some (.ref a), some (.int 3), some (.ref l), y3, y4, y5] ∧ KeepTo H H2 l H' ∧ H' l = some (.lst (zs.map V.int)) ∧ zs.length = ms.length)
        ⟨none, none, none, ms, rfl, ⟨s2, fun _ _ _ e => e⟩, eL, rfl⟩ (fun i σ H' _ z => by
          obtain ⟨_, _, _, _, _, kk, _, _⟩ := z
          exact Keep.sqL (b := l) kk.2 ncl hC) ?_ ?_⟩
      · rintro i v σ H3 H4 hi ⟨y3, y4, y5, zs, rfl, kk, e3, hzl⟩ ⟨T, x, y, rfl, nT, rfl, hx, hy⟩
        cases hx
        replace hy : (rest.map V.int)[i]? = some y := hy
        rw [List.getElem?_map] at hy
        rw [List.length_map, hlenr] at hi
        cases e : rest[i]? with
        | none =>
          rw [e] at hy
          cases hy
        | some u =>
          rw [e] at hy
          cases hy
          have hz3 : zs.length = 3 := by rw [hzl]; exact h3 (by omega)
          have f0 := Int.fmod_nonneg_of_pos (i : Int) (b := 3) (by decide)
          have f1 := Int.fmod_lt_of_pos (i : Int) (b := 3) (by decide)
          have nlT : l ≠ T := ne_of_none e3 nT
          have e3T : (upd H3 T (.tup [.int (i : Nat), .int u])) l = some (.lst (zs.map V.int)) := by
            rw [upd_ne nlT]
            exact e3
          refine ⟨T, [.int (i : Nat), .int u], rfl, SqT.of upd_same, rfl, .int (i : Nat), [.int u], rfl, .int u, [], rfl, rfl, ?_⟩
          refine ⟨.int (i : Nat), rfl, .inl ⟨_, rfl, .int 3, rfl, _, _, rfl, rfl, (by show (3 : Int) ≠ 0; decide), ?_⟩⟩
          have hj : (Int.fmod (i : Int) 3).toNat < zs.length := by omega
          have hat : atI (zs.map V.int) (Int.fmod (i : Int) 3) = some (.int zs[(Int.fmod (i : Int) 3).toNat]) := by
            have za := atI_nat (j := (Int.fmod (i : Int) 3).toNat) (xs := zs.map V.int) (v := .int zs[(Int.fmod (i : Int) 3).toNat]) (by rw [List.getElem?_map, List.getElem?_eq_getElem hj]; rfl)
            rw [show (((Int.fmod (i : Int) 3).toNat : Nat) : Int) = Int.fmod (i : Int) 3 by omega] at za
            exact za
          refine ⟨.ref l, rfl, .int _, rfl, l, _, _, _, rfl, rfl, SqL.of e3T, hat, .int u, rfl, .int (i : Nat), rfl, _, _, rfl, rfl, _, _, rfl, rfl, .inr (by omega), _, _, rfl, rfl, ?_⟩
          refine ⟨.ref l, rfl, .int _, rfl, l, _, _, (Int.fmod (i : Int) 3).toNat, rfl, rfl, e3T, ?_, ?_⟩
          · unfold ixN
            rw [List.length_map, if_pos f0, if_pos (by omega)]
          · refine ⟨_, _, _, zs.set (Int.fmod (i : Int) 3).toNat (zs[(Int.fmod (i : Int) 3).toNat] + u * ((i : Int) + 2)), rfl, ⟨fun c o ec => ?_, fun c o nc ec => ?_⟩, ?_, ?_⟩
            · have q3 := kk.1 _ _ ec
              have ncl3 : c ≠ l := ne_of_none ec nl
              rw [upd_ne ncl3, upd_ne (ne_of_none q3 nT)]
              exact q3
            · have q3 := kk.2 _ _ nc ec
              rw [upd_ne nc, upd_ne (ne_of_none q3 nT)]
              exact q3
            · rw [upd_same, List.map_set]
            · rw [List.length_set]
              exact hzl
      · rintro σ H3 ⟨y3, y4, y5, zs, rfl, kk, e3, hzl⟩
        exact ⟨.ref l, rfl, q H3 l zs kk.1 nl e3 (by omega) (by omega)⟩
    · have hnil : ns.length = 0 := by
        cases ns with
        | nil => rfl
        | cons x r =>
          exfalso
          apply c1
          show (!(((x :: r).take (min 3 (r.length + 1))).map V.int).isEmpty) = true
          rw [show min 3 (r.length + 1) = (min 2 r.length) + 1 by omega]
          rfl
      refine ⟨(by show 1 ≤ sizeLine; decide), fun l2 nl2 => ?_⟩
      have s1 := s0.trans (same_upd (o := .lst [.int 0]) nl2)
      have nl : H l2 = none := s0.free nl2
      have e1 : (upd (upd (upd H c (.lst ((ns.take (min 3 ns.length)).map V.int))) l (.lst ((ns.take (min 3 ns.length)).map V.int))) l2 (.lst [.int 0])) l2 = some (.lst (([0] : List Int).map V.int)) := upd_same
      generalize upd (upd (upd H c (.lst ((ns.take (min 3 ns.length)).map V.int))) l (.lst ((ns.take (min 3 ns.length)).map V.int))) l2 (.lst [.int 0]) = H1 at s1 e1
      generalize l2 = l at nl e1
      generalize ems : ([0] : List Int) = ms at e1
      have m1 : 1 ≤ ms.length := by rw [← ems]; decide
      have m3 : ms.length ≤ 3 := by rw [← ems]; decide
      have h3 : 3 < ns.length → ms.length = 3 := fun z => by omega
      refine ⟨.ref a, rfl, .int 3, rfl, 3, rfl, 63, rfl, a, ns.map V.int, rfl, s1.seq hS, fun c2 nc2 => ?_⟩
      rw [cut3]
      have s2 : Same H (upd H1 c2 (.lst (((ns.drop (min 3 ns.length)).take (min 63 ns.length - min 3 ns.length)).map V.int))) := s1.trans (same_upd nc2)
      have ncl : c2 ≠ l := fun z => by
        rw [z, e1] at nc2
        cases nc2
      have hC : SqL K (upd H1 c2 (.lst (((ns.drop (min 3 ns.length)).take (min 63 ns.length - min 3 ns.length)).map V.int))) c2 (((ns.drop (min 3 ns.length)).take (min 63 ns.length - min 3 ns.length)).map V.int) := SqL.of upd_same
      have eL : (upd H1 c2 (.lst (((ns.drop (min 3 ns.length)).take (min 63 ns.length - min 3 ns.length)).map V.int))) l = some (.lst (ms.map V.int)) := by
        rw [upd_ne ncl.symm]
        exact e1
      have hlenr : ((ns.drop (min 3 ns.length)).take (min 63 ns.length - min 3 ns.length)).length = min 63 ns.length - min 3 ns.length := by
        rw [List.length_take, List.length_drop]
        omega
      generalize ((ns.drop (min 3 ns.length)).take (min 63 ns.length - min 3 ns.length)) = rest at s2 hC eL hlenr
      generalize upd H1 c2 (.lst (rest.map V.int)) = H2 at s2 hC eL
      refine ⟨c2, rest.map V.int, rfl, hC, for_it (walk_enum (K := K) (a := c2) (xs := rest.map V.int)) (fun i σ H' => ∃ (y3 y4 y5 : Option V) (zs : List Int), σ = [some (.ref a), some (.int 3), some (.ref l), y3, y4, y5] ∧ KeepTo H H2 l H' ∧ H' l = some (.lst (zs.map V.int)) ∧ zs.length = ms.length)
        ⟨none, none, none, ms, rfl, ⟨s2, fun _ _ _ e => e⟩, eL, rfl⟩ (fun i σ H' _ z => by
          obtain ⟨_, _, _, _, _, kk, _, _⟩ := z
          exact Keep.sqL (b := l) kk.2 ncl hC) ?_ ?_⟩
      · rintro i v σ H3 H4 hi ⟨y3, y4, y5, zs, rfl, kk, e3, hzl⟩ ⟨T, x, y, rfl, nT, rfl, hx, hy⟩
        cases hx
        replace hy : (rest.map V.int)[i]? = some y := hy
        rw [List.getElem?_map] at hy
        rw [List.length_map, hlenr] at hi
        cases e : rest[i]? with
        | none =>
          rw [e] at hy
          cases hy
        | some u =>
          rw [e] at hy
          cases hy
          have hz3 : zs.length = 3 := by rw [hzl]; exact h3 (by omega)
          have f0 := Int.fmod_nonneg_of_pos (i : Int) (b := 3) (by decide)
          have f1 := Int.fmod_lt_of_pos (i : Int) (b := 3) (by decide)
          have nlT : l ≠ T := ne_of_none e3 nT
          have e3T : (upd H3 T (.tup [.int (i : Nat), .int u])) l = some (.lst (zs.map V.int)) := by
            rw [upd_ne nlT]
            exact e3
          refine ⟨T, [.int (i : Nat), .int u], rfl, SqT.of upd_same, rfl, .int (i : Nat), [.int u], rfl, .int u, [], rfl, rfl, ?_⟩
          refine ⟨.int (i : Nat), rfl, .inl ⟨_, rfl, .int 3, rfl, _, _, rfl, rfl, (by show (3 : Int) ≠ 0; decide), ?_⟩⟩
          have hj : (Int.fmod (i : Int) 3).toNat < zs.length := by omega
          have hat : atI (zs.map V.int) (Int.fmod (i : Int) 3) = some (.int zs[(Int.fmod (i : Int) 3).toNat]) := by
            have za := atI_nat (j := (Int.fmod (i : Int) 3).toNat) (xs := zs.map V.int) (v := .int zs[(Int.fmod (i : Int) 3).toNat]) (by rw [List.getElem?_map, List.getElem?_eq_getElem hj]; rfl)
            rw [show (((Int.fmod (i : Int) 3).toNat : Nat) : Int) = Int.fmod (i : Int) 3 by omega] at za
            exact za
          refine ⟨.ref l, rfl, .int _, rfl, l, _, _, _, rfl, rfl, SqL.of e3T, hat, .int u, rfl, .int (i : Nat), rfl, _, _, rfl, rfl, _, _, rfl, rfl, .inr (by omega), _, _, rfl, rfl, ?_⟩
          refine ⟨.ref l, rfl, .int _, rfl, l, _, _, (Int.fmod (i : Int) 3).toNat, rfl, rfl, e3T, ?_, ?_⟩
          · unfold ixN
            rw [List.length_map, if_pos f0, if_pos (by omega)]
          · refine ⟨_, _, _, zs.set (Int.fmod (i : Int) 3).toNat (zs[(Int.fmod (i : Int) 3).toNat] + u * ((i : Int) + 2)), rfl, ⟨fun c o ec => ?_, fun c o nc ec => ?_⟩, ?_, ?_⟩
            · have q3 := kk.1 _ _ ec
              have ncl3 : c ≠ l := ne_of_none ec nl
              rw [upd_ne ncl3, upd_ne (ne_of_none q3 nT)]
              exact q3
            · have q3 := kk.2 _ _ nc ec
              rw [upd_ne nc, upd_ne (ne_of_none q3 nT)]
              exact q3
            · rw [upd_same, List.map_set]
            · rw [List.length_set]
              exact hzl
      · rintro σ H3 ⟨y3, y4, y5, zs, rfl, kk, e3, hzl⟩
        exact ⟨.ref l, rfl, q H3 l zs kk.1 nl e3 (by omega) (by omega)⟩
end
end K00
namespace K00
open PySem PySem.Spec PyProof.Rows L2 CS RZ
/-! ### places, journeys, as data -/
def isPlD : PyData → Bool
  | .str z => isPl z
  | _ => false
def strOf : PyData → Option Str
  | .str z => some z
  | _ => none
def sgs (ds : List PyData) : List Str := ds.filterMap strOf
def altB (ss : List Str) : Bool := (prs ss).all fun p => !decide (p.1 = p.2)
def isJ : PyData → Bool
  | .tuple ds => !ds.isEmpty && (ds.all isPlD && altB (sgs ds))
  | _ => false
def isS : PyData → Bool
  | .tuple ds => decide (ds.length = 2) && isJ (.tuple ds)
  | _ => false
/-- texts of moderate length at the top -/
def small1 : PyData → Prop
  | .str z => z.cps.size ≤ 1000
  | _ => True
def small2 : PyData → Prop
  | .str z => z.cps.size ≤ 1000
  | .tuple ds => ds.length ≤ 900 ∧ ∀ d ∈ ds, small1 d
  | _ => True
def tyN : PyData → String
  | .none => "NoneType"
  | .bool _ => "bool"
  | .int _ => "int"
  | .str _ => "str"
  | .list _ => "list"
  | .tuple _ => "tuple"
  | .dict _ => "dict"
def isStr : PyData → Bool
  | .str _ => true
  | _ => false
def isTup : PyData → Bool
  | .tuple _ => true
  | _ => false
theorem dTy {K : PySem.W.Frag} {H : Hp} {x : V} {d : PyData} (h : Dp K H x d) : TyX K H x (.type (tyN d)) := by
  cases h with
  | non => exact .base .non
  | bl b => exact .base (.bl b)
  | int i => exact .base (.int i)
  | str z => exact .base (.str z)
  | lst q r => exact tyL q
  | tup q r => exact tyT q
theorem kStr : ∀ d : PyData, kitB (tyN d) "str" = some (isStr d)
  | .none => (by decide +kernel : kitB "NoneType" "str" = some false)
  | .bool _ => (by decide +kernel : kitB "bool" "str" = some false)
  | .int _ => (by decide +kernel : kitB "int" "str" = some false)
  | .str _ => (by decide +kernel : kitB "str" "str" = some true)
  | .list _ => (by decide +kernel : kitB "list" "str" = some false)
  | .tuple _ => (by decide +kernel : kitB "tuple" "str" = some false)
  | .dict _ => (by decide +kernel : kitB "dict" "str" = some false)
theorem kTup : ∀ d : PyData, kitB (tyN d) "tuple" = some (isTup d)
  | .none => (by decide +kernel : kitB "NoneType" "tuple" = some false)
  | .bool _ => (by decide +kernel : kitB "bool" "tuple" = some false)
  | .int _ => (by decide +kernel : kitB "int" "tuple" = some false)
  | .str _ => (by decide +kernel : kitB "str" "tuple" = some false)
  | .list _ => (by decide +kernel : kitB "list" "tuple" = some false)
  | .tuple _ => (by decide +kernel : kitB "tuple" "tuple" = some true)
  | .dict _ => (by decide +kernel : kitB "dict" "tuple" = some false)
theorem sgs_of {K : PySem.W.Frag} {H : Hp} : ∀ {ds : List PyData} {xs : List V}, DpAll K H xs ds → ds.all isPlD = true → xs = (sgs ds).map V.str ∧ (sgs ds).length = ds.length
  | [], _, .nil, _ => ⟨rfl, rfl⟩
  | d :: ds, _, .cons q r, h => by
    rw [List.all_cons, Bool.and_eq_true] at h
    obtain ⟨e1, e2⟩ := sgs_of r h.2
    cases d with
    | str z =>
      cases q
      refine ⟨?_, ?_⟩
      · rw [e1]
        rfl
      · show (sgs ds).length + 1 = _
        rw [e2]
        rfl
    | _ => exact absurd h.1 (by simp [isPlD])
theorem isPl_not {d : PyData} (h : isStr d = false) : isPlD d = false := by
  cases d <;> first | rfl | (cases h)
section
variable {P : Program} {w : World} {K : PySem.W.Frag} {mg : Str → Option Value} {base : Heap}
def spPlace (K : PySem.W.Frag) : Sp := fun vs H Q _ => ∃ (x : V) (d : PyData), vs = [x] ∧ Dp K H x d ∧ small1 d ∧ ∀ H' : Hp, Same H H' → Q (.bl (isPlD d)) H'
abbrev nPlace : List Str := ["thing", "letter"]
theorem scPlace : FnScope nPlace ["thing"] (defScope sPlace) := ⟨rfl, rfl, rfl, by decide +kernel, rfl, by decide +kernel, by decide +kernel⟩
theorem ok_place {f : Addr} {fd : FuncData} {k : Nat} {uL uM : Value} (F : Fun K "is_place" "is_place" sPlace f fd) (T : SmT mg) (mL : mg "LETTERS" = some uL) (rL : RelV (.str "abcdefghijklmnopqrstuvwxyz") uL) (mM : mg "LONGEST" = some uM) (rM : RelV (.int 8) uM) :
    FnOk P w K mg base CX0 (k + 1) f fd ["thing"] (spPlace K) := by
  refine F.ok scPlace (fun vs H Q E h => ?_) (fun cdv A outer s H vs Q E hr h => ?_)
  · obtain ⟨x, d, rfl, _⟩ := h
    rfl
  · obtain ⟨x, d, rfl, hx, hd, q⟩ := h
    refine ⟨_, pss_one (ps_ret (pe_and (pe_callB call_isi (by rfl) T.is (by decide +kernel) (pa_cons (pv 0) (pa_cons (pe_bltn (v := .ty "str") (by rfl) T.st (by decide +kernel) rfl) pa_nil)))
      (pe_and (pe_chain op_le op_le pe_int (pe_callB call_len_str (by rfl) T.le PySem.boot_len (pa_cons (pv 0) pa_nil)) (pe_glob (by rfl) mM rM))
      (pe_one (pe_callB (cr_all rfl) (by rfl) T.al (by decide +kernel) (pa_cons (pe_lc (own := [("letter", 1)]) (g := gName 1) (by rfl) scPlace.nd (pi_str (pv 0)) (blkOk_by (own := [("letter", 1)]) (N := nPlace) (sc := defScope sPlace) (by decide +kernel))
        (fun _ _ _ _ _ => pg_name (i := 1) scPlace.nd rfl (Or.inl rfl) (.inr rfl)) (fun _ _ _ _ _ => pts_nil) (fun _ _ _ _ _ => pe_cmpR op_in_sign (pv 1) (pe_glob (by rfl) mL rL) rfl)) pa_nil)))))), ?_⟩
    refine ⟨x, rfl, _, _, _, _, isStr d, rfl, .ty _, dTy hx, isi_one (kStr d), _, rfl, ?_⟩
    refine ite2 (fun c => ?_) (fun c => ?_)
    · cases hx with
      | str z =>
        have hz : z.cps.size ≤ 1000 := hd
        refine ⟨.str z, rfl, z, rfl, Nat.le_of_lt (small1000 hz), _, _, rfl, rfl, _, rfl, ?_⟩
        have hl : z.length = z.cps.size := rfl
        refine ite2 (fun c1 => ?_) (fun c1 => ?_)
        · refine ⟨_, _, rfl, rfl, _, rfl, ?_⟩
          refine ite2 (fun c2 => ?_) (fun c2 => ?_)
          · have g1 : (1 : Int) ≤ (z.length : Nat) := of_decide_eq_true c1
            have g2 : ((z.length : Nat) : Int) ≤ 8 := of_decide_eq_true c2
            refine ⟨.str z, rfl, z, rfl, fun D nD => lc_it (walk_str (z := z)) (fun i H' => Same H H' ∧ H' D = some (.lst (((z.cps.toList.take i).map fun c => decide (c ∈ letters)).map V.bl))) ⟨same_upd nD, upd_same⟩ (fun _ _ _ _ => trivial) ?_ ?_⟩
            · rintro i v H2 H3 hi ⟨s2, eD⟩ ⟨rfl, c, hc, rfl⟩
              have hc' : z.cps.toList[i]? = some c := by
                rw [Array.getElem?_toList]
                exact hc
              refine ⟨rfl, ?_⟩
              unfold tYes
              refine ite2 (fun _ => ?_) (fun z => absurd rfl z)
              refine ⟨.str ⟨#[c]⟩, rfl, c, _, rfl, rfl, _, eD, ?_, fun b o e => ?_, ?_⟩
              · rw [List.length_map, List.length_map, List.length_take]
                exact small1000 (by omega)
              · rw [upd_ne (ne_of_none e nD)]
                exact s2 _ _ e
              · rw [upd_same, take_snoc hc', List.map_append, List.map_append]
                rfl
            · rintro H2 ⟨s2, eD⟩
              have el : z.cps.toList.take z.cps.size = z.cps.toList := List.take_of_length_le (by rw [Array.length_toList]; exact Nat.le_refl _)
              rw [el] at eD
              refine ⟨D, _, rfl, SqL.of eD, ?_⟩
              have e : isPlD (.str z) = (z.cps.toList.map fun c => decide (c ∈ letters)).all id := by
                show (decide (0 < z.cps.size) && decide (z.cps.size < 9) && z.cps.toList.all fun c => decide (c ∈ letters)) = _
                rw [decide_eq_true (show 0 < z.cps.size by omega), decide_eq_true (show z.cps.size < 9 by omega), List.all_map]
                rfl
              rw [← e]
              exact q _ s2
          · have g2 : ¬ ((z.length : Nat) : Int) ≤ 8 := fun y => c2 (decide_eq_true y)
            have e : isPlD (.str z) = false := by
              show (decide (0 < z.cps.size) && decide (z.cps.size < 9) && z.cps.toList.all fun c => decide (c ∈ letters)) = false
              rw [decide_eq_false (show ¬ z.cps.size < 9 by omega), Bool.and_false, Bool.false_and]
            have z2 := q H fun _ _ e => e
            rw [e] at z2
            exact z2
        · have g1 : ¬ (1 : Int) ≤ (z.length : Nat) := fun y => c1 (decide_eq_true y)
          have e : isPlD (.str z) = false := by
            show (decide (0 < z.cps.size) && decide (z.cps.size < 9) && z.cps.toList.all fun c => decide (c ∈ letters)) = false
            rw [decide_eq_false (show ¬ 0 < z.cps.size by omega), Bool.false_and, Bool.false_and]
          have z2 := q H fun _ _ e => e
          rw [e] at z2
          exact ⟨_, rfl, iteF z2⟩
      | _ => cases c
    · have e : isStr d = false := by simpa using c
      rw [← isPl_not e]
      exact q H fun _ _ e => e
def spJour (K : PySem.W.Frag) : Sp := fun vs H Q _ => ∃ (x : V) (d : PyData), vs = [x] ∧ Dp K H x d ∧ small2 d ∧ ∀ H' : Hp, Same H H' → Q (.bl (isJ d)) H'
abbrev nJour : List Str := ["thing", "member", "one", "other"]
theorem scJour : FnScope nJour ["thing"] (defScope sJour) := ⟨rfl, rfl, rfl, by decide +kernel, rfl, by decide +kernel, by decide +kernel⟩
theorem ok_jour {f g g2 : Addr} {fd gd gd2 : FuncData} {k : Nat} (F : Fun K "is_journey" "is_journey" sJour f fd) (T : SmT mg)
    (Gp : FnOk P w K mg base CX0 k g gd ["thing"] (spPlace K)) (bp : Binds K gd ["thing"] []) (kp : PySem.W.keepIn K (.ref g) = true) (mp : mg "is_place" = some (.ref g))
    (Gs : FnOk P w K mg base CX0 k g2 gd2 ["journey"] (spSteps K)) (bs : Binds K gd2 ["journey"] []) (ks : PySem.W.keepIn K (.ref g2) = true) (ms : mg "steps_of" = some (.ref g2)) :
    FnOk P w K mg base CX0 (k + 1) f fd ["thing"] (spJour K) := by
  refine F.ok scJour (fun vs H Q E h => ?_) (fun cdv A outer s H vs Q E hr h => ?_)
  · obtain ⟨x, d, rfl, _⟩ := h
    rfl
  · obtain ⟨x, d, rfl, hx, hd, q⟩ := h
    refine ⟨_, pss_cons (ps_if (PW.pt (pw_or (pt_not (pt_val (pe_callB call_isi (by rfl) T.is (by decide +kernel) (pa_cons (pv 0) (pa_cons (pe_bltn (v := .ty "tuple") (by rfl) T.tu (by decide +kernel) rfl) pa_nil)))))
          (pw_or1 (pt_cmpR op_eq (pe_callB call_len_seq (by rfl) T.le PySem.boot_len (pa_cons (pv 0) pa_nil)) pe_int (nomark _))))) (pss_one (ps_ret pe_bl)) pss_nil)
      (pss_cons (ps_if (pt_not (pt_val (pe_callB (cr_all rfl) (by rfl) T.al (by decide +kernel) (pa_cons (pe_lc (own := [("member", 1)]) (g := gName 1) (by rfl) scJour.nd (pi_tup (pv 0)) (blkOk_by (own := [("member", 1)]) (N := nJour) (sc := defScope sJour) (by decide +kernel))
          (fun _ _ _ _ _ => pg_name (i := 1) scJour.nd rfl (Or.inl rfl) (.inr rfl)) (fun _ _ _ _ _ => pts_nil) (fun _ _ _ _ _ => pe_call Gp hr (by rfl) mp kp bp .nil pass0 (pa_cons (pv 1) pa_nil))) pa_nil)))) (pss_one (ps_ret pe_bl)) pss_nil)
      (pss_one (ps_ret (pe_callB (cr_all rfl) (by rfl) T.al (by decide +kernel) (pa_cons (pe_lc (own := [("one", 2), ("other", 3)]) (g := gTup K 2 (gCons (gName 2) (gCons (gName 3) gNil))) (by rfl) scJour.nd (pi_tup (pe_call Gs hr (by rfl) ms ks bs .nil pass0 (pa_cons (pv 0) pa_nil)))
          (blkOk_by (own := [("one", 2), ("other", 3)]) (N := nJour) (sc := defScope sJour) (by decide +kernel)) (fun _ _ _ _ _ => pg_tup rfl (pgs_cons (pg_name (i := 2) scJour.nd rfl (Or.inl rfl) (.inr rfl)) (pgs_cons (pg_name (i := 3) scJour.nd rfl (Or.inl rfl) (.inr rfl)) pgs_nil)))
          (fun _ _ _ _ _ => pts_nil) (fun _ _ _ _ _ => pe_cmpR op_ne (pv 2) (pv 3) (nomark _))) pa_nil))))), ?_⟩
    refine ⟨x, rfl, _, _, _, _, isTup d, rfl, .ty _, dTy hx, isi_one (kTup d), _, rfl, ?_⟩
    cases hx with
    | tup hS hA =>
      rename_i a xs ds
      obtain ⟨hl, hsm⟩ := hd
      have lx := dpAll_len hA
      refine ite2 (fun c => by cases c) (fun _ => ?_)
      refine ⟨.ref a, rfl, a, xs, rfl, .inr hS, rfl, _, rfl, ?_⟩
      refine ite2 (fun c => ?_) (fun c => ?_)
      · have e0 : xs.length = 0 := by
          have := V.int.inj (of_decide_eq_true c)
          omega
        have e1 : ds = [] := List.length_eq_zero_iff.mp (by omega)
        subst e1
        exact q H fun _ _ e => e
      · have hne : ds ≠ [] := fun e => c (decide_eq_true (by rw [lx, e]; rfl))
        refine ⟨.ref a, rfl, a, rfl, ⟨_, hS⟩, fun D nD => lc_tup (K := K) (a := a) (xs := xs) (fun i H' => Same H H' ∧ H' D = some (.lst (((ds.take i).map isPlD).map V.bl))) ⟨same_upd nD, upd_same⟩ (fun i H' _ z => sqT_same z.1 hS) ?_ ?_⟩
        · rintro i v H2 hv ⟨s2, eD⟩
          obtain ⟨d1, e1, r1⟩ := dpAll_at hA hv
          have hi := (List.getElem?_eq_some_iff.mp e1).1
          refine ⟨rfl, ?_⟩
          unfold tYes
          refine ite2 (fun _ => ?_) (fun z => absurd rfl z)
          refine ⟨v, rfl, v, d1, rfl, dp_same s2 r1, hsm d1 (List.mem_of_getElem? e1), fun H3 s3 => ⟨_, s3 _ _ eD, ?_, fun b o e => ?_, ?_⟩⟩
          · rw [List.length_map, List.length_map, List.length_take]
            exact small1000 (by omega)
          · rw [upd_ne (ne_of_none e nD)]
            exact s3 _ _ (s2 _ _ e)
          · rw [upd_same, take_snoc e1, List.map_append, List.map_append]
            rfl
        · rintro H2 ⟨s2, eD⟩
          rw [lx, List.take_length] at eD
          refine ⟨D, _, rfl, SqL.of eD, _, rfl, ?_⟩
          have eall : (ds.map isPlD).all id = ds.all isPlD := by
            rw [List.all_map]
            rfl
          have eJ : isJ (.tuple ds) = (ds.all isPlD && altB (sgs ds)) := by
            show (!ds.isEmpty && (ds.all isPlD && altB (sgs ds))) = _
            cases ds with
            | nil => exact absurd rfl hne
            | cons _ _ => rfl
          rw [eall]
          refine ite2 (fun c1 => ?_) (fun c1 => ?_)
          · have ea : ds.all isPlD = false := by simpa using c1
            have z2 := q H2 s2
            rw [eJ, ea, Bool.false_and] at z2
            exact z2
          · have ea : ds.all isPlD = true := by
              cases z : ds.all isPlD with
              | true => rfl
              | false => exact absurd (by rw [z]; rfl) c1
            obtain ⟨exs, lsg⟩ := sgs_of hA ea
            have hS2 : SqT K H2 a ((sgs ds).map V.str) := by
              rw [← exs]
              exact sqT_same s2 hS
            have hpos : 0 < (sgs ds).length := by
              rw [lsg]
              exact List.length_pos_iff.mpr hne
            refine ⟨.ref a, rfl, a, sgs ds, rfl, .inl hS2, hpos, fun H3 p0 as s3 n0 e0 hla hp => ?_⟩
            have hT : SqT K H3 p0 (as.map V.ref) := SqT.of e0
            refine ⟨p0, rfl, ⟨_, hT⟩, fun D2 nD2 => lc_tup (K := K) (a := p0) (xs := as.map V.ref) (fun i H' => Same H3 H' ∧ H' D2 = some (.lst ((((prs (sgs ds)).take i).map fun p => !decide (p.1 = p.2)).map V.bl))) ⟨same_upd nD2, upd_same⟩ (fun i H' _ z => sqT_same z.1 hT) ?_ ?_⟩
            · rintro i v H4 hv ⟨s4, eD4⟩
              obtain ⟨T1, x1, y1, rfl, hij, hT2⟩ := prs_at hp hla hv
              have hi := (List.getElem?_eq_some_iff.mp hij).1
              have lp := prs_len (sgs ds)
              refine ⟨T1, [.str x1, .str y1], rfl, SqT.of (s4 _ _ hT2), rfl, .str x1, [.str y1], rfl, .str y1, [], rfl, rfl, rfl, ?_⟩
              unfold tYes
              refine ite2 (fun _ => ?_) (fun z => absurd rfl z)
              refine ⟨.str x1, rfl, .str y1, rfl, rfl, _, eD4, ?_, fun b o e => ?_, ?_⟩
              · rw [List.length_map, List.length_map, List.length_take]
                exact small1000 (by omega)
              · rw [upd_ne (ne_of_none e nD2)]
                exact s4 _ _ e
              · rw [upd_same, take_snoc hij, List.map_append, List.map_append]
                have e5 : decide (V.str x1 = V.str y1) = decide (x1 = y1) := by
                  by_cases c : x1 = y1
                  · rw [c, decide_eq_true rfl, decide_eq_true rfl]
                  · rw [decide_eq_false c, decide_eq_false (fun z => c (V.str.inj z))]
                rw [e5]
                rfl
            · rintro H4 ⟨s4, eD4⟩
              rw [List.length_map, hla, ← prs_len, List.take_length] at eD4
              refine ⟨D2, _, rfl, SqL.of eD4, ?_⟩
              have z2 := q H4 (s2.trans (s3.trans s4))
              rw [eJ, ea, Bool.true_and] at z2
              rw [List.all_map]
              exact z2
    | _ =>
      refine ite2 (fun _ => ?_) (fun c => absurd rfl c)
      exact q H fun _ _ e => e
def spStep (K : PySem.W.Frag) : Sp := fun vs H Q _ => ∃ (x : V) (d : PyData), vs = [x] ∧ Dp K H x d ∧ small2 d ∧ ∀ H' : Hp, Same H H' → Q (.bl (isS d)) H'
theorem scStep : FnScope ["thing"] ["thing"] (defScope sStep) := ⟨rfl, rfl, rfl, by decide +kernel, rfl, by decide +kernel, by decide +kernel⟩
theorem ok_step {f g : Addr} {fd gd : FuncData} {k : Nat} (F : Fun K "is_step" "is_step" sStep f fd) (T : SmT mg)
    (Gj : FnOk P w K mg base CX0 k g gd ["thing"] (spJour K)) (bj : Binds K gd ["thing"] []) (kj : PySem.W.keepIn K (.ref g) = true) (mj : mg "is_journey" = some (.ref g)) : FnOk P w K mg base CX0 (k + 1) f fd ["thing"] (spStep K) := by
  refine F.ok scStep (fun vs H Q E h => ?_) (fun cdv A outer s H vs Q E hr h => ?_)
  · obtain ⟨x, d, rfl, _⟩ := h
    rfl
  · obtain ⟨x, d, rfl, hx, hd, q⟩ := h
    refine ⟨_, pss_one (ps_ret (pe_and (pe_callB call_isi (by rfl) T.is (by decide +kernel) (pa_cons (pv 0) (pa_cons (pe_bltn (v := .ty "tuple") (by rfl) T.tu (by decide +kernel) rfl) pa_nil)))
      (pe_and (pe_cmpR op_eq (pe_callB call_len_seq (by rfl) T.le PySem.boot_len (pa_cons (pv 0) pa_nil)) pe_int (nomark _)) (pe_one (pe_call Gj hr (by rfl) mj kj bj .nil pass0 (pa_cons (pv 0) pa_nil)))))), ?_⟩
    refine ⟨x, rfl, _, _, _, _, isTup d, rfl, .ty _, dTy hx, isi_one (kTup d), _, rfl, ?_⟩
    cases hx with
    | tup hS hA =>
      rename_i a xs ds
      have lx := dpAll_len hA
      refine ite2 (fun _ => ?_) (fun c => absurd rfl c)
      refine ⟨.ref a, rfl, a, xs, rfl, .inr hS, rfl, _, rfl, ?_⟩
      refine ite2 (fun c => ?_) (fun c => ?_)
      · have e0 : ds.length = 2 := by
          have := V.int.inj (of_decide_eq_true c)
          omega
        refine ⟨.ref a, rfl, .ref a, .tuple ds, rfl, .tup hS hA, hd, fun H' s' => ?_⟩
        have z2 := q H' s'
        rw [show isS (.tuple ds) = isJ (.tuple ds) by
          show (decide (ds.length = 2) && isJ (.tuple ds)) = _
          rw [decide_eq_true e0, Bool.true_and]] at z2
        exact z2
      · have z2 := q H fun _ _ e => e
        rw [show isS (.tuple ds) = false by
          show (decide (ds.length = 2) && isJ (.tuple ds)) = _
          rw [decide_eq_false (fun e => c (decide_eq_true (by rw [lx, e]; rfl))), Bool.false_and]] at z2
        exact z2
    | _ =>
      refine ite2 (fun c => by cases c) (fun c => ?_)
      exact q H fun _ _ e => e
end
end K00
namespace K00
open PySem PySem.Spec PyProof.Rows L2 CS RZ
section
variable {K : PySem.W.Frag}
def dS (ss : List Str) : List PyData := ss.map PyData.str
def dI (ns : List Int) : List PyData := ns.map PyData.int
def dP (ps : List (Str × Str)) : List PyData := ps.map fun p => PyData.tuple [.str p.1, .str p.2]
theorem dpS {H : Hp} : ∀ ss : List Str, DpAll K H (ss.map V.str) (dS ss)
  | [] => .nil
  | z :: r => .cons (.str z) (dpS r)
theorem dpI {H : Hp} : ∀ ns : List Int, DpAll K H (ns.map V.int) (dI ns)
  | [] => .nil
  | z :: r => .cons (.int z) (dpI r)
end
theorem layS : ∀ ss : List Str, (∀ z ∈ ss, PyData.strOk z = true) → PyData.canLayAll0 (dS ss) = true
  | [], _ => rfl
  | z :: r, h => by
    show (PyData.canLay0 (.str z) && PyData.canLayAll0 (dS r)) = true
    rw [layS r fun y hy => h y (List.mem_cons_of_mem _ hy), Bool.and_true]
    exact h z (List.mem_cons_self ..)
theorem depS : ∀ ss : List Str, PyData.depthAll (dS ss) = 0
  | [] => rfl
  | z :: r => by
    show max (PyData.depth (.str z)) (PyData.depthAll (dS r)) = 0
    rw [depS r]
    rfl
theorem shS (ss : List Str) (h : ∀ z ∈ ss, PyData.strOk z = true) : SeqAt.shaped (.list (dS ss)) = true := by
  unfold SeqAt.shaped
  rw [Bool.and_eq_true]
  refine ⟨layS ss h, decide_eq_true ?_⟩
  show PyData.depthAll (dS ss) + 1 ≤ 64
  rw [depS]
  decide
theorem shI (ns : List Int) : SeqAt.shaped (.list (dI ns)) = true := by
  have a1 : ∀ ns : List Int, PyData.canLayAll0 (dI ns) = true := by
    intro ns
    induction ns with
    | nil => rfl
    | cons n r ih =>
      show (true && PyData.canLayAll0 (dI r)) = true
      rw [ih]
      rfl
  have a2 : ∀ ns : List Int, PyData.depthAll (dI ns) = 0 := by
    intro ns
    induction ns with
    | nil => rfl
    | cons n r ih =>
      show max (PyData.depth (.int n)) (PyData.depthAll (dI r)) = 0
      rw [ih]
      rfl
  unfold SeqAt.shaped
  rw [Bool.and_eq_true]
  refine ⟨a1 ns, decide_eq_true ?_⟩
  show PyData.depthAll (dI ns) + 1 ≤ 64
  rw [a2]
  decide
/-- members that may be compared -/
def lay1 (d : PyData) : Prop := PyData.canLay0 d = true ∧ d.depth ≤ 20
theorem layAll_of : ∀ l : List PyData, (∀ d ∈ l, lay1 d) → PyData.canLayAll0 l = true ∧ PyData.depthAll l ≤ 20
  | [], _ => ⟨rfl, Nat.zero_le _⟩
  | d :: l, h => by
    obtain ⟨h1, h2⟩ := h d (List.mem_cons_self ..)
    obtain ⟨e1, e2⟩ := layAll_of l fun y hy => h y (List.mem_cons_of_mem _ hy)
    refine ⟨?_, ?_⟩
    · show (PyData.canLay0 d && PyData.canLayAll0 l) = true
      rw [h1, e1]
      rfl
    · show max d.depth (PyData.depthAll l) ≤ 20
      omega
theorem shLd {l : List PyData} (h : ∀ d ∈ l, lay1 d) : SeqAt.shaped (.list l) = true := by
  obtain ⟨h1, h2⟩ := layAll_of l h
  unfold SeqAt.shaped
  rw [Bool.and_eq_true]
  refine ⟨h1, decide_eq_true ?_⟩
  show PyData.depthAll l + 1 ≤ 64
  omega
theorem shTd {l : List PyData} (h : ∀ d ∈ l, lay1 d) : SeqAt.shaped (.tuple l) = true := by
  obtain ⟨h1, h2⟩ := layAll_of l h
  unfold SeqAt.shaped
  rw [Bool.and_eq_true]
  refine ⟨h1, decide_eq_true ?_⟩
  show PyData.depthAll l + 1 ≤ 64
  omega
theorem eqv_nilL (l : List PyData) : PyData.eqv (.list l) (.list []) = l.isEmpty := by
  cases l <;> simp [PyData.eqv, PyData.eqvAll]
theorem eqv_nilT (l : List PyData) : PyData.eqv (.tuple l) (.tuple []) = l.isEmpty := by
  cases l <;> simp [PyData.eqv, PyData.eqvAll]
section
variable {P : Program} {w : World} {K : PySem.W.Frag} {mg : Str → Option Value} {base : Heap}
/-! ### is_tag -/
def spTag (K : PySem.W.Frag) : Sp := fun vs H Q _ => ∃ (x : V) (d : PyData), vs = [x] ∧ Dp K H x d ∧ small1 d ∧ lay1 d ∧ ∀ H' : Hp, Same H H' → Q (.bl (isPlD d)) H'
abbrev nTag : List Str := ["_law_matter", "_law_sign"]
theorem scIsTag : FnScope nTag ["_law_matter"] (defScope sIsTag) := ⟨rfl, rfl, rfl, by decide +kernel, rfl, by decide +kernel, by decide +kernel⟩
theorem ok_istag {f : Addr} {fd : FuncData} {k : Nat} (F : Fun K "_law_is_tag" "_law_is_tag" sIsTag f fd) (T : SmT mg) : FnOk P w K mg base CX0 (k + 1) f fd ["_law_matter"] (spTag K) := by
  refine F.ok scIsTag (fun vs H Q E h => ?_) (fun cdv A outer s H vs Q E hr h => ?_)
  · obtain ⟨x, d, rfl, _⟩ := h
    rfl
  · obtain ⟨x, d, rfl, hx, hd, hlay, q⟩ := h
    refine ⟨_, pss_cons (ps_if (PW.pt (pw_or (pt_not (pt_val (pe_callB call_isi (by rfl) T.is (by decide +kernel) (pa_cons (pv 0) (pa_cons (pe_bltn (v := .ty "str") (by rfl) T.st (by decide +kernel) rfl) pa_nil)))))
          (pw_or1 (pt_not (pt_chain op_lt op_lt pe_int (pe_callB call_len_str (by rfl) T.le PySem.boot_len (pa_cons (pv 0) pa_nil)) pe_int))))) (pss_one (ps_ret pe_bl)) pss_nil)
      (pss_one (ps_ret (pe_cmpR (op_eqD hr.units) (pe_lc (own := [("_law_sign", 1)]) (g := gName 1) (by rfl) scIsTag.nd (pi_str (pv 0)) (blkOk_by (own := [("_law_sign", 1)]) (N := nTag) (sc := defScope sIsTag) (by decide +kernel))
        (fun _ _ _ _ _ => pg_name (i := 1) scIsTag.nd rfl (Or.inl rfl) (.inr rfl)) (fun _ _ _ _ _ => pts_one (pt_cmpR op_notIn_sign (pv 1) pe_str rfl)) (fun _ _ _ _ _ => pv 1)) (pe_lst pa_nil) (nomark _)))), ?_⟩
    refine ⟨x, rfl, _, _, _, _, isStr d, rfl, .ty _, dTy hx, isi_one (kStr d), _, rfl, ?_⟩
    cases hx with
    | str z =>
      have hz : z.cps.size ≤ 1000 := hd
      have hl : z.length = z.cps.size := rfl
      have hok : PyData.strOk z = true := hlay.1
      refine ite2 (fun c => by cases c) (fun _ => ?_)
      refine ⟨.str z, rfl, z, rfl, Nat.le_of_lt (small1000 hz), _, _, rfl, rfl, _, rfl, ?_⟩
      have shut : ∀ b : Bool, (b = true ↔ (0 < z.cps.size ∧ z.cps.size < 9)) → isPlD (.str z) = (b && z.cps.toList.all fun c => decide (c ∈ letters)) := fun b hb => by
        show (decide (0 < z.cps.size) && decide (z.cps.size < 9) && z.cps.toList.all fun c => decide (c ∈ letters)) = _
        cases b with
        | true =>
          have := hb.mp rfl
          rw [decide_eq_true this.1, decide_eq_true this.2]
          rfl
        | false =>
          have e : (decide (0 < z.cps.size) && decide (z.cps.size < 9)) = false := by
            cases e : (decide (0 < z.cps.size) && decide (z.cps.size < 9)) with
            | false => rfl
            | true =>
              rw [Bool.and_eq_true, decide_eq_true_eq, decide_eq_true_eq] at e
              exact absurd (hb.mpr e) Bool.false_ne_true
          rw [e]
      refine ite2 (fun c1 => ?_) (fun c1 => ?_)
      · have g1 : (0 : Int) < (z.length : Nat) := of_decide_eq_true c1
        refine ⟨_, _, rfl, rfl, _, rfl, ?_⟩
        refine ite2 (fun c2 => ?_) (fun c2 => ?_)
        · have g2 : ¬ ((z.length : Nat) : Int) < 9 := fun y => by
            have y2 : decide (((z.length : Nat) : Int) < 9) = true := decide_eq_true y
            rw [y2] at c2
            cases c2
          have z2 := q H fun _ _ e => e
          rw [shut false ⟨fun e => (by cases e), fun e => (by omega)⟩] at z2
          exact z2
        · have g2 : ((z.length : Nat) : Int) < 9 := Classical.byContradiction fun y => c2 (by
            have y2 : decide (((z.length : Nat) : Int) < 9) = false := decide_eq_false y
            rw [y2]
            rfl)
          refine ⟨.str z, rfl, z, rfl, fun D nD => lc_it (walk_str (z := z)) (fun i H' => Same H H' ∧ H' D = some (.lst (((z.cps.toList.take i).filter fun c => !decide (c ∈ letters)).map fun c => V.str ⟨#[c]⟩))) ⟨same_upd nD, upd_same⟩ (fun _ _ _ _ => trivial) ?_ ?_⟩
          · rintro i v H2 H3 hi ⟨s2, eD⟩ ⟨rfl, c, hc, rfl⟩
            have hc' : z.cps.toList[i]? = some c := by
              rw [Array.getElem?_toList]
              exact hc
            rw [take_snoc hc', List.filter_append]
            refine ⟨rfl, .str ⟨#[c]⟩, rfl, c, _, rfl, rfl, _, rfl, ?_⟩
            refine ite2 (fun cc => ?_) (fun cc => ?_)
            · refine ⟨.str ⟨#[c]⟩, rfl, _, eD, ?_, fun b o e => ?_, ?_⟩
              · rw [List.length_map]
                refine Nat.lt_of_le_of_lt (Nat.le_trans (List.length_filter_le _ _) ?_) (small1000 (n := 1000) (Nat.le_refl _))
                rw [List.length_take]
                omega
              · rw [upd_ne (ne_of_none e nD)]
                exact s2 _ _ e
              · rw [upd_same, List.filter_cons, if_pos (show (!decide (c ∈ letters)) = true from cc), List.filter_nil, List.map_append]
                rfl
            · rw [List.filter_cons, if_neg (show ¬ (!decide (c ∈ letters)) = true from cc), List.filter_nil, List.append_nil]
              exact ⟨s2, eD⟩
          · rintro H2 ⟨s2, eD⟩
            have el : z.cps.toList.take z.cps.size = z.cps.toList := List.take_of_length_le (by rw [Array.length_toList]; exact Nat.le_refl _)
            rw [el] at eD
            obtain ⟨cs, ecs⟩ : ∃ cs : List Nat, cs = z.cps.toList.filter fun c => !decide (c ∈ letters) := ⟨_, rfl⟩
            rw [← ecs] at eD
            have em : (cs.map fun c => V.str ⟨#[c]⟩) = (cs.map fun c => (⟨#[c]⟩ : Str)).map V.str := by
              rw [List.map_map]
              rfl
            rw [em] at eD
            have okc : ∀ y ∈ cs.map fun c => (⟨#[c]⟩ : Str), PyData.strOk y = true := by
              intro y hy
              obtain ⟨c, hc, rfl⟩ := List.mem_map.mp hy
              rw [ecs] at hc
              have hm := (List.mem_filter.mp hc).1
              have hall : ∀ c ∈ z.cps.toList, c < 0x110000 := by
                unfold PyData.strOk at hok
                rw [← Array.all_toList, List.all_eq_true] at hok
                exact fun c hc => of_decide_eq_true (hok c hc)
              show (#[c] : Array Nat).all (· < 0x110000) = true
              simp [hall c hm]
            refine ⟨Nat.zero_le _, fun l nl => ⟨.list (dS (cs.map fun c => (⟨#[c]⟩ : Str))), .list [], .lst (SqL.of (same_upd nl _ _ eD)) (dpS _), .lst (SqL.of upd_same) .nil, shS _ okc, by decide +kernel, ?_⟩⟩
            have z2 := q (upd H2 l (.lst [])) (s2.trans (same_upd nl))
            rw [shut true ⟨fun _ => by omega, fun _ => rfl⟩, Bool.true_and] at z2
            rw [eqv_nilL]
            have e : (dS (cs.map fun c => (⟨#[c]⟩ : Str))).isEmpty = z.cps.toList.all fun c => decide (c ∈ letters) := by
              have e1 : (dS (cs.map fun c => (⟨#[c]⟩ : Str))).isEmpty = cs.isEmpty := by
                cases cs <;> rfl
              rw [e1, ecs]
              cases ea : z.cps.toList.all fun c => decide (c ∈ letters) with
              | true =>
                rw [List.isEmpty_iff, List.filter_eq_nil_iff]
                intro c hc
                rw [List.all_eq_true] at ea
                rw [ea c hc]
                decide
              | false =>
                rw [List.all_eq_false] at ea
                obtain ⟨c, hc, hn⟩ := ea
                cases ef : (z.cps.toList.filter fun c => !decide (c ∈ letters)) with
                | cons _ _ => rfl
                | nil =>
                  rw [List.filter_eq_nil_iff] at ef
                  have := ef c hc
                  simp only [Bool.not_eq_true', Bool.not_eq_false] at this
                  simp at hn this
                  exact absurd this hn
            rw [e]
            exact z2
      · have g1 : ¬ (0 : Int) < (z.length : Nat) := fun y => c1 (decide_eq_true y)
        refine ⟨_, rfl, ?_⟩
        refine ite2 (fun _ => ?_) (fun c2 => absurd rfl c2)
        have z2 := q H fun _ _ e => e
        rw [shut false ⟨fun e => (by cases e), fun e => (by omega)⟩] at z2
        exact z2
    | _ =>
      refine ite2 (fun _ => ?_) (fun c => absurd rfl c)
      exact q H fun _ _ e => e
end
end K00
namespace K00
open PySem PySem.Spec PyProof.Rows L2 CS RZ
def goodR : PyData → Prop
  | .tuple ds => ds.length ≤ 900 ∧ ∀ e ∈ ds, small1 e ∧ lay1 e
  | _ => True
section
variable {P : Program} {w : World} {K : PySem.W.Frag} {mg : Str → Option Value} {base : Heap}
/-! ### is_row -/
def spRow (K : PySem.W.Frag) : Sp := fun vs H Q _ => ∃ (x : V) (d : PyData), vs = [x] ∧ Dp K H x d ∧ goodR d ∧ ∀ H' : Hp, Same H H' → Q (.bl (isJ d)) H'
abbrev nRow : List Str := ["_law_matter", "_law_tag", "_law_k"]
theorem scIsRow : FnScope nRow ["_law_matter"] (defScope sIsRow) := ⟨rfl, rfl, rfl, by decide +kernel, rfl, by decide +kernel, by decide +kernel⟩
theorem ok_isrow {f g : Addr} {fd gd : FuncData} {k : Nat} (F : Fun K "_law_is_row" "_law_is_row" sIsRow f fd) (T : SmT mg) (mr : mg "range" = none)
    (Gt : FnOk P w K mg base CX0 k g gd ["_law_matter"] (spTag K)) (bt : Binds K gd ["_law_matter"] []) (kt : PySem.W.keepIn K (.ref g) = true) (mt : mg "_law_is_tag" = some (.ref g)) : FnOk P w K mg base CX0 (k + 1) f fd ["_law_matter"] (spRow K) := by
  refine F.ok scIsRow (fun vs H Q E h => ?_) (fun cdv A outer s H vs Q E hr h => ?_)
  · obtain ⟨x, d, rfl, _⟩ := h
    rfl
  · obtain ⟨x, d, rfl, hx, hd, q⟩ := h
    refine ⟨_, pss_cons (ps_if (PW.pt (pw_or (pt_not (pt_val (pe_callB call_isi (by rfl) T.is (by decide +kernel) (pa_cons (pv 0) (pa_cons (pe_bltn (v := .ty "tuple") (by rfl) T.tu (by decide +kernel) rfl) pa_nil)))))
          (pw_or (pt_cmpR (op_eqD hr.units) (pv 0) (pe_tup pa_nil) (nomark _))
          (pw_or1 (pt_cmpR (op_neD hr.units) (pe_lc (own := [("_law_tag", 1)]) (g := gName 1) (by rfl) scIsRow.nd (pi_tup (pv 0)) (blkOk_by (own := [("_law_tag", 1)]) (N := nRow) (sc := defScope sIsRow) (by decide +kernel))
            (fun _ _ _ _ _ => pg_name (i := 1) scIsRow.nd rfl (Or.inl rfl) (.inr rfl)) (fun _ _ _ _ _ => pts_one (pt_not (pt_val (pe_call Gt hr (by rfl) mt kt bt .nil pass0 (pa_cons (pv 1) pa_nil))))) (fun _ _ _ _ _ => pv 1)) (pe_lst pa_nil) (nomark _)))))) (pss_one (ps_ret pe_bl)) pss_nil)
      (pss_one (ps_ret (pe_cmpR (op_eqD hr.units) (pe_lc (own := [("_law_k", 2)]) (g := gName 2) (by rfl) scIsRow.nd (pi_range2 (by rfl) mr (pa_cons pe_int (pa_cons (pe_callB call_len_seq (by rfl) T.le PySem.boot_len (pa_cons (pv 0) pa_nil)) pa_nil)))
        (blkOk_by (own := [("_law_k", 2)]) (N := nRow) (sc := defScope sIsRow) (by decide +kernel)) (fun _ _ _ _ _ => pg_name (i := 2) scIsRow.nd rfl (Or.inl rfl) (.inr rfl))
        (fun _ _ _ _ _ => pts_one (pt_cmpR op_eq (pe_ix (r := rIxT K) ix_tup (pv 0) (pv 2) (fun _ _ => rfl)) (pe_ix (r := rIxT K) ix_tup (pv 0) (pe_op op_sub (pv 2) pe_int) (fun _ _ => rfl)) (nomark _))) (fun _ _ _ _ _ => pv 2)) (pe_lst pa_nil) (nomark _)))), ?_⟩
    refine ⟨x, rfl, _, _, _, _, isTup d, rfl, .ty _, dTy hx, isi_one (kTup d), _, rfl, ?_⟩
    cases hx with
    | tup hS hA =>
      rename_i a xs ds
      obtain ⟨hl, hde⟩ := hd
      have lx := dpAll_len hA
      have hla : ∀ e ∈ ds, lay1 e := fun e he => (hde e he).2
      refine ite2 (fun c => by cases c) (fun _ => ?_)
      refine ⟨.ref a, rfl, Nat.zero_le _, fun p np => ⟨.tuple ds, .tuple [], .tup (sqT_same (same_upd np) hS) (dp_sameAll (same_upd np) hA), .tup (SqT.of upd_same) .nil, shTd hla, by decide +kernel, _, rfl, ?_⟩⟩
      have s1 : Same H (upd H p (.tup [])) := same_upd np
      generalize upd H p (.tup []) = H1 at s1
      rw [eqv_nilT]
      refine ite2 (fun c => ?_) (fun c => ?_)
      · have e0 : ds = [] := List.isEmpty_iff.mp c
        subst e0
        exact q H1 s1
      · have hne : ds ≠ [] := fun e => c (List.isEmpty_iff.mpr e)
        have hA1 := dp_sameAll s1 hA
        have hS1 := sqT_same s1 hS
        refine ⟨.ref a, rfl, a, rfl, ⟨_, hS1⟩, fun D nD => lc_tup (K := K) (a := a) (xs := xs) (fun i H' => ∃ ys : List V, Same H1 H' ∧ H' D = some (.lst ys) ∧ DpAll K H1 ys ((ds.take i).filter fun d => !isPlD d)) ⟨[], same_upd nD, upd_same, .nil⟩ (fun i H' _ z => by
            obtain ⟨_, s, _⟩ := z
            exact sqT_same s hS1) ?_ ?_⟩
        · rintro i v H2 hv ⟨ys, s2, eD, hys⟩
          obtain ⟨d1, e1, r1⟩ := dpAll_at hA1 hv
          have hi := (List.getElem?_eq_some_iff.mp e1).1
          have hm := hde d1 (List.mem_of_getElem? e1)
          rw [take_snoc e1, List.filter_append]
          refine ⟨rfl, v, rfl, v, d1, rfl, dp_same s2 r1, hm.1, hm.2, fun H3 s3 => ⟨_, rfl, ?_⟩⟩
          refine ite2 (fun cc => ?_) (fun cc => ?_)
          · have ly := dpAll_len hys
            refine ⟨v, rfl, ys, s3 _ _ eD, ?_, ys ++ [v], fun b o e => ?_, upd_same, ?_⟩
            · rw [ly]
              refine Nat.lt_of_le_of_lt (Nat.le_trans (List.length_filter_le _ _) ?_) (small1000 (n := 1000) (Nat.le_refl _))
              rw [List.length_take]
              omega
            · rw [upd_ne (ne_of_none e nD)]
              exact s3 _ _ (s2 _ _ e)
            · rw [List.filter_cons, if_pos (show (!isPlD d1) = true from cc), List.filter_nil]
              have app : ∀ (xs : List V) (es : List PyData), DpAll K H1 xs es → DpAll K H1 (xs ++ [v]) (es ++ [d1]) := by
                intro xs es h
                induction xs generalizing es with
                | nil =>
                  cases h
                  exact .cons r1 .nil
                | cons x xs ih =>
                  cases h with
                  | cons h t => exact .cons h (ih _ t)
              exact app _ _ hys
          · rw [List.filter_cons, if_neg (show ¬ (!isPlD d1) = true from cc), List.filter_nil, List.append_nil]
            exact ⟨ys, fun b o e => s3 _ _ (s2 _ _ e), s3 _ _ eD, hys⟩
        · rintro H2 ⟨ys, s2, eD, hys⟩
          rw [lx, List.take_length] at hys
          have hlf : ∀ e ∈ ds.filter (fun d => !isPlD d), lay1 e := fun e he => hla e (List.mem_filter.mp he).1
          refine ⟨Nat.zero_le _, fun l nl => ⟨.list (ds.filter fun d => !isPlD d), .list [], .lst (SqL.of (same_upd nl _ _ eD)) (dp_sameAll (s2.trans (same_upd nl)) hys), .lst (SqL.of upd_same) .nil, shLd hlf, by decide +kernel, _, rfl, ?_⟩⟩
          have s3 : Same H (upd H2 l (.lst [])) := (s1.trans s2).trans (same_upd nl)
          generalize upd H2 l (.lst []) = H3 at s3
          rw [eqv_nilL]
          have eJ : isJ (.tuple ds) = (ds.all isPlD && altB (sgs ds)) := by
            show (!ds.isEmpty && (ds.all isPlD && altB (sgs ds))) = _
            cases ds with
            | nil => exact absurd rfl hne
            | cons _ _ => rfl
          refine ite2 (fun cc => ?_) (fun cc => ?_)
          · have ea : ds.all isPlD = false := by
              rw [List.all_eq_false]
              cases ef : (ds.filter fun d => !isPlD d) with
              | nil =>
                rw [ef] at cc
                cases cc
              | cons e r =>
                have hm : e ∈ ds.filter fun d => !isPlD d := by rw [ef]; exact List.mem_cons_self ..
                have := List.mem_filter.mp hm
                exact ⟨e, this.1, by simpa using this.2⟩
            have z2 := q H3 s3
            rw [eJ, ea, Bool.false_and] at z2
            exact z2
          · have ea : ds.all isPlD = true := by
              rw [List.all_eq_true]
              intro e he
              cases ef : (ds.filter fun d => !isPlD d) with
              | nil =>
                rw [List.filter_eq_nil_iff] at ef
                have := ef e he
                simpa using this
              | cons u r =>
                rw [ef] at cc
                exact absurd rfl cc
            obtain ⟨exs, lsg⟩ := sgs_of hA ea
            obtain ⟨ss, ess⟩ : ∃ ss, ss = sgs ds := ⟨_, rfl⟩
            rw [← ess] at exs lsg eJ
            subst exs
            have hpos : 0 < ss.length := by
              rw [lsg]
              exact List.length_pos_iff.mpr hne
            have hS3 := sqT_same s3 hS
            have hat : ∀ (j : Nat) (z : Str), ss[j]? = some z → atI (ss.map V.str) (j : Int) = some (.str z) := fun j z e => atI_nat (by rw [List.getElem?_map, e]; rfl)
            have lp := prs_len ss
            refine ⟨.ref a, rfl, a, _, rfl, .inr hS3, _, _, rfl, ⟨by decide, by decide, by omega, by rw [List.length_map]; omega⟩, fun D2 nD2 => lc_range (lo := 1) (fun i H' => ∃ ks : List Int, Same H3 H' ∧ H' D2 = some (.lst (ks.map V.int)) ∧ ks.length ≤ i ∧ (ks = [] ↔ ((prs ss).take i).all (fun p => !decide (p.1 = p.2)) = true)) ⟨[], same_upd nD2, upd_same, Nat.le_refl _, ⟨fun _ => rfl, fun _ => rfl⟩⟩ ?_ ?_⟩
            · rintro i H4 hi ⟨ks, s4, eD4, lk, hk⟩
              rw [List.length_map] at hi
              have hi1 : i + 1 < ss.length := by omega
              have h1 : ss[i]? = some ss[i] := List.getElem?_eq_getElem (by omega)
              have h2 : ss[i + 1]? = some ss[i + 1] := List.getElem?_eq_getElem hi1
              have hp : (prs ss)[i]? = some (ss[i], ss[i + 1]) := by
                unfold prs
                rw [List.getElem?_zip_eq_some]
                exact ⟨h1, by rw [List.getElem?_tail]; exact h2⟩
              have a1 : atI (ss.map V.str) (1 + (i : Nat)) = some (.str ss[i + 1]) := by
                rw [show (1 + ((i : Nat) : Int)) = ((i + 1 : Nat) : Int) by omega]
                exact hat _ _ h2
              have a2 : atI (ss.map V.str) (1 + ((i : Nat) : Int) - 1) = some (.str ss[i]) := by
                rw [show (1 + ((i : Nat) : Int) - 1) = ((i : Nat) : Int) by omega]
                exact hat _ _ h1
              have hS4 := sqT_same s4 hS3
              rw [take_snoc hp, List.all_append]
              refine ⟨rfl, .ref a, rfl, .int (1 + (i : Nat)), rfl, a, _, _, _, rfl, rfl, hS4, a1, .ref a, rfl, .int (1 + (i : Nat)), rfl, _, _, rfl, rfl, a, _, _, _, rfl, rfl, hS4, a2, rfl, _, rfl, ?_⟩
              refine ite2 (fun c5 => ?_) (fun c5 => ?_)
              · have e5 : ss[i + 1] = ss[i] := V.str.inj (of_decide_eq_true c5)
                refine ⟨.int (1 + (i : Nat)), rfl, _, eD4, ?_, ks ++ [(1 + ((i : Nat) : Int))], fun b o e => ?_, by rw [upd_same, List.map_append]; rfl, by rw [List.length_append]; exact Nat.succ_le_succ lk, ⟨fun z => ?_, fun z => ?_⟩⟩
                · rw [List.length_map]
                  exact small1000 (by omega)
                · rw [upd_ne (ne_of_none e nD2)]
                  exact s4 _ _ e
                · exact absurd z (by simp)
                · rw [Bool.and_eq_true] at z
                  have z2 := z.2
                  simp [e5] at z2
              · have e5 : ¬ ss[i + 1] = ss[i] := fun z => c5 (decide_eq_true (congrArg V.str z))
                refine ⟨ks, s4, eD4, by omega, ?_⟩
                have e6 : ([(ss[i], ss[i + 1])].all fun p : Str × Str => !decide (p.1 = p.2)) = true := by
                  simp
                  exact fun z => e5 z.symm
                rw [e6, Bool.and_true]
                exact hk
            · rintro H4 ⟨ks, s4, eD4, lk, hk⟩
              refine ⟨Nat.zero_le _, fun l4 nl4 => ⟨.list (dI ks), .list [], .lst (SqL.of (same_upd nl4 _ _ eD4)) (dpI _), .lst (SqL.of upd_same) .nil, shI ks, by decide +kernel, ?_⟩⟩
              rw [eqv_nilL]
              have en : (((ss.map V.str).length : Nat) - (1 : Int)).toNat = (prs ss).length := by
                rw [List.length_map, lp]
                omega
              rw [en, List.take_length] at hk
              have z2 := q (upd H4 l4 (.lst [])) ((s3.trans s4).trans (same_upd nl4))
              rw [eJ, ea, Bool.true_and] at z2
              have e7 : (dI ks).isEmpty = altB ss := by
                have e8 : (dI ks).isEmpty = ks.isEmpty := by cases ks <;> rfl
                rw [e8]
                cases ez : altB ss with
                | true => exact List.isEmpty_iff.mpr (hk.mpr ez)
                | false =>
                  cases ks with
                  | cons _ _ => rfl
                  | nil =>
                    have := hk.mp rfl
                    rw [show ((prs ss).all fun p => !decide (p.1 = p.2)) = altB ss from rfl, ez] at this
                    cases this
              rw [e7]
              exact z2
    | _ =>
      refine ite2 (fun _ => ?_) (fun c => absurd rfl c)
      exact q H fun _ _ e => e
end
end K00
namespace K00
open PySem PySem.Spec PyProof.Rows L2 CS RZ
/-! ### what may be shown -/
def GE (e : PyData) : Prop := small1 e ∧ lay1 e ∧ e.showable = true ∧ e.hasDict = false ∧ e.shown.length ≤ 20000
def GM (d : PyData) : Prop := ∃ ds, (d = .tuple ds ∨ d = .list ds) ∧ ds.length ≤ 62 ∧ ∀ e ∈ ds, GE e
theorem ge_str {z : Str} (h1 : PyData.strOk z = true) (h2 : z.cps.size ≤ 100) : GE (.str z) := by
  refine ⟨show z.cps.size ≤ 1000 by omega, ⟨h1, Nat.zero_le _⟩, rfl, rfl, ?_⟩
  have hc : ∀ c ∈ z.cps.toList, c < 16 ^ 8 := by
    intro c hm
    unfold PyData.strOk at h1
    rw [← Array.all_toList, List.all_eq_true] at h1
    have := of_decide_eq_true (h1 c hm)
    omega
  have e := StrLaws.reprText_len z hc
  show (reprText z).length ≤ 20000
  have l : z.length = z.cps.size := rfl
  omega
theorem shownAll_eq : ∀ l : List PyData, PyData.shownAll l = l.map PyData.shown
  | [] => rfl
  | d :: l => by
    show PyData.shown d :: PyData.shownAll l = _
    rw [shownAll_eq l]
    rfl
theorem piled_le (B : Nat) : ∀ l : List PyData, (∀ e ∈ l, e.shown.length ≤ B) → piled (l.map PyData.shown) ≤ l.length * (B + 2)
  | [], _ => Nat.zero_le _
  | d :: l, h => by
    have ih := piled_le B l fun e he => h e (List.mem_cons_of_mem _ he)
    have h1 := h d (List.mem_cons_self ..)
    rw [List.map_cons, piled_cons, List.length_cons, Nat.succ_mul]
    omega
theorem list_text (ts : List Str) : (listText ts).length ≤ piled ts + 2 := by
  unfold listText
  rw [strLen_append]
  cases ts with
  | nil => decide +kernel
  | cons t r =>
    have h : (textFrom 0 "[" (t :: r)).length = ("[" ++ ("" : Str) ++ t : Str).length + piled r := textFrom_length_pos r 1 _ (Nat.succ_pos 0)
    rw [h, strLen_append, strLen_append, piled_cons]
    have e1 : ("[" : Str).length = 1 := by decide +kernel
    have e2 : ("" : Str).length = 0 := by decide +kernel
    have e3 : ("]" : Str).length = 1 := by decide +kernel
    omega
theorem showAll_of : ∀ l : List PyData, (∀ e ∈ l, e.showable = true ∧ e.hasDict = false) → PyData.showableAll l = true ∧ PyData.hasDictAll l = false
  | [], _ => ⟨rfl, rfl⟩
  | d :: l, h => by
    obtain ⟨h1, h2⟩ := h d (List.mem_cons_self ..)
    obtain ⟨e1, e2⟩ := showAll_of l fun y hy => h y (List.mem_cons_of_mem _ hy)
    refine ⟨?_, ?_⟩
    · show (PyData.showable d && PyData.showableAll l) = true
      rw [h1, e1]
      rfl
    · show (PyData.hasDict d || PyData.hasDictAll l) = false
      rw [h2, e2]
      rfl
theorem gm_repr {d : PyData} (h : GM d) : d.showable = true ∧ d.hasDict = false ∧ d.shown.length ≤ sizeLine ∧ d.depth ≤ 60 := by
  obtain ⟨ds, hd, hl, he⟩ := h
  obtain ⟨a1, a2⟩ := showAll_of ds fun e x => ⟨(he e x).2.2.1, (he e x).2.2.2.1⟩
  have a3 := piled_le 20000 ds fun e x => (he e x).2.2.2.2
  obtain ⟨_, a4⟩ := layAll_of ds fun e x => (he e x).2.1
  have a5 := fmt_text (PyData.shownAll ds)
  have a6 := list_text (PyData.shownAll ds)
  rw [shownAll_eq] at a5 a6
  have a7 : ds.length * (20000 + 2) ≤ 62 * (20000 + 2) := Nat.mul_le_mul_right _ hl
  have a8 : 62 * (20000 + 2) + 2 ≤ sizeLine := by decide
  rcases hd with rfl | rfl
  · refine ⟨a1, a2, ?_, ?_⟩
    · show (tupleText (PyData.shownAll ds)).length ≤ _
      rw [shownAll_eq]
      omega
    · show PyData.depthAll ds + 1 ≤ 60
      omega
  · refine ⟨a1, a2, ?_, ?_⟩
    · show (listText (PyData.shownAll ds)).length ≤ _
      rw [shownAll_eq]
      omega
    · show PyData.depthAll ds + 1 ≤ 60
      omega
theorem gm_good {d : PyData} (h : GM d) : goodR d ∧ small2 d := by
  obtain ⟨ds, hd, hl, he⟩ := h
  rcases hd with rfl | rfl
  · exact ⟨⟨by omega, fun e x => ⟨(he e x).1, (he e x).2.1⟩⟩, ⟨by omega, fun e x => (he e x).1⟩⟩
  · exact ⟨trivial, trivial⟩
theorem ge_row {ss : List Str} (hl : ss.length ≤ 62) (h : ∀ z ∈ ss, PyData.strOk z = true ∧ z.cps.size ≤ 10) : GE (.tuple (dS ss)) := by
  have hs : ∀ e ∈ dS ss, e.showable = true ∧ e.hasDict = false := by
    intro e he
    obtain ⟨z, _, rfl⟩ := List.mem_map.mp he
    exact ⟨rfl, rfl⟩
  obtain ⟨a1, a2⟩ := showAll_of _ hs
  have hb : ∀ e ∈ dS ss, e.shown.length ≤ 102 := by
    intro e he
    obtain ⟨z, hz, rfl⟩ := List.mem_map.mp he
    have hc : ∀ c ∈ z.cps.toList, c < 16 ^ 8 := by
      intro c hm
      have h1 := (h z hz).1
      unfold PyData.strOk at h1
      rw [← Array.all_toList, List.all_eq_true] at h1
      have := of_decide_eq_true (h1 c hm)
      omega
    have e := StrLaws.reprText_len z hc
    have l : z.length = z.cps.size := rfl
    have := (h z hz).2
    show (reprText z).length ≤ 102
    omega
  have a3 := piled_le 102 _ hb
  have a5 := fmt_text (PyData.shownAll (dS ss))
  rw [shownAll_eq] at a5
  have ld : (dS ss).length = ss.length := by
    unfold dS
    rw [List.length_map]
  refine ⟨trivial, ⟨layS ss fun z hz => (h z hz).1, ?_⟩, a1, a2, ?_⟩
  · show PyData.depthAll (dS ss) + 1 ≤ 20
    rw [depS]
    decide
  · show (tupleText (PyData.shownAll (dS ss))).length ≤ _
    rw [shownAll_eq]
    rw [ld] at a3
    omega
/-! ### slices, sums of tuples -/
section
variable {K : PySem.W.Frag} {H : Hp} {Q : VK}
theorem slA_use {a : Addr} {xs : List V} {lo hi : Option Int} (h : SqT K H a xs) (k : ∀ (H' : Hp) (p : Addr), Same H H' → SqT K H' p (cutV xs lo hi) → Q (.ref p) H') : rSlA K (.ref a) lo hi H Q := by
  refine ⟨a, xs, rfl, h, fun z => ?_, fun z p np => k _ p (same_upd np) (SqT.of upd_same)⟩
  refine k H a (fun _ _ e => e) ?_
  have e : cutV xs lo hi = xs := by
    unfold cutV
    rw [z.1, z.2]
    simp
  rw [e]
  exact h
theorem catA_use {a b : Addr} {xs ys : List V} (ha : SqT K H a xs) (hb : SqT K H b ys) (hl : xs.length + ys.length ≤ sizeLine) (k : ∀ (H' : Hp) (p : Addr), Same H H' → SqT K H' p (xs ++ ys) → Q (.ref p) H') : rCatA K (.ref a) (.ref b) H Q := by
  refine ⟨a, b, xs, ys, rfl, rfl, ha, hb, hl, fun e => k H b (fun _ _ e => e) ?_, fun _ e => k H a (fun _ _ e => e) ?_, fun _ _ p np => k _ p (same_upd np) (SqT.of upd_same)⟩
  · rw [e]
    exact hb
  · rw [e, List.append_nil]
    exact ha
theorem cut_to (xs : List V) {k : Nat} (h : k ≤ xs.length) : cutV xs none (some (k : Int)) = xs.take k := by
  unfold cutV
  rw [HT.sIx_none, show HT.sIx xs.length xs.length (some (k : Int)) = min k xs.length from HT.sIx_nat _ _ k, Nat.min_eq_left h]
  rfl
theorem cut_from (xs : List V) {k : Nat} (h : k ≤ xs.length) : cutV xs (some (k : Int)) none = xs.drop k := by
  unfold cutV
  rw [HT.sIx_none, show HT.sIx xs.length 0 (some (k : Int)) = min k xs.length from HT.sIx_nat _ _ k, Nat.min_eq_left h]
  exact List.take_of_length_le (by rw [List.length_drop]; exact Nat.le_refl _)
theorem dp_app {xs ys : List V} : ∀ {ds es : List PyData}, DpAll K H xs ds → DpAll K H ys es → DpAll K H (xs ++ ys) (ds ++ es) := by
  induction xs with
  | nil =>
    intro ds es h1 h2
    cases h1
    exact h2
  | cons x xs ih =>
    intro ds es h1 h2
    cases h1 with
    | cons h t => exact .cons h (ih t h2)
theorem Keep.sqTb {b a : Addr} {n : Nat} {H' : Hp} {xs : List V} (hb : BoxAt H b n) (k : Keep b H H') (h : SqT K H a xs) : SqT K H' a xs := by
  obtain ⟨A, B, C, e, _⟩ := hb
  rcases h with (h | ⟨o, h⟩) | h
  · exact .inl (.inl (k _ _ (ne_of h e (by intro z; cases z)) h))
  · exact .inl (.inr ⟨o, k _ _ (ne_of h e (by intro z; cases z)) h⟩)
  · exact .inr h
end
end K00
namespace K00
open PySem PySem.Spec PyProof.Rows L2 CS RZ
section
variable {P : Program} {w : World} {K : PySem.W.Frag} {mg : Str → Option Value} {base : Heap}
/-! ### spoilt -/
def RowOk (ss : List Str) : Prop := ∀ z ∈ ss, PyData.strOk z = true ∧ z.cps.size ≤ 10
def spSpoilt (K : PySem.W.Frag) : Sp := fun vs H Q _ => ∃ (b a : Addr) (n : Nat) (ss : List Str), vs = [.ref b, .ref a] ∧ BoxAt H b n ∧ n ≤ 900000 ∧ SqT K H a (ss.map V.str) ∧ 0 < ss.length ∧ ss.length ≤ 60 ∧ RowOk ss ∧
  ∀ (H' : Hp) (p : Addr) (d : PyData), Keep b H H' → BoxAt H' b (n + 3) → Dp K H' (.ref p) d → GM d → Q (.ref p) H'
abbrev nSp : List Str := ["_law_box_here", "_law_row_so", "_law_k", "_law_way_so", "_law_odd_so"]
theorem scSpoilt : FnScope nSp ["_law_box_here", "_law_row_so"] (defScope sSpoilt) := ⟨rfl, rfl, rfl, by decide +kernel, rfl, by decide +kernel, by decide +kernel⟩
theorem ge_mem {ss : List Str} (h : RowOk ss) : ∀ e ∈ dS ss, GE e := by
  intro e he
  obtain ⟨z, hz, rfl⟩ := List.mem_map.mp he
  exact ge_str (h z hz).1 (by have := (h z hz).2; omega)
theorem dS_app (l m : List Str) : dS (l ++ m) = dS l ++ dS m := List.map_append
theorem dS_take (l : List Str) (k : Nat) : dS (l.take k) = (dS l).take k := by
  unfold dS
  rw [List.map_take]
theorem slK_use {K K' : PySem.W.Frag} {σ : L2.St} {H : Hp} {R : V → Hp → Prop} {a : Addr} {xs : List V} {lo : Int} (e : K' = K) (h : SqT K H a xs) (k : ∀ (H' : Hp) (p : Addr), Same H H' → SqT K H' p (cutV xs (some lo) none) → R (.ref p) H') : (fun l H2 => tNoPart σ H2 fun u H3 => rSlA K' (.ref a) l u H3 R) (some lo) H := by
  subst e
  exact slA_use h k
theorem ok_spoilt {f g g2 : Addr} {fd gd gd2 : FuncData} {k : Nat} (F : Fun K "_law_spoilt" "_law_spoilt" sSpoilt f fd) (T : SmT mg)
    (Gk : FnOk P w K mg base CX0 k g gd ["_law_box_here", "_law_below"] spTake) (bk : Binds K gd ["_law_box_here", "_law_below"] []) (kk : PySem.W.keepIn K (.ref g) = true) (mk : mg "_law_take" = some (.ref g))
    (Go : FnOk P w K mg base CX0 k g2 gd2 ["_law_box_here", "_law_some"] (spOf K)) (bo : Binds K gd2 ["_law_box_here", "_law_some"] []) (ko : PySem.W.keepIn K (.ref g2) = true) (mo : mg "_law_of" = some (.ref g2)) :
    FnOk P w K mg base CX0 (k + 1) f fd ["_law_box_here", "_law_row_so"] (spSpoilt K) := by
  refine F.ok scSpoilt (fun vs H Q E h => ?_) (fun cdv A outer s H vs Q E hr h => ?_)
  · obtain ⟨b, a, n, ss, rfl, _⟩ := h
    rfl
  · obtain ⟨b, a, n, ss, rfl, hb, hn, hS, h0, h6, hok, q⟩ := h
    refine ⟨_, pss_cons (ps_par (i := 2) (j := 3) (by rfl) scSpoilt.nd rfl rfl (by decide) rfl rfl (pa_cons (pe_call Gk hr (by rfl) mk kk bk .nil pass0 (pa_cons (pv 0) (pa_cons (pe_callB call_len_seq (by rfl) T.le PySem.boot_len (pa_cons (pv 1) pa_nil)) pa_nil)))
        (pa_cons (pe_call Gk hr (by rfl) mk kk bk .nil pass0 (pa_cons (pv 0) (pa_cons pe_int pa_nil))) pa_nil)) (by rfl))
      (pss_cons (ps_if (pt_cmpR op_eq (pv 3) pe_int (nomark _)) (pss_one (ps_ret (pe_op op_catA (pe_slice sl_tupA (pv 1) po_none (po_some (pv 2))) (pe_slice sl_tupA (pv 1) (po_some (pe_op op_add (pv 2) pe_int)) po_none)))) pss_nil)
      (pss_cons (ps_if (pt_cmpR op_eq (pv 3) pe_int (nomark _)) (pss_one (ps_ret (pe_op op_catA (pe_op op_catA (pe_slice sl_tupA (pv 1) po_none (po_some (pv 2))) (pe_tup (pa_cons (pe_ix ix_tup (pv 1) (pv 2) (fun _ _ => rfl)) pa_nil))) (pe_slice sl_tupA (pv 1) (po_some (pv 2)) po_none)))) pss_nil)
      (pss_cons (ps_if (pt_cmpR op_eq (pv 3) pe_int (nomark _)) (pss_one (ps_ret (pe_callTy call_list_of (by rfl) T.li (by decide +kernel) (pa_cons (pv 1) pa_nil)))) pss_nil)
      (pss_cons (ps_if (pt_cmpR op_eq (pv 3) pe_int (nomark _)) (pss_one (ps_ret (pe_tup (pa_cons (pv 1) pa_nil)))) pss_nil)
      (pss_cons (ps_set (i := 4) scSpoilt.nd rfl (.inl rfl) (pe_lst (pa_cons pe_non (pa_cons pe_int (pa_cons pe_int (pa_cons pe_bl (pa_cons pe_str (pa_cons pe_str (pa_cons pe_str (pa_cons pe_str (pa_cons pe_str (pa_cons pe_str (pa_cons pe_str
        (pa_cons (pe_tup (pa_cons pe_str pa_nil)) (pa_cons (pe_lst (pa_cons pe_str pa_nil)) (pa_cons pe_str (pa_cons (pe_ix ix_tup (pv 1) pe_int (fun _ _ => rfl)) (pa_cons pe_str pa_nil))))))))))))))))))
      (pss_one (ps_ret (pe_op op_catA (pe_op op_catA (pe_slice sl_tupA (pv 1) po_none (po_some (pv 2))) (pe_tup (pa_cons (pe_call Go hr (by rfl) mo ko bo .nil pass0 (pa_cons (pv 0) (pa_cons (pv 4) pa_nil))) pa_nil))) (pe_slice sl_tupA (pv 1) (po_some (pe_op op_add (pv 2) pe_int)) po_none))))))))), ?_⟩
    refine ⟨.ref b, rfl, .ref a, rfl, a, _, rfl, .inr hS, b, n, _, rfl, hb, by omega, by rw [List.length_map]; omega, by rw [List.length_map]; omega, fun H1 r k1 b1 r0 r1 => ⟨.ref b, rfl, b, n + 1, 7, rfl, b1, by omega, by decide, by decide, fun H2 y k2 b2 y0 y1 => ⟨_, _, rfl, ?_⟩⟩⟩
    rw [List.length_map] at r1
    obtain ⟨j, rfl⟩ := Int.eq_ofNat_of_zero_le r0
    have hj : j < ss.length := by omega
    have hj' : j ≤ (ss.map V.str).length := by rw [List.length_map]; omega
    have hj1 : j + 1 ≤ (ss.map V.str).length := by rw [List.length_map]; omega
    have k12 := k1.trans k2
    have hS2 : SqT K H2 a (ss.map V.str) := Keep.sqTb hb k12 hS
    have hx : (ss.map V.str)[j]? = some (.str ss[j]) := by rw [List.getElem?_map, List.getElem?_eq_getElem hj]; rfl
    have ej1 : ((j : Nat) : Int) + 1 = ((j + 1 : Nat) : Int) := by omega
    have dpD : ∀ (HH : Hp) (l : List Str), DpAll K HH (l.map V.str) (dS l) := fun HH l => dpS l
    have lim : ∀ m : Nat, m ≤ 200 → m ≤ sizeLine := fun m hm => Nat.le_of_lt (small1000 (by omega))
    have okT : RowOk (ss.take j) := fun z hz => hok z (List.mem_of_mem_take hz)
    have okD1 : RowOk (ss.drop (j + 1)) := fun z hz => hok z (List.mem_of_mem_drop hz)
    have okD0 : RowOk (ss.drop j) := fun z hz => hok z (List.mem_of_mem_drop hz)
    have lT : (ss.take j).length = j := by rw [List.length_take]; omega
    have lD1 := List.length_drop (i := j + 1) (l := ss)
    have lD0 := List.length_drop (i := j) (l := ss)
    refine ⟨.int y, rfl, rfl, _, rfl, ?_⟩
    refine ite2 (fun _ => ?_) (fun _ => ?_)
    · -- one left out
      refine ⟨.ref a, rfl, .int (j : Nat), rfl, j, rfl, slA_use hS2 fun H3 p3 s3 t3 => ⟨.ref a, rfl, .int (j : Nat), rfl, _, _, rfl, rfl, _, rfl, ?_⟩⟩
      refine slK_use rfl (sqT_same s3 hS2) fun H4 p4 s4 t4 => ?_
      rw [cut_to _ hj', ← List.map_take] at t3
      rw [ej1, cut_from _ hj1, ← List.map_drop] at t4
      refine catA_use (sqT_same s4 t3) t4 (lim _ (by rw [List.length_map, List.length_map]; omega)) fun H5 p5 s5 t5 => ?_
      rw [← List.map_append] at t5
      refine q H5 p5 (.tuple (dS (ss.take j ++ ss.drop (j + 1)))) (k12.trans (Keep.of_same ((s3.trans s4).trans s5))) ((b2.same ((s3.trans s4).trans s5)).up (by omega)) (.tup t5 (dpD _ _)) ⟨_, .inl rfl, ?_, ?_⟩
      · unfold dS
        rw [List.length_map, List.length_append]
        omega
      · exact ge_mem fun z hz => (List.mem_append.mp hz).elim (okT z) (okD1 z)
    refine ⟨.int y, rfl, rfl, _, rfl, ?_⟩
    refine ite2 (fun _ => ?_) (fun _ => ?_)
    · -- one doubled
      refine ⟨.ref a, rfl, .int (j : Nat), rfl, j, rfl, slA_use hS2 fun H3 p3 s3 t3 => ⟨.ref a, rfl, .int (j : Nat), rfl, a, _, _, _, rfl, rfl, sqT_same s3 hS2, atI_nat hx, (by show 1 ≤ sizeLine; decide), fun p4 n4 => ?_⟩⟩
      rw [cut_to _ hj', ← List.map_take] at t3
      have s4 := same_upd (o := .tup [.str ss[j]]) n4
      have t4 : SqT K (upd H3 p4 (.tup [.str ss[j]])) p4 ([ss[j]].map V.str) := SqT.of upd_same
      refine catA_use (sqT_same s4 t3) t4 (lim _ (by rw [List.length_map, List.length_map, List.length_singleton]; omega)) fun H5 p5 s5 t5 => ?_
      refine ⟨.ref a, rfl, .int (j : Nat), rfl, j, rfl, ?_⟩
      refine slK_use rfl (sqT_same ((s3.trans s4).trans s5) hS2) fun H6 p6 s6 t6 => ?_
      rw [cut_from _ hj', ← List.map_drop] at t6
      refine catA_use (sqT_same s6 t5) t6 (lim _ (by rw [List.length_append, List.length_map, List.length_map, List.length_map, List.length_singleton]; omega)) fun H7 p7 s7 t7 => ?_
      rw [← List.map_append, ← List.map_append] at t7
      have sAll := (((s3.trans s4).trans s5).trans s6).trans s7
      refine q H7 p7 (.tuple (dS (ss.take j ++ [ss[j]] ++ ss.drop j))) (k12.trans (Keep.of_same sAll)) ((b2.same sAll).up (by omega)) (.tup t7 (dpD _ _)) ⟨_, .inl rfl, ?_, ?_⟩
      · unfold dS
        rw [List.length_map, List.length_append, List.length_append, List.length_singleton]
        omega
      · refine ge_mem fun z hz => ?_
        rcases List.mem_append.mp hz with hz | hz
        · rcases List.mem_append.mp hz with hz | hz
          · exact okT z hz
          · rw [List.mem_singleton.mp hz]
            exact hok _ (List.getElem_mem hj)
        · exact okD0 z hz
    refine ⟨.int y, rfl, rfl, _, rfl, ?_⟩
    refine ite2 (fun _ => ?_) (fun _ => ?_)
    · -- a list
      refine ⟨.ref a, rfl, a, _, rfl, .inr hS2, fun l nl => ?_⟩
      exact q _ l (.list (dS ss)) (k12.trans (Keep.of_same (same_upd nl))) ((b2.same (same_upd nl)).up (by omega)) (.lst (SqL.of upd_same) (dpD _ _)) ⟨_, .inr rfl, by unfold dS; rw [List.length_map]; omega, ge_mem hok⟩
    refine ⟨.int y, rfl, rfl, _, rfl, ?_⟩
    refine ite2 (fun _ => ?_) (fun _ => ?_)
    · -- within a tuple
      refine ⟨.ref a, rfl, (by show 1 ≤ sizeLine; decide), fun p np => ?_⟩
      refine q _ p (.tuple [.tuple (dS ss)]) (k12.trans (Keep.of_same (same_upd np))) ((b2.same (same_upd np)).up (by omega)) (.tup (xs := [.ref a]) (SqT.of upd_same) (.cons (.tup (sqT_same (same_upd np) hS2) (dpD _ _)) .nil)) ⟨_, .inl rfl, by show 1 ≤ 62; decide, fun e he => ?_⟩
      rw [List.mem_singleton.mp he]
      exact ge_row (by omega) hok
    -- something odd
    have h0x : ss[0]? = some ss[0] := List.getElem?_eq_getElem h0
    have at0 : atI (ss.map V.str) 0 = some (.str ss[0]) := atI_nat (j := 0) (by rw [List.getElem?_map, h0x]; rfl)
    refine ⟨(by show 1 ≤ sizeLine; decide), fun u1 m1 => ⟨(by show 1 ≤ sizeLine; decide), fun u2 m2 => ⟨.ref a, rfl, a, _, 0, .str ss[0], rfl, rfl, sqT_same ((same_upd m1).trans (same_upd m2)) hS2, at0, (by show 16 ≤ sizeLine; decide), fun lo nlo => ?_⟩⟩⟩
    have sO := ((same_upd (o := .tup [.str "a"]) m1).trans (same_upd (o := .lst [.str "a"]) m2)).trans (same_upd (o := .lst [.non, .int 0, .int 1, .bl true, .str "", .str "A", .str "a b", .str "a1", .str "-", .str "+", .str "longerone", .ref u1, .ref u2, .str "a", .str ss[0], .str "zz"]) nlo)
    obtain ⟨HO, eHO⟩ : ∃ HO, HO = upd (upd (upd H2 u1 (.tup [.str "a"])) u2 (.lst [.str "a"])) lo (.lst [.non, .int 0, .int 1, .bl true, .str "", .str "A", .str "a b", .str "a1", .str "-", .str "+", .str "longerone", .ref u1, .ref u2, .str "a", .str ss[0], .str "zz"]) := ⟨_, rfl⟩
    have elo : HO lo = some (.lst [.non, .int 0, .int 1, .bl true, .str "", .str "A", .str "a b", .str "a1", .str "-", .str "+", .str "longerone", .ref u1, .ref u2, .str "a", .str ss[0], .str "zz"]) := by
      rw [eHO]
      exact upd_same
    have e1 : HO u1 = some (.tup [.str "a"]) := by
      rw [eHO]
      exact same_upd nlo _ _ (same_upd m2 _ _ upd_same)
    have e2 : HO u2 = some (.lst [.str "a"]) := by
      rw [eHO]
      exact same_upd nlo _ _ upd_same
    rw [← eHO] at sO ⊢
    clear eHO
    have odds : ∀ HH : Hp, HH u1 = some (.tup [.str "a"]) → HH u2 = some (.lst [.str "a"]) → DpAll K HH [.non, .int 0, .int 1, .bl true, .str "", .str "A", .str "a b", .str "a1", .str "-", .str "+", .str "longerone", .ref u1, .ref u2, .str "a", .str ss[0], .str "zz"]
        [.none, .int 0, .int 1, .bool true, .str "", .str "A", .str "a b", .str "a1", .str "-", .str "+", .str "longerone", .tuple [.str "a"], .list [.str "a"], .str "a", .str ss[0], .str "zz"] :=
      fun HH e1 e2 => .cons .non (.cons (.int 0) (.cons (.int 1) (.cons (.bl true) (.cons (.str _) (.cons (.str _) (.cons (.str _) (.cons (.str _) (.cons (.str _) (.cons (.str _) (.cons (.str _) (.cons (.tup (SqT.of e1) (.cons (.str _) .nil)) (.cons (.lst (SqL.of e2) (.cons (.str _) .nil)) (.cons (.str _) (.cons (.str _) (.cons (.str _) .nil)))))))))))))))
    have gOdd : ∀ e ∈ ([.none, .int 0, .int 1, .bool true, .str "", .str "A", .str "a b", .str "a1", .str "-", .str "+", .str "longerone", .tuple [.str "a"], .list [.str "a"], .str "a", .str ss[0], .str "zz"] : List PyData), GE e := by
      have gs : ∀ z : Str, PyData.strOk z = true → z.cps.size ≤ 100 → GE (.str z) := fun z a b => ge_str a b
      intro e he
      simp only [List.mem_cons, List.not_mem_nil, or_false] at he
      rcases he with rfl | rfl | rfl | rfl | rfl | rfl | rfl | rfl | rfl | rfl | rfl | rfl | rfl | rfl | rfl | rfl
      · exact ⟨trivial, ⟨rfl, by decide +kernel⟩, rfl, rfl, by decide +kernel⟩
      · exact ⟨trivial, ⟨rfl, by decide +kernel⟩, by decide +kernel, rfl, by decide +kernel⟩
      · exact ⟨trivial, ⟨rfl, by decide +kernel⟩, by decide +kernel, rfl, by decide +kernel⟩
      · exact ⟨trivial, ⟨rfl, by decide +kernel⟩, rfl, rfl, by decide +kernel⟩
      · exact gs _ (by decide +kernel) (by decide +kernel)
      · exact gs _ (by decide +kernel) (by decide +kernel)
      · exact gs _ (by decide +kernel) (by decide +kernel)
      · exact gs _ (by decide +kernel) (by decide +kernel)
      · exact gs _ (by decide +kernel) (by decide +kernel)
      · exact gs _ (by decide +kernel) (by decide +kernel)
      · exact gs _ (by decide +kernel) (by decide +kernel)
      · exact ⟨trivial, ⟨by decide +kernel, by decide +kernel⟩, by decide +kernel, by decide +kernel, by decide +kernel⟩
      · exact ⟨trivial, ⟨by decide +kernel, by decide +kernel⟩, by decide +kernel, by decide +kernel, by decide +kernel⟩
      · exact gs _ (by decide +kernel) (by decide +kernel)
      · exact gs _ (hok _ (List.getElem_mem h0)).1 (by have := (hok _ (List.getElem_mem h0)).2; omega)
      · exact gs _ (by decide +kernel) (by decide +kernel)
    have nlob : lo ≠ b := fun z => by
      obtain ⟨_, _, _, e, _⟩ := b2.same sO
      rw [← z, elo] at e
      cases e
    have hSO := sqT_same sO hS2
    have bO := b2.same sO
    refine ⟨.ref a, rfl, .int (j : Nat), rfl, j, rfl, slA_use hSO fun H3 p3 s3 t3 => ⟨.ref b, rfl, .ref lo, rfl, b, lo, n + 2, _, rfl, bO.same s3, by omega, nlob, SqL.of (s3 _ _ elo), by show 0 < 16; decide, by show 16 < 1000000; decide, fun H4 i4 x4 k4 b4 hx4 => ⟨(by show 1 ≤ sizeLine; decide), fun p5 n5 => ?_⟩⟩⟩
    rw [cut_to _ hj', ← List.map_take] at t3
    have nu : ∀ u o, HO u = some o → (∀ A B C : Int, o ≠ .lst [.int A, .int B, .int C]) → u ≠ b := fun u o e n z => by
      obtain ⟨A, B, C, eb, _⟩ := bO
      rw [z, eb] at e
      exact n A B C (Option.some.inj e).symm
    have g1 := k4 _ _ (nu u1 _ e1 fun _ _ _ z => by cases z) (s3 _ _ e1)
    have g2 := k4 _ _ (nu u2 _ e2 fun _ _ _ z => by cases z) (s3 _ _ e2)
    obtain ⟨d4, hd4, r4⟩ := dpAll_at (odds H4 g1 g2) hx4
    have g4 : GE d4 := gOdd d4 (List.mem_of_getElem? hd4)
    have bS3 := bO.same s3
    have t3' := Keep.sqTb bS3 k4 t3
    have hS4 := Keep.sqTb bS3 k4 (sqT_same s3 hSO)
    have s5 := same_upd (o := .tup [x4]) n5
    refine catA_use (sqT_same s5 t3') (SqT.of upd_same) (lim _ (by rw [List.length_map]; show (ss.take j).length + 1 ≤ 200; omega)) fun H6 p6 s6 t6 => ?_
    refine ⟨.ref a, rfl, .int (j : Nat), rfl, _, _, rfl, rfl, _, rfl, ?_⟩
    refine slK_use rfl (sqT_same (s5.trans s6) hS4) fun H7 p7 s7 t7 => ?_
    rw [ej1, cut_from _ hj1, ← List.map_drop] at t7
    refine catA_use (sqT_same s7 t6) t7 (lim _ (by rw [List.length_append, List.length_map, List.length_map]; show (ss.take j).length + 1 + _ ≤ 200; omega)) fun H8 p8 s8 t8 => ?_
    have s58 := ((s5.trans s6).trans s7).trans s8
    refine q H8 p8 (.tuple (dS (ss.take j) ++ [d4] ++ dS (ss.drop (j + 1)))) ((((k12.trans (Keep.of_same sO)).trans (Keep.of_same s3)).trans k4).trans (Keep.of_same s58)) (b4.same s58) (.tup t8 (dp_app (dp_app (dpD _ _) (.cons (dp_same s58 r4) .nil)) (dpD _ _))) ⟨_, .inl rfl, ?_, ?_⟩
    · rw [List.length_append, List.length_append]
      unfold dS
      rw [List.length_map, List.length_map, List.length_singleton]
      omega
    · intro e he
      rcases List.mem_append.mp he with he | he
      · rcases List.mem_append.mp he with he | he
        · exact ge_mem okT e he
        · rw [List.mem_singleton.mp he]
          exact g4
      · exact ge_mem okD1 e he
end
end K00
namespace K00
open PySem PySem.Spec PyProof.Rows L2 CS RZ
/-! ### calls by keywords alone -/
section
variable {X : Cx} {CX : CXT} {k : Nat} {f : Addr} {fd : FuncData} {ps ks : List Str} {sp : Sp} {E : XK} {x : Str} {p pos : Pos} {kws : List Keyword} {tk : TA} {g : List Value → List Value → List Value} {gV : List V → List V → List V}
theorem pe_callK0 (F : FnOk X.prog X.w X.K X.mg X.base CX k f fd ps sp) (hr : Room k X.A) (gx : Gl X x) (mx : X.mg x = some (.ref f)) (kx : PySem.W.keepIn X.K (.ref f) = true) (kb : KBinds X.K fd ps ks g gV) (px : Passes CX X E) (hkw : PK X kws tk)
    (hall : (backToKw pos (keywordEach kws X.env)).all (·.1.isSome) = true := by rfl) (hks : (backToKw pos (keywordEach kws X.env)).filterMap (·.1) = ks := by rfl) (hdb : (x == ("__debug__" : Str)) = false := by decide)
    (hpl : ((backTo pos (starEach [] X.env)).any (·.1) || (backToKw pos (keywordEach kws X.env)).any (·.1.isNone)) = false := by rfl) : PE X (.Call (.Name x p) [] kws pos) (tCallK sp gV E tNil tk) := by
  refine ⟨fun pins s0 σ H0 Q0 I0 hw => ?_⟩
  refine wpAny_Call_Name_kw (ld_glob I0 gx mx ?_ hdb)
  refine PySem.W.callWith_KW0 (h₀ := X.base) I0.ok.mod.kin kx hall ?_ hpl
  refine thn (hkw.run pos pins s0 σ H0 _ I0 hw) fun ws s2 ⟨zs, H2, I2, rz, q2⟩ => ⟨I2.kIn, ?_⟩
  rw [hks]
  exact run_fnk (us := []) (vs := []) F hr kb px I2 .nil rz q2
end
def kw1 {α : Type} : List α → List α → List α
  | [], [x] => [x]
  | _, _ => []
section
variable {K : PySem.W.Frag}
theorem kb1 {x qual : Str} {st : Stmt} {f : Addr} {fd : FuncData} {a : Str} (F : Fun K x qual st f fd)
    (h : ∀ (kV doc pm : Value) (an : Option Addr) (cdv ct u : Value), bindArgs (PySem.W.fnOf x qual (defArgs st) (defBody st) (defScope st) .none kV doc pm an cdv ct) ⟨[], [(a, u)]⟩ = pure [(a, u)]) : KBinds K fd [a] [a] kw1 kw1 := by
  obtain ⟨oc, od, kV, doc, pm, an, cdv, ct, osl, rfl, lk, hcd⟩ := F.ex
  refine ⟨fun s us ws _ hl => ?_, fun r1 r2 => ?_⟩
  · match us, ws, hl with
    | [], [u], _ => exact .of_eq (h kV doc pm an cdv ct u)
    | [], [], e => cases e
    | [], _ :: _ :: _, e => cases e
    | _ :: _, _, e => cases e
  · cases r1 with
    | nil =>
      cases r2 with
      | nil => exact .nil
      | cons a1 t1 =>
        cases t1 with
        | nil => exact .cons a1 .nil
        | cons _ _ => exact .nil
    | cons _ _ => exact .nil
end
/-! ### what is written down, as data -/
section
variable {X : Cx} {K : PySem.W.Frag} {Γ : L2.St → Hp → Prop} {e : Expr} {es : List Expr}
/-- holds in later heaps, too -/
def Stays (Γ : L2.St → Hp → Prop) : Prop := ∀ (σ : L2.St) (H H' : Hp), Same H H' → Γ σ H → Γ σ H'
def gNo : L2.St → Hp → Prop := fun _ _ => True
def gVar (K : PySem.W.Frag) (i : Nat) (D : PyData) : L2.St → Hp → Prop := fun σ H => ∃ v, σ[i]? = some (some v) ∧ Dp K H v D
theorem gNo_stays : Stays gNo := fun _ _ _ _ _ => trivial
theorem gVar_stays {i : Nat} {D : PyData} : Stays (gVar K i D) := fun σ H H' s h => by
  obtain ⟨v, e, d⟩ := h
  exact ⟨v, e, dp_same s d⟩
def tLit (K : PySem.W.Frag) (Γ : L2.St → Hp → Prop) (d : PyData) : TE := fun σ H Q => Γ σ H ∧ ∀ v H', Same H H' → Dp K H' v d → Q v H'
def tLits (K : PySem.W.Frag) (Γ : L2.St → Hp → Prop) (ds : List PyData) : TA := fun σ H Q => Γ σ H ∧ ∀ vs H', Same H H' → DpAll K H' vs ds → Q vs H'
/-- a list at the top: it stands at its own address -/
def tLitL (K : PySem.W.Frag) (Γ : L2.St → Hp → Prop) (ds : List PyData) : TE := fun σ H Q => Γ σ H ∧ ∀ p xs H', Same H H' → H p = none → H' p = some (.lst xs) → DpAll K H' xs ds → Q (.ref p) H'
theorem pe_imp {t t' : TE} (h : PE X e t) (k : ∀ σ H Q, t' σ H Q → t σ H Q) : PE X e t' := ⟨fun pins s σ H Q I z => h.run pins s σ H Q I (k σ H Q z)⟩
theorem pa_imp {t t' : TA} (h : PA X es t) (k : ∀ σ H Q, t' σ H Q → t σ H Q) : PA X es t' := ⟨fun pos pins s σ H Q I z => h.run pos pins s σ H Q I (k σ H Q z)⟩
theorem same_refl {H : Hp} : Same H H := fun _ _ e => e
theorem lit_int {i : Int} {j pos} : PE X (.Constant (.int i) j pos) (tLit K Γ (.int i)) := pe_imp pe_int fun _ H _ h => h.2 _ H same_refl (.int i)
theorem lit_str {x : Str} {j pos} : PE X (.Constant (.str x) j pos) (tLit K Γ (.str x)) := pe_imp pe_str fun _ H _ h => h.2 _ H same_refl (.str x)
theorem lit_bl {b : Bool} {j pos} : PE X (.Constant (.bool b) j pos) (tLit K Γ (.bool b)) := pe_imp pe_bl fun _ H _ h => h.2 _ H same_refl (.bl b)
theorem lit_non {j pos} : PE X (.Constant .none j pos) (tLit K Γ .none) := pe_imp pe_non fun _ H _ h => h.2 _ H same_refl .non
theorem lit_var {i : Nat} {D : PyData} (h : PE X e (tVar i)) : PE X e (tLit K (gVar K i D) D) := pe_imp h fun _ H _ z => by
  obtain ⟨⟨v, ev, d⟩, k⟩ := z
  exact ⟨v, ev, k v H same_refl d⟩
theorem lits_nil : PA X [] (tLits K Γ []) := pa_imp pa_nil fun _ H _ h => h.2 _ H same_refl .nil
theorem lits_cons {d : PyData} {ds : List PyData} (G : Stays Γ) (h : PE X e (tLit K Γ d)) (t : PA X es (tLits K Γ ds)) (hs : starEach (e :: es) X.env = (false, eval e X.env) :: starEach es X.env := by rfl) : PA X (e :: es) (tLits K Γ (d :: ds)) :=
  pa_imp (pa_cons h t hs) fun σ H _ z => ⟨z.1, fun v H1 s1 d1 => ⟨G σ H H1 s1 z.1, fun vs H2 s2 d2 => z.2 _ _ (s1.trans s2) (.cons (dp_same s2 d1) d2)⟩⟩
theorem lit_tup {ds : List PyData} {k1 pos} (h : PA X es (tLits K Γ ds)) (hl : ds.length ≤ 1000 := by decide) : PE X (.Tuple es k1 pos) (tLit K Γ (.tuple ds)) :=
  pe_imp (pe_tup h) fun σ H _ z => ⟨z.1, fun vs H1 s1 d1 => ⟨by rw [dpAll_len d1]; exact Nat.le_of_lt (small1000 hl), fun p np => z.2 _ _ (s1.trans (same_upd np)) (.tup (SqT.of upd_same) (dp_sameAll (same_upd np) d1))⟩⟩
theorem lit_lst {ds : List PyData} {pos} (h : PA X es (tLits K Γ ds)) (hl : ds.length ≤ 1000 := by decide) : PE X (.List es pos) (tLit K Γ (.list ds)) :=
  pe_imp (pe_lst h) fun σ H _ z => ⟨z.1, fun vs H1 s1 d1 => ⟨by rw [dpAll_len d1]; exact Nat.le_of_lt (small1000 hl), fun p np => z.2 _ _ (s1.trans (same_upd np)) (.lst (SqL.of upd_same) (dp_sameAll (same_upd np) d1))⟩⟩
theorem lit_top {ds : List PyData} {pos} (h : PA X es (tLits K Γ ds)) (hl : ds.length ≤ 1000 := by decide) : PE X (.List es pos) (tLitL K Γ ds) :=
  pe_imp (pe_lst h) fun σ H _ z => ⟨z.1, fun vs H1 s1 d1 => ⟨by rw [dpAll_len d1]; exact Nat.le_of_lt (small1000 hl), fun p np => z.2 _ _ _ (s1.trans (same_upd np)) (s1.free np) upd_same (dp_sameAll (same_upd np) d1)⟩⟩
end
/-! ### by hand -/
def deepD : Nat → PyData
  | 0 => .int 7
  | n + 1 => if n < 6 then .tuple [deepD n] else .list [deepD n]
def sm1B : PyData → Bool
  | .str z => decide (z.cps.size ≤ 1000)
  | _ => true
def sm2B : PyData → Bool
  | .str z => decide (z.cps.size ≤ 1000)
  | .tuple ds => decide (ds.length ≤ 900) && ds.all sm1B
  | _ => true
theorem sm1_of {d : PyData} (h : sm1B d = true) : small1 d := by
  cases d with
  | str z =>
    have h' : decide (z.cps.size ≤ 1000) = true := h
    show z.cps.size ≤ 1000
    exact of_decide_eq_true h'
  | _ => exact trivial
theorem sm2_of {d : PyData} (h : sm2B d = true) : small2 d ∧ small1 d := by
  cases d with
  | str z =>
    have h' : decide (z.cps.size ≤ 1000) = true := h
    have g := of_decide_eq_true h'
    exact ⟨g, g⟩
  | tuple ds =>
    have h' : (decide (ds.length ≤ 900) && ds.all sm1B) = true := h
    rw [Bool.and_eq_true, List.all_eq_true] at h'
    exact ⟨⟨of_decide_eq_true h'.1, fun e he => sm1_of (h'.2 e he)⟩, trivial⟩
  | _ => exact ⟨trivial, trivial⟩
def tS (l : List String) : PyData := .tuple (l.map fun s => .str (Str.ofString s))
def dsSome : List PyData := [tS ["a"], tS ["a", "b"], tS ["ab", "a", "ab"], tS ["zzzzzzzz", "z"]]
def dsBad1 : List PyData := [.tuple [], tS ["a", "a"], .list [.str "a", .str "b"], .str "ab", .none, .int 0, .bool true, .tuple [.str "a", .none], .tuple [.str "a", .int 1], tS ["a", ""], tS ["A"], tS ["a.b"], tS ["a", "b c"]]
def dsBad2 : List PyData := [tS ["abcdefghi"], tS ["a", "b\n"], .tuple [tS ["a", "b"]], deepD 11, .tuple [.str "a", deepD 11], tS ["b", "a", "a"], .tuple [.str "a", .list [.str "b"]]]
def dsStep : List PyData := [tS ["a", "b"], tS ["a", "a"], tS ["a"], .list [.str "a", .str "b"], tS ["a", "b", "c"], .tuple [.str "a", .int 2], .str "ab", deepD 11]
def dsPlace : List PyData := [.str "a", .str "abcdefgh", .str "abcdefghi", .str "", .str "a1", .none, .int 1, tS ["a"], .list [.str "a"], .str "\n", .str "a\n", deepD 11]
theorem all_sm2 : (dsSome ++ dsBad1 ++ dsBad2 ++ dsStep ++ dsPlace).all sm2B = true := by decide +kernel
theorem ans_jour : ((dsSome ++ (dsBad1 ++ dsBad2)).map isJ) = List.replicate 4 true ++ List.replicate 20 false := by decide +kernel
theorem ans_rest : (dsStep.map isS ++ dsPlace.map isPlD) = ([true] ++ List.replicate 7 false ++ [true, true] ++ List.replicate 10 false) := by decide +kernel
def dB (bs : List Bool) : List PyData := bs.map .bool
theorem dpB {K : PySem.W.Frag} {H : Hp} : ∀ bs : List Bool, DpAll K H (bs.map V.bl) (dB bs)
  | [] => .nil
  | b :: bs => .cons (.bl b) (dpB bs)
theorem okB (n : Nat) (bs : List Bool) (h : bs.length ≤ 1000) : okD (n + 2) (.list (dB bs)) := ⟨by unfold dB; rw [List.length_map]; exact h, fun d hd => by
  obtain ⟨b, _, rfl⟩ := List.mem_map.mp hd
  exact trivial⟩
theorem rep_bl (n : Nat) (b : Bool) : (List.replicate n [V.bl b]).flatten = (List.replicate n b).map V.bl := by
  induction n with
  | zero => rfl
  | succ n ih => rw [List.replicate_succ, List.flatten_cons, ih, List.replicate_succ]; rfl
section
variable {H : Hp} {Q : VK}
theorem rep_use {l : Addr} {b : Bool} {k : Nat} (hk : k ≤ 100) (e : H l = some (.lst [V.bl b])) (h : ∀ (H' : Hp) (p : Addr), Same H H' → H' p = some (.lst ((List.replicate k b).map V.bl)) → Q (.ref p) H') : rRep (.ref l) (.int (k : Nat)) H Q := by
  refine ⟨l, (k : Nat), _, rfl, rfl, e, by omega, by omega, ?_, fun p np => ?_⟩
  · show 1 * k ≤ sizeLine
    rw [Nat.one_mul]
    exact Nat.le_of_lt (small1000 (by omega))
  · have er : (List.replicate (Int.toNat ((k : Nat) : Int)) [V.bl b]).flatten = (List.replicate k b).map V.bl := rep_bl k b
    rw [er]
    exact h _ p (same_upd np) upd_same
theorem repE_use {l : Addr} {b : Bool} {k : Nat} {y : V} (ey : y = .int (k : Nat)) (hk : k ≤ 100) (e : H l = some (.lst [V.bl b])) (h : ∀ (H' : Hp) (p : Addr), Same H H' → H' p = some (.lst ((List.replicate k b).map V.bl)) → Q (.ref p) H') : rRep (.ref l) y H Q := by
  subst ey
  exact rep_use hk e h
theorem repC_use {l : Addr} {b : Bool} {σ : L2.St} {R : V → Hp → Prop} (k : Nat) (hk : k ≤ 100) (e : H l = some (.lst [V.bl b])) (h : ∀ (H' : Hp) (p : Addr), Same H H' → H' p = some (.lst ((List.replicate k b).map V.bl)) → R (.ref p) H') : tC (.int (k : Nat)) σ H fun y H2 => rRep (.ref l) y H2 R := rep_use hk e h
theorem cat_use {l m : Addr} {xs ys : List V} (e1 : H l = some (.lst xs)) (e2 : H m = some (.lst ys)) (hl : xs.length + ys.length ≤ 1000) (h : ∀ (H' : Hp) (p : Addr), Same H H' → H p = none → H' p = some (.lst (xs ++ ys)) → Q (.ref p) H') : rCat (.ref l) (.ref m) H Q :=
  ⟨l, m, xs, ys, rfl, rfl, e1, e2, Nat.le_of_lt (small1000 hl), fun p np => h _ p (same_upd np) np upd_same⟩
end
section
variable {P : Program} {w : World} {K : PySem.W.Frag} {mg : Str → Option Value} {base : Heap}
def spTrue : Sp := fun vs H Q _ => vs = [] ∧ ∀ H' : Hp, Same H H' → Q (.bl true) H'
abbrev nHand : List Str := ["_law_deep", "_law_turn", "_law_some", "_law_bad", "_law_got", "_law_due", "_law_own"]
theorem scHand : FnScope nHand [] (defScope sHand) := ⟨rfl, rfl, rfl, by decide +kernel, rfl, by decide +kernel, by decide +kernel⟩
theorem ok_hand {f fm fj fs fp : Addr} {fd dm dj dS' dp : FuncData} {k : Nat} (F : Fun K "_law_by_hand_right" "_law_by_hand_right" sHand f fd) (T : SmT mg) (mr : mg "range" = none)
    (M : FnOk P w K mg base CX0 k fm dm ["_law_got", "_law_due"] (spSame K 4)) (bM : Binds K dm ["_law_got", "_law_due"] []) (kM : PySem.W.keepIn K (.ref fm) = true) (mM : mg "_law_same" = some (.ref fm))
    (Gj : FnOk P w K mg base CX0 k fj dj ["thing"] (spJour K)) (bj : Binds K dj ["thing"] []) (kj : PySem.W.keepIn K (.ref fj) = true) (mj : mg "is_journey" = some (.ref fj)) (cj : KBinds K dj ["thing"] ["thing"] kw1 kw1)
    (Gs : FnOk P w K mg base CX0 k fs dS' ["thing"] (spStep K)) (bs : Binds K dS' ["thing"] []) (ks : PySem.W.keepIn K (.ref fs) = true) (ms : mg "is_step" = some (.ref fs)) (cs : KBinds K dS' ["thing"] ["thing"] kw1 kw1)
    (Gp : FnOk P w K mg base CX0 k fp dp ["thing"] (spPlace K)) (bp : Binds K dp ["thing"] []) (kp : PySem.W.keepIn K (.ref fp) = true) (mp : mg "is_place" = some (.ref fp)) (cp : KBinds K dp ["thing"] ["thing"] kw1 kw1) :
    FnOk P w K mg base CX0 (k + 1) f fd [] spTrue := by
  refine F.ok scHand (fun vs H Q E h => ?_) (fun cdv A outer s H vs Q E hr h => ?_)
  · rw [h.1]
    rfl
  · obtain ⟨rfl, q⟩ := h
    refine ⟨_, pss_cons (ps_set (i := 0) scHand.nd rfl (.inl rfl) pe_int)
      (pss_cons (ps_for PassesOwn.never rfl (pi_range1 (by rfl) mr (pa_cons pe_int pa_nil)) (pg_name (i := 1) scHand.nd rfl (.inl rfl))
        (pss_one (ps_set (i := 0) scHand.nd rfl (.inl rfl) (pe_ifExp (pt_cmpR op_lt (pv 1) pe_int (nomark _)) (pe_tup (pa_cons (pv 0) pa_nil)) (pe_lst (pa_cons (pv 0) pa_nil))))))
      (pss_cons (ps_set (i := 2) scHand.nd rfl (.inl rfl) (lit_top (K := K) (Γ := gNo) (ds := dsSome) (lits_cons gNo_stays (lit_tup (lits_cons gNo_stays lit_str lits_nil)) (lits_cons gNo_stays (lit_tup (lits_cons gNo_stays lit_str (lits_cons gNo_stays lit_str lits_nil))) (lits_cons gNo_stays (lit_tup (lits_cons gNo_stays lit_str (lits_cons gNo_stays lit_str (lits_cons gNo_stays lit_str lits_nil)))) (lits_cons gNo_stays (lit_tup (lits_cons gNo_stays lit_str (lits_cons gNo_stays lit_str lits_nil))) lits_nil))))))
      (pss_cons (ps_set (i := 3) scHand.nd rfl (.inl rfl) (lit_top (K := K) (Γ := gNo) (ds := dsBad1) (lits_cons gNo_stays (lit_tup lits_nil) (lits_cons gNo_stays (lit_tup (lits_cons gNo_stays lit_str (lits_cons gNo_stays lit_str lits_nil))) (lits_cons gNo_stays (lit_lst (lits_cons gNo_stays lit_str (lits_cons gNo_stays lit_str lits_nil))) (lits_cons gNo_stays lit_str (lits_cons gNo_stays lit_non (lits_cons gNo_stays lit_int (lits_cons gNo_stays lit_bl (lits_cons gNo_stays (lit_tup (lits_cons gNo_stays lit_str (lits_cons gNo_stays lit_non lits_nil))) (lits_cons gNo_stays (lit_tup (lits_cons gNo_stays lit_str (lits_cons gNo_stays lit_int lits_nil))) (lits_cons gNo_stays (lit_tup (lits_cons gNo_stays lit_str (lits_cons gNo_stays lit_str lits_nil))) (lits_cons gNo_stays (lit_tup (lits_cons gNo_stays lit_str lits_nil)) (lits_cons gNo_stays (lit_tup (lits_cons gNo_stays lit_str lits_nil)) (lits_cons gNo_stays (lit_tup (lits_cons gNo_stays lit_str (lits_cons gNo_stays lit_str lits_nil))) lits_nil)))))))))))))))
      (pss_cons (ps_set (i := 3) scHand.nd rfl (.inl rfl) (pe_op op_cat (pv 3) (lit_top (K := K) (Γ := gVar K 0 (deepD 11)) (ds := dsBad2) (lits_cons (gVar_stays (K := K)) (lit_tup (lits_cons (gVar_stays (K := K)) lit_str lits_nil)) (lits_cons (gVar_stays (K := K)) (lit_tup (lits_cons (gVar_stays (K := K)) lit_str (lits_cons (gVar_stays (K := K)) lit_str lits_nil))) (lits_cons (gVar_stays (K := K)) (lit_tup (lits_cons (gVar_stays (K := K)) (lit_tup (lits_cons (gVar_stays (K := K)) lit_str (lits_cons (gVar_stays (K := K)) lit_str lits_nil))) lits_nil)) (lits_cons (gVar_stays (K := K)) (lit_var (pv 0)) (lits_cons (gVar_stays (K := K)) (lit_tup (lits_cons (gVar_stays (K := K)) lit_str (lits_cons (gVar_stays (K := K)) (lit_var (pv 0)) lits_nil))) (lits_cons (gVar_stays (K := K)) (lit_tup (lits_cons (gVar_stays (K := K)) lit_str (lits_cons (gVar_stays (K := K)) lit_str (lits_cons (gVar_stays (K := K)) lit_str lits_nil)))) (lits_cons (gVar_stays (K := K)) (lit_tup (lits_cons (gVar_stays (K := K)) lit_str (lits_cons (gVar_stays (K := K)) (lit_lst (lits_cons (gVar_stays (K := K)) lit_str lits_nil)) lits_nil))) lits_nil))))))))))
      (pss_cons (ps_setLc (i := 4) (own := [("_law_own", 6)]) (g := gName 6) rfl scHand.nd rfl rfl (sw_true rfl rfl rfl (by decide +kernel)) (pi_list (pe_op op_cat (pv 2) (pv 3))) (blkOk_by (own := [("_law_own", 6)]) (N := nHand) (sc := defScope sHand) (by decide +kernel))
          (fun _ _ _ _ _ => pg_name (i := 6) scHand.nd rfl (Or.inl rfl) (.inr rfl)) (fun _ _ _ _ _ => pts_nil) (fun _ _ _ _ _ => pe_call Gj hr (by rfl) mj kj bj .nil pass0 (pa_cons (pv 6) pa_nil)))
      (pss_cons (ps_if (PW.pt (pw_or (pt_not (pt_val (pe_call M hr (by rfl) mM kM bM .nil pass0 (pa_cons (pv 4) (pa_cons (pe_op op_cat (pe_op op_rep (pe_lst (pa_cons pe_bl pa_nil)) pe_int) (pe_op op_rep (pe_lst (pa_cons pe_bl pa_nil)) (pe_callB call_len_seq (by rfl) T.le PySem.boot_len (pa_cons (pv 3) pa_nil)))) pa_nil)))))
          (pw_or1 (pt_cmpR op_isnot_bl (pe_callK0 Gj hr (by rfl) mj kj cj pass0 (pk_cons (pe_tup (pa_cons pe_str pa_nil)) pk_nil)) pe_bl (nomark _))))) (pss_one (ps_ret pe_bl)) pss_nil)
      (pss_cons (ps_setLc (i := 4) (own := [("_law_own", 6)]) (g := gName 6) rfl scHand.nd rfl rfl (sw_true rfl rfl rfl (by decide +kernel)) (pi_list (lit_top (K := K) (Γ := gVar K 0 (deepD 11)) (ds := dsStep) (lits_cons (gVar_stays (K := K)) (lit_tup (lits_cons (gVar_stays (K := K)) lit_str (lits_cons (gVar_stays (K := K)) lit_str lits_nil))) (lits_cons (gVar_stays (K := K)) (lit_tup (lits_cons (gVar_stays (K := K)) lit_str (lits_cons (gVar_stays (K := K)) lit_str lits_nil))) (lits_cons (gVar_stays (K := K)) (lit_tup (lits_cons (gVar_stays (K := K)) lit_str lits_nil)) (lits_cons (gVar_stays (K := K)) (lit_lst (lits_cons (gVar_stays (K := K)) lit_str (lits_cons (gVar_stays (K := K)) lit_str lits_nil))) (lits_cons (gVar_stays (K := K)) (lit_tup (lits_cons (gVar_stays (K := K)) lit_str (lits_cons (gVar_stays (K := K)) lit_str (lits_cons (gVar_stays (K := K)) lit_str lits_nil)))) (lits_cons (gVar_stays (K := K)) (lit_tup (lits_cons (gVar_stays (K := K)) lit_str (lits_cons (gVar_stays (K := K)) lit_int lits_nil))) (lits_cons (gVar_stays (K := K)) lit_str (lits_cons (gVar_stays (K := K)) (lit_var (pv 0)) lits_nil)))))))))) (blkOk_by (own := [("_law_own", 6)]) (N := nHand) (sc := defScope sHand) (by decide +kernel))
          (fun _ _ _ _ _ => pg_name (i := 6) scHand.nd rfl (Or.inl rfl) (.inr rfl)) (fun _ _ _ _ _ => pts_nil) (fun _ _ _ _ _ => pe_call Gs hr (by rfl) ms ks bs .nil pass0 (pa_cons (pv 6) pa_nil)))
      (pss_cons (ps_set (i := 4) scHand.nd rfl (.inl rfl) (pe_op op_cat (pv 4) (pe_lc (own := [("_law_own", 6)]) (g := gName 6) (by rfl) scHand.nd (pi_list (lit_top (K := K) (Γ := gVar K 0 (deepD 11)) (ds := dsPlace) (lits_cons (gVar_stays (K := K)) lit_str (lits_cons (gVar_stays (K := K)) lit_str (lits_cons (gVar_stays (K := K)) lit_str (lits_cons (gVar_stays (K := K)) lit_str (lits_cons (gVar_stays (K := K)) lit_str (lits_cons (gVar_stays (K := K)) lit_non (lits_cons (gVar_stays (K := K)) lit_int (lits_cons (gVar_stays (K := K)) (lit_tup (lits_cons (gVar_stays (K := K)) lit_str lits_nil)) (lits_cons (gVar_stays (K := K)) (lit_lst (lits_cons (gVar_stays (K := K)) lit_str lits_nil)) (lits_cons (gVar_stays (K := K)) lit_str (lits_cons (gVar_stays (K := K)) lit_str (lits_cons (gVar_stays (K := K)) (lit_var (pv 0)) lits_nil)))))))))))))) (blkOk_by (own := [("_law_own", 6)]) (N := nHand) (sc := defScope sHand) (by decide +kernel))
          (fun _ _ _ _ _ => pg_name (i := 6) scHand.nd rfl (Or.inl rfl) (.inr rfl)) (fun _ _ _ _ _ => pts_nil) (fun _ _ _ _ _ => pe_call Gp hr (by rfl) mp kp bp .nil pass0 (pa_cons (pv 6) pa_nil)))))
      (pss_cons (ps_set (i := 5) scHand.nd rfl (.inl rfl) (pe_op op_cat (pe_op op_cat (pe_op op_cat (pe_lst (pa_cons pe_bl pa_nil)) (pe_op op_rep (pe_lst (pa_cons pe_bl pa_nil)) pe_int)) (pe_lst (pa_cons pe_bl (pa_cons pe_bl pa_nil)))) (pe_op op_rep (pe_lst (pa_cons pe_bl pa_nil)) pe_int)))
      (pss_one (ps_ret (pe_call M hr (by rfl) mM kM bM .nil pass0 (pa_cons (pe_op op_cat (pv 4) (pe_lst (pa_cons (pe_callK0 Gs hr (by rfl) ms ks cs pass0 (pk_cons (pe_tup (pa_cons pe_str (pa_cons pe_str pa_nil))) pk_nil)) (pa_cons (pe_callK0 Gp hr (by rfl) mp kp cp pass0 (pk_cons pe_str pk_nil)) pa_nil))))
        (pa_cons (pe_op op_cat (pv 5) (pe_lst (pa_cons pe_bl (pa_cons pe_bl pa_nil)))) pa_nil)))))))))))))), ?_⟩
    have sm : ∀ d ∈ dsSome ++ dsBad1 ++ dsBad2 ++ dsStep ++ dsPlace, small2 d ∧ small1 d := fun d hd => sm2_of (List.all_eq_true.mp all_sm2 d hd)
    refine ⟨11, rfl, by decide, by decide, for_range (fun i σ H' => ∃ (v : V) (y1 : Option V), σ = [some v, y1, none, none, none, none, none] ∧ Same H H' ∧ Dp K H' v (deepD i)) ⟨.int 7, none, rfl, same_refl, .int 7⟩ ?_ ?_⟩
    · rintro i σ H1 hi ⟨v, y1, rfl, s1, dv⟩
      refine ⟨.int (0 + (i : Nat)), rfl, _, _, rfl, rfl, _, rfl, ?_⟩
      refine ite2 (fun c => ?_) (fun c => ?_)
      · have c' : (0 : Int) + i < 6 := of_decide_eq_true c
        refine ⟨v, rfl, (by show 1 ≤ sizeLine; decide), fun p np => ⟨_, _, rfl, s1.trans (same_upd np), ?_⟩⟩
        have e : deepD (i + 1) = .tuple [deepD i] := by
          show (if i < 6 then _ else _) = _
          rw [if_pos (by omega)]
        rw [e]
        exact .tup (xs := [v]) (SqT.of upd_same) (.cons (dp_same (same_upd np) dv) .nil)
      · have c' : ¬ (0 : Int) + i < 6 := fun z => c (decide_eq_true z)
        refine ⟨v, rfl, (by show 1 ≤ sizeLine; decide), fun p np => ⟨_, _, rfl, s1.trans (same_upd np), ?_⟩⟩
        have e : deepD (i + 1) = .list [deepD i] := by
          show (if i < 6 then _ else _) = _
          rw [if_neg (by omega)]
        rw [e]
        exact .lst (xs := [v]) (SqL.of upd_same) (.cons (dp_same (same_upd np) dv) .nil)
    rintro σ H1 ⟨v, y1, rfl, s1, dv⟩
    have dv : Dp K H1 v (deepD 11) := dv
    refine ⟨trivial, fun pS xsS H2 s2 _ eS dS2 => ⟨trivial, fun pB xsB H3 s3 _ eB dB3 => ⟨.ref pB, rfl, ⟨v, rfl, dp_same (s2.trans s3) dv⟩, fun pC xsC H4 s4 _ eC dC4 => ⟨pB, pC, _, _, rfl, rfl, s4 _ _ eB, eC, ?_, fun p2 n2 => ?_⟩⟩⟩⟩
    · rw [dpAll_len dB3, dpAll_len dC4]
      decide
    have s5 := same_upd (o := .lst (xsB ++ xsC)) n2
    have e2 : (upd H4 p2 (.lst (xsB ++ xsC))) p2 = some (.lst (xsB ++ xsC)) := upd_same
    have d2 : DpAll K (upd H4 p2 (.lst (xsB ++ xsC))) (xsB ++ xsC) (dsBad1 ++ dsBad2) := dp_app (dp_sameAll (s4.trans s5) dB3) (dp_sameAll s5 dC4)
    have eS5 := s5 _ _ (s4 _ _ (s3 _ _ eS))
    have dS5 := dp_sameAll ((s3.trans s4).trans s5) dS2
    have s15 := ((s2.trans s3).trans s4).trans s5
    generalize upd H4 p2 (.lst (xsB ++ xsC)) = H5 at e2 d2 eS5 dS5 s15
    have lB : (xsB ++ xsC).length = 20 := by
      rw [dpAll_len d2]
      rfl
    have lS : xsS.length = 4 := dpAll_len dS5
    refine ⟨.ref pS, rfl, .ref p2, rfl, pS, p2, _, _, rfl, rfl, eS5, e2, (by rw [lS, lB]; decide), fun pA nA => ?_⟩
    have s6 := same_upd (o := .lst (xsS ++ (xsB ++ xsC))) nA
    have hSA : SqL K (upd H5 pA (.lst (xsS ++ (xsB ++ xsC)))) pA (xsS ++ (xsB ++ xsC)) := SqL.of upd_same
    have dA : DpAll K (upd H5 pA (.lst (xsS ++ (xsB ++ xsC)))) (xsS ++ (xsB ++ xsC)) (dsSome ++ (dsBad1 ++ dsBad2)) := dp_app (dp_sameAll s6 dS5) (dp_sameAll s6 d2)
    have e2A := s6 _ _ e2
    have s16 := s15.trans s6
    generalize upd H5 pA (.lst (xsS ++ (xsB ++ xsC))) = H6 at hSA dA e2A s16
    refine ⟨pA, rfl, ⟨_, hSA⟩, fun D nD => lc_list (K := K) (a := pA) (xs := xsS ++ (xsB ++ xsC)) (fun i H' => Same H6 H' ∧ H' D = some (.lst ((((dsSome ++ (dsBad1 ++ dsBad2)).take i).map isJ).map V.bl))) ⟨same_upd nD, upd_same⟩ (fun i H' _ z => z.1.seq hSA) ?_ ?_⟩
    · rintro i v H2 hv ⟨s2, eD⟩
      obtain ⟨d1, e1, r1⟩ := dpAll_at dA hv
      have hi := (List.getElem?_eq_some_iff.mp e1).1
      refine ⟨rfl, ?_⟩
      unfold tYes
      refine ite2 (fun _ => ?_) (fun z => absurd rfl z)
      refine ⟨v, rfl, v, d1, rfl, dp_same s2 r1, (sm d1 (by have := List.mem_of_getElem? e1; simp only [List.mem_append] at this ⊢; rcases this with h | h | h <;> simp [h])).1, fun H3 s3 => ⟨_, s3 _ _ eD, ?_, fun b o e => ?_, ?_⟩⟩
      · rw [List.length_map, List.length_map, List.length_take]
        exact small1000 (by have : (dsSome ++ (dsBad1 ++ dsBad2)).length ≤ 100 := by decide +kernel
                            omega)
      · rw [upd_ne (ne_of_none e nD)]
        exact s3 _ _ (s2 _ _ e)
      · rw [upd_same, take_snoc e1, List.map_append, List.map_append]
        rfl
    rintro H7 ⟨s7, eD⟩
    have lA := dpAll_len dA
    rw [lA, List.take_length, ans_jour] at eD
    have s17 := s16.trans s7
    have e27 := s7 _ _ e2A
    -- all of them told right
    refine ⟨.ref D, rfl, (by show _ ≤ sizeLine; decide), fun l1 ml1 => ?_⟩
    have t1 := same_upd (o := .lst [V.bl true]) ml1
    have f1 : (upd H7 l1 (.lst [V.bl true])) l1 = some (.lst [V.bl true]) := upd_same
    generalize upd H7 l1 (.lst [V.bl true]) = H8 at t1 f1 ⊢
    refine repC_use 4 (by decide) f1 fun H9 l2 t2 f2 => ?_
    refine ⟨(by show _ ≤ sizeLine; decide), fun l3 ml3 => ?_⟩
    have t3 := same_upd (o := .lst [V.bl false]) ml3
    have f3 : (upd H9 l3 (.lst [V.bl false])) l3 = some (.lst [V.bl false]) := upd_same
    generalize upd H9 l3 (.lst [V.bl false]) = HA at t3 f3 ⊢
    refine ⟨.ref p2, rfl, p2, _, rfl, .inl (SqL.of (t3 _ _ (t2 _ _ (t1 _ _ e27)))), ?_⟩
    rw [lB]
    refine rep_use (k := 20) (by decide) f3 fun HB l4 t4 f4 => ?_
    refine cat_use (t4 _ _ (t3 _ _ f2)) f4 (by decide) fun HC l5 t5 _ f5 => ?_
    rw [← List.map_append] at f5
    have tA := (((t1.trans t2).trans t3).trans t4).trans t5
    have okL : okD 4 (.list (dB (List.replicate 4 true ++ List.replicate 20 false))) := okB 2 _ (by decide)
    refine ⟨.ref D, .ref l5, .list (dB (List.replicate 4 true ++ List.replicate 20 false)), rfl, .lst (SqL.of (tA _ _ eD)) (dpB _), .lst (SqL.of f5) (dpB _), okL, fun HD t6 => ⟨_, rfl, ?_⟩⟩
    refine ite2 (fun z => by cases z) (fun _ => ?_)
    -- by name
    refine ⟨(by show _ ≤ sizeLine; decide), fun u1 mu1 => ?_⟩
    have t7 := same_upd (o := .tup [V.str "a"]) mu1
    have f7 : (upd HD u1 (.tup [V.str "a"])) u1 = some (.tup [V.str "a"]) := upd_same
    generalize upd HD u1 (.tup [V.str "a"]) = HE at t7 f7 ⊢
    refine ⟨.ref u1, tS ["a"], rfl, .tup (xs := [.str "a"]) (SqT.of f7) (.cons (.str _) .nil), (sm2_of (by decide +kernel)).1, fun HF t8 => ⟨isJ (tS ["a"]), true, rfl, rfl, _, rfl, ?_⟩⟩
    have eJ : isJ (tS ["a"]) = true := by decide +kernel
    rw [eJ]
    refine ite2 (fun z => by cases z) (fun _ => ?_)
    have s1F := (((s17.trans tA).trans t6).trans t7).trans t8
    -- steps
    refine ⟨⟨v, rfl, dp_same s1F dv⟩, fun pT xsT HG s9 _ eT dT => ⟨pT, rfl, ⟨_, SqL.of eT⟩, fun D nD => lc_list (K := K) (a := pT) (xs := xsT) (fun i H' => Same HG H' ∧ H' D = some (.lst ((((dsStep).take i).map isS).map V.bl))) ⟨same_upd nD, upd_same⟩ (fun i H' _ z => z.1.seq (SqL.of eT)) ?_ ?_⟩⟩
    · rintro i v H2 hv ⟨s2, eD⟩
      obtain ⟨d1, e1, r1⟩ := dpAll_at dT hv
      have hi := (List.getElem?_eq_some_iff.mp e1).1
      refine ⟨rfl, ?_⟩
      unfold tYes
      refine ite2 (fun _ => ?_) (fun z => absurd rfl z)
      refine ⟨v, rfl, v, d1, rfl, dp_same s2 r1, (sm d1 (by have := List.mem_of_getElem? e1; simp only [List.mem_append]; simp [this])).1, fun H3 s3 => ⟨_, s3 _ _ eD, ?_, fun b o e => ?_, ?_⟩⟩
      · rw [List.length_map, List.length_map, List.length_take]
        exact small1000 (by have : (dsStep).length ≤ 100 := by decide +kernel
                            omega)
      · rw [upd_ne (ne_of_none e nD)]
        exact s3 _ _ (s2 _ _ e)
      · rw [upd_same, take_snoc e1, List.map_append, List.map_append]
        rfl
    rintro HH ⟨sHH, eDS⟩
    have lT := dpAll_len dT
    rw [lT, List.take_length] at eDS
    have s1H := (s1F.trans s9).trans sHH
    -- places
    refine ⟨.ref D, rfl, ⟨v, rfl, dp_same s1H dv⟩, fun pP xsP HI sI _ eP dP => ⟨pP, rfl, ⟨_, SqL.of eP⟩, fun D5 nD5 => lc_list (K := K) (a := pP) (xs := xsP) (fun i H' => Same HI H' ∧ H' D5 = some (.lst ((((dsPlace).take i).map isPlD).map V.bl))) ⟨same_upd nD5, upd_same⟩ (fun i H' _ z => z.1.seq (SqL.of eP)) ?_ ?_⟩⟩
    · rintro i v H2 hv ⟨s2, eD⟩
      obtain ⟨d1, e1, r1⟩ := dpAll_at dP hv
      have hi := (List.getElem?_eq_some_iff.mp e1).1
      refine ⟨rfl, ?_⟩
      unfold tYes
      refine ite2 (fun _ => ?_) (fun z => absurd rfl z)
      refine ⟨v, rfl, v, d1, rfl, dp_same s2 r1, (sm d1 (by have := List.mem_of_getElem? e1; simp only [List.mem_append]; simp [this])).2, fun H3 s3 => ⟨_, s3 _ _ eD, ?_, fun b o e => ?_, ?_⟩⟩
      · rw [List.length_map, List.length_map, List.length_take]
        exact small1000 (by have : (dsPlace).length ≤ 100 := by decide +kernel
                            omega)
      · rw [upd_ne (ne_of_none e nD5)]
        exact s3 _ _ (s2 _ _ e)
      · rw [upd_same, take_snoc e1, List.map_append, List.map_append]
        rfl
    rintro HJ ⟨sJ, eDP⟩
    have lP := dpAll_len dP
    rw [lP, List.take_length] at eDP
    have eDS2 := sJ _ _ (sI _ _ eDS)
    have s1J := (s1H.trans sI).trans sJ
    refine cat_use eDS2 eDP (by decide) fun HK pG sK _ eG => ?_
    rw [← List.map_append, ans_rest] at eG
    have s1K := s1J.trans sK
    -- what is due
    refine ⟨(by show _ ≤ sizeLine; decide), fun a1 ma1 => ?_⟩
    have g1 := same_upd (o := .lst [V.bl true]) ma1
    have h1 : (upd HK a1 (.lst [V.bl true])) a1 = some (.lst [V.bl true]) := upd_same
    generalize upd HK a1 (.lst [V.bl true]) = K1 at g1 h1 ⊢
    refine ⟨(by show _ ≤ sizeLine; decide), fun a2 ma2 => ?_⟩
    have g2 := same_upd (o := .lst [V.bl false]) ma2
    have h2 : (upd K1 a2 (.lst [V.bl false])) a2 = some (.lst [V.bl false]) := upd_same
    generalize upd K1 a2 (.lst [V.bl false]) = K2 at g2 h2 ⊢
    refine repC_use 7 (by decide) h2 fun K3 a3 g3 h3 => ?_
    refine cat_use (g3 _ _ (g2 _ _ h1)) h3 (by decide) fun K4 a4 g4 _ h4 => ?_
    refine ⟨(by show _ ≤ sizeLine; decide), fun a5 ma5 => ?_⟩
    have g5 := same_upd (o := .lst [V.bl true, V.bl true]) ma5
    have h5 : (upd K4 a5 (.lst [V.bl true, V.bl true])) a5 = some (.lst [V.bl true, V.bl true]) := upd_same
    generalize upd K4 a5 (.lst [V.bl true, V.bl true]) = K5 at g5 h5 ⊢
    refine cat_use (g5 _ _ h4) h5 (by decide) fun K6 a6 g6 _ h6 => ?_
    refine ⟨(by show _ ≤ sizeLine; decide), fun a7 ma7 => ?_⟩
    have g7 := same_upd (o := .lst [V.bl false]) ma7
    have h7 : (upd K6 a7 (.lst [V.bl false])) a7 = some (.lst [V.bl false]) := upd_same
    generalize upd K6 a7 (.lst [V.bl false]) = K7 at g7 h7 ⊢
    refine repC_use 10 (by decide) h7 fun K8 a8 g8 h8 => ?_
    refine cat_use (g8 _ _ (g7 _ _ h6)) h8 (by decide) fun K9 a9 g9 _ h9 => ?_
    have gAll := (((((((g1.trans g2).trans g3).trans g4).trans g5).trans g6).trans g7).trans g8).trans g9
    have eG9 := gAll _ _ eG
    have s1L := s1K.trans gAll
    -- got + ..
    refine ⟨.ref pG, rfl, (by show _ ≤ sizeLine; decide), fun u2 mu2 => ?_⟩
    have r1 := same_upd (o := .tup [V.str "x", V.str "y"]) mu2
    have i1 : (upd K9 u2 (.tup [V.str "x", V.str "y"])) u2 = some (.tup [V.str "x", V.str "y"]) := upd_same
    generalize upd K9 u2 (.tup [V.str "x", V.str "y"]) = L1 at r1 i1 ⊢
    refine ⟨.ref u2, tS ["x", "y"], rfl, .tup (xs := [.str "x", .str "y"]) (SqT.of i1) (.cons (.str _) (.cons (.str _) .nil)), (sm2_of (by decide +kernel)).1, fun L2' r2 => ⟨.str "x", .str "x", rfl, .str _, (sm2_of (by decide +kernel)).2, fun L3 r3 => ?_⟩⟩
    have eS1 : isS (tS ["x", "y"]) = true := by decide +kernel
    have eP1 : isPlD (.str "x") = true := by decide +kernel
    rw [eS1, eP1]
    refine ⟨(by show _ ≤ sizeLine; decide), fun u4 mu4 => ?_⟩
    have r4 := same_upd (o := .lst [V.bl true, V.bl true]) mu4
    have i4 : (upd L3 u4 (.lst [V.bl true, V.bl true])) u4 = some (.lst [V.bl true, V.bl true]) := upd_same
    generalize upd L3 u4 (.lst [V.bl true, V.bl true]) = L4 at r4 i4 ⊢
    refine cat_use ((((r1.trans r2).trans r3).trans r4) _ _ eG9) i4 (by decide) fun L5 u5 r5 _ i5 => ?_
    have rAll := (((r1.trans r2).trans r3).trans r4).trans r5
    refine ⟨.ref a9, rfl, (by show _ ≤ sizeLine; decide), fun u6 mu6 => ?_⟩
    have r6 := same_upd (o := .lst [V.bl true, V.bl true]) mu6
    have i6 : (upd L5 u6 (.lst [V.bl true, V.bl true])) u6 = some (.lst [V.bl true, V.bl true]) := upd_same
    generalize upd L5 u6 (.lst [V.bl true, V.bl true]) = L6 at r6 i6 ⊢
    refine cat_use (r6 _ _ (rAll _ _ h9)) i6 (by decide) fun L7 u7 r7 _ i7 => ?_
    have okL2 : okD 4 (.list (dB ([true] ++ List.replicate 7 false ++ [true, true] ++ List.replicate 10 false ++ [true, true]))) := okB 2 _ (by decide)
    have rE := r6.trans r7
    refine ⟨.ref u5, .ref u7, .list (dB ([true] ++ List.replicate 7 false ++ [true, true] ++ List.replicate 10 false ++ [true, true])), rfl, .lst (SqL.of (rE _ _ i5)) (dpB ([true] ++ List.replicate 7 false ++ [true, true] ++ List.replicate 10 false ++ [true, true])), .lst (SqL.of i7) (dpB ([true] ++ List.replicate 7 false ++ [true, true] ++ List.replicate 10 false ++ [true, true])), okL2, fun L8 r8 => ?_⟩
    exact q _ (s1.trans (s1L.trans ((rAll.trans rE).trans r8)))
end
end K00
namespace K00
open PySem PySem.Spec PyProof.Rows L2 CS RZ
theorem sgs_dS : ∀ ss : List Str, sgs (dS ss) = ss
  | [] => rfl
  | s :: r => by
    show s :: sgs (dS r) = s :: r
    rw [sgs_dS r]
theorem isJ_row {rs : List Str} (h0 : 0 < rs.length) (hp : ∀ z ∈ rs, isPl z = true) (ha : Alt rs) : isJ (.tuple (dS rs)) = true := by
  show (!(dS rs).isEmpty && ((dS rs).all isPlD && altB (sgs (dS rs)))) = true
  have e1 : (dS rs).isEmpty = false := by
    cases rs with
    | nil => exact absurd h0 (Nat.lt_irrefl 0)
    | cons _ _ => rfl
  have e2 : (dS rs).all isPlD = true := by
    rw [List.all_eq_true]
    intro e he
    obtain ⟨z, hz, rfl⟩ := List.mem_map.mp he
    exact hp z hz
  have e3 : altB rs = true := by
    unfold altB
    rw [List.all_eq_true]
    intro p hm
    obtain ⟨j, hj⟩ := List.getElem?_of_mem hm
    unfold prs at hj
    rw [List.getElem?_zip_eq_some, List.getElem?_tail] at hj
    have := ha j p.1 p.2 hj.1 hj.2
    simpa using this
  rw [e1, e2, sgs_dS, e3]
  rfl
theorem isS_pair {x y : Str} (hx : isPl x = true) (hy : isPl y = true) (h : x ≠ y) : isS (.tuple [.str x, .str y]) = true := by
  have e := isJ_row (rs := [x, y]) (by show 0 < 2; decide) (fun z hz => by
    rcases List.mem_cons.mp hz with rfl | hz
    · exact hx
    · rw [List.mem_singleton.mp hz]
      exact hy) (fun j a b h1 h2 => by
    cases j with
    | zero =>
      cases h1
      cases h2
      exact h
    | succ j => cases h2)
  show (decide ([PyData.str x, .str y].length = 2) && isJ (.tuple [.str x, .str y])) = true
  rw [show isJ (.tuple [.str x, .str y]) = true from e]
  rfl
theorem isPl_size {z : Str} (h : isPl z = true) : z.cps.size ≤ 8 := by
  unfold isPl at h
  rw [Bool.and_eq_true, Bool.and_eq_true, decide_eq_true_eq, decide_eq_true_eq] at h
  omega
theorem isJ_tup {d : PyData} (h : isJ d = true) : ∃ ds, d = .tuple ds := by
  cases d with
  | tuple ds => exact ⟨ds, rfl⟩
  | _ => cases h
theorem isS_no {d : PyData} (h : isJ d = false) : isS d = false := by
  cases d with
  | tuple ds =>
    show (decide (ds.length = 2) && isJ (.tuple ds)) = false
    rw [h, Bool.and_false]
  | _ => rfl
section
variable {P : Program} {w : World} {K : PySem.W.Frag} {mg : Str → Option Value} {base : Heap}
/-! ### right -/
def spRight : Sp := fun vs H Q _ => ∃ (b : Addr), vs = [.ref b] ∧ BoxAt H b 0 ∧ ∀ H' : Hp, Keep b H H' → Q (.bl true) H'
abbrev nRight : List Str := ["_law_box_here", "_law_turn", "_law_row_so", "_law_matter", "_law_was", "_law_got", "_law_due", "_law_own"]
theorem scRight : FnScope nRight ["_law_box_here"] (defScope sRight) := ⟨rfl, rfl, rfl, by decide +kernel, rfl, by decide +kernel, by decide +kernel⟩
/-- what right asks -/
structure RiG (P : Program) (w : World) (K : PySem.W.Frag) (mg : Str → Option Value) (base : Heap) (k : Nat) where
  {ft fw fj fs fr fo fm : Addr}
  {dt dw dj ds dr do' dm : FuncData}
  T : FnOk P w K mg base CX0 k ft dt ["_law_box_here", "_law_many_so"] (spTags K)
  W : FnOk P w K mg base CX0 k fw dw ["_law_box_here", "_law_tags_here", "_law_most_so"] (spWalk K)
  J : FnOk P w K mg base CX0 k fj dj ["thing"] (spJour K)
  S : FnOk P w K mg base CX0 k fs ds ["thing"] (spStep K)
  R : FnOk P w K mg base CX0 k fr dr ["_law_matter"] (spRow K)
  O : FnOk P w K mg base CX0 k fo do' ["_law_box_here", "_law_row_so"] (spSpoilt K)
  M : FnOk P w K mg base CX0 k fm dm ["_law_got", "_law_due"] (spSame K 4)
  bT : Binds K dt ["_law_box_here", "_law_many_so"] []
  bW : Binds K dw ["_law_box_here", "_law_tags_here", "_law_most_so"] []
  bJ : Binds K dj ["thing"] []
  bS : Binds K ds ["thing"] []
  bR : Binds K dr ["_law_matter"] []
  bO : Binds K do' ["_law_box_here", "_law_row_so"] []
  bM : Binds K dm ["_law_got", "_law_due"] []
  kT : PySem.W.keepIn K (.ref ft) = true
  kW : PySem.W.keepIn K (.ref fw) = true
  kJ : PySem.W.keepIn K (.ref fj) = true
  kS : PySem.W.keepIn K (.ref fs) = true
  kR : PySem.W.keepIn K (.ref fr) = true
  kO : PySem.W.keepIn K (.ref fo) = true
  kM : PySem.W.keepIn K (.ref fm) = true
  mT : mg "_law_tags" = some (.ref ft)
  mW : mg "_law_walk" = some (.ref fw)
  mJ : mg "is_journey" = some (.ref fj)
  mS : mg "is_step" = some (.ref fs)
  mR : mg "_law_is_row" = some (.ref fr)
  mO : mg "_law_spoilt" = some (.ref fo)
  mM : mg "_law_same" = some (.ref fm)
theorem ok_right {f : Addr} {fd : FuncData} {k : Nat} (F : Fun K "_law_right" "_law_right" sRight f fd) (G : RiG P w K mg base k) (T : SmT mg) (mr : mg "range" = none) (me : mg "repr" = none) : FnG P w K mg base (k + 1) f fd ["_law_box_here"] spRight := by
  refine fnG_mk F scRight (fun vs H Q E h => ?_) (fun cdv A outer s H vs Q E gd hr h => ?_)
  · obtain ⟨b, rfl, _⟩ := h
    rfl
  · obtain ⟨b, rfl, hb, q⟩ := h
    refine ⟨_, pss_cons (ps_for PassesOwn.never rfl (pi_range1 (by rfl) mr (pa_cons pe_int pa_nil)) (pg_name (i := 1) scRight.nd rfl (.inl rfl))
        (pss_cons (ps_set (i := 2) scRight.nd rfl (.inl rfl) (pe_call G.W hr (by rfl) G.mW G.kW G.bW .nil pass0 (pa_cons (pv 0) (pa_cons (pe_call G.T hr (by rfl) G.mT G.kT G.bT .nil pass0 (pa_cons (pv 0) (pa_cons pe_int pa_nil))) (pa_cons pe_int pa_nil)))))
        (pss_cons (ps_if (PW.pt (pw_or (pt_cmpR op_isnot_bl (pe_call G.J hr (by rfl) G.mJ G.kJ G.bJ .nil pass0 (pa_cons (pv 2) pa_nil)) pe_bl (nomark _))
            (pw_or1 (pt_not (pt_val (pe_call G.M hr (by rfl) G.mM G.kM G.bM .nil pass0 (pa_cons (pe_lc (own := [("_law_own", 7)]) (g := gName 7) (by rfl) scRight.nd (pi_zipN (by rfl) T.zi (pa_cons (pv 2) (pa_cons (pe_slice sl_tupA (pv 2) (po_some pe_int) po_none) pa_nil)))
                (blkOk_by (own := [("_law_own", 7)]) (N := nRight) (sc := defScope sRight) (by decide +kernel)) (fun _ _ _ _ _ => pg_name (i := 7) scRight.nd rfl (Or.inl rfl) (.inr rfl)) (fun _ _ _ _ _ => pts_nil)
                (fun _ _ _ _ _ => pe_call G.S hr (by rfl) G.mS G.kS G.bS .nil pass0 (pa_cons (pv 7) pa_nil)))
              (pa_cons (pe_op op_rep (pe_lst (pa_cons pe_bl pa_nil)) (pe_op op_sub (pe_callB call_len_seq (by rfl) T.le PySem.boot_len (pa_cons (pv 2) pa_nil)) pe_int)) pa_nil))))))))
          (pss_one (ps_ret pe_bl)) pss_nil)
        (pss_cons (ps_set (i := 3) scRight.nd rfl (.inl rfl) (pe_call G.O hr (by rfl) G.mO G.kO G.bO .nil pass0 (pa_cons (pv 0) (pa_cons (pv 2) pa_nil))))
        (pss_cons (ps_set (i := 4) scRight.nd rfl (.inl rfl) (pe_callB (call_reprD hr.units gd) (by rfl) me (by decide +kernel) (pa_cons (pv 3) pa_nil)))
        (pss_cons (ps_set (i := 5) scRight.nd rfl (.inl rfl) (pe_lst (pa_cons (pe_call G.J hr (by rfl) G.mJ G.kJ G.bJ .nil pass0 (pa_cons (pv 3) pa_nil)) (pa_cons (pe_call G.S hr (by rfl) G.mS G.kS G.bS .nil pass0 (pa_cons (pv 3) pa_nil)) pa_nil))))
        (pss_cons (ps_set (i := 6) scRight.nd rfl (.inl rfl) (pe_lst (pa_cons (pe_call G.R hr (by rfl) G.mR G.kR G.bR .nil pass0 (pa_cons (pv 3) pa_nil)) (pa_cons (pe_and (pe_call G.R hr (by rfl) G.mR G.kR G.bR .nil pass0 (pa_cons (pv 3) pa_nil)) (pe_one (pe_cmpR op_eq (pe_callB call_len_seq (by rfl) T.le PySem.boot_len (pa_cons (pv 3) pa_nil)) pe_int (nomark _)))) pa_nil))))
        (pss_one (ps_if (PW.pt (pw_or (pt_not (pt_val (pe_call G.M hr (by rfl) G.mM G.kM G.bM .nil pass0 (pa_cons (pv 5) (pa_cons (pv 6) pa_nil))))) (pw_or1 (pt_cmpR op_ne (pe_callB (call_reprD hr.units gd) (by rfl) me (by decide +kernel) (pa_cons (pv 3) pa_nil)) (pv 4) (nomark _)))))
          (pss_one (ps_ret pe_bl)) pss_nil)))))))))
      (pss_one (ps_ret pe_bl)), ?_⟩
    refine ⟨9, rfl, by decide, by decide, for_range (fun i σ H' => ∃ (y1 y2 y3 y4 y5 y6 : Option V), σ = [some (.ref b), y1, y2, y3, y4, y5, y6, none] ∧ Keep b H H' ∧ BoxAt H' b (2000 * i)) ⟨none, none, none, none, none, none, rfl, Keep.refl b H, hb⟩ ?_ ?_⟩
    · rintro i σ H1 hi ⟨y1, y2, y3, y4, y5, y6, rfl, k1, b1⟩
      have hi9 : i < 9 := hi
      refine ⟨.ref b, rfl, .ref b, rfl, b, 4, _, rfl, b1, by omega, by decide, by decide, fun H2 p fs k2 b2 _ npb e2 hl hnd hok hpl => ?_⟩
      refine ⟨b, p, 20, _, fs, rfl, b2, by omega, npb, SqL.of e2, by omega, by omega, hnd, by decide, by decide, fun H3 ro rs k3 b3 _ nrb e3 hpos hle hin halt => ?_⟩
      have hplr : ∀ z ∈ rs, isPl z = true := fun z hz => hpl z (hin z hz)
      have hokr : ∀ z ∈ rs, PyData.strOk z = true := fun z hz => hok z (hin z hz)
      have k13 := (k1.trans k2).trans k3
      have hS3 : SqT K H3 ro (rs.map V.str) := SqT.of e3
      have eJ := isJ_row hpos hplr halt
      have lds : (dS rs).length = rs.length := by
        unfold dS
        rw [List.length_map]
      have sm2 : small2 (.tuple (dS rs)) := ⟨by omega, fun e he => by
        obtain ⟨z, hz, rfl⟩ := List.mem_map.mp he
        have := isPl_size (hplr z hz)
        show z.cps.size ≤ 1000
        omega⟩
      refine ⟨.ref ro, rfl, .ref ro, .tuple (dS rs), rfl, .tup hS3 (dpS rs), sm2, fun H4 s4 => ⟨isJ (.tuple (dS rs)), true, rfl, rfl, _, rfl, ?_⟩⟩
      rw [eJ]
      refine ite2 (fun z => by cases z) (fun _ => ?_)
      have hS4 := sqT_same s4 hS3
      refine ⟨.ref ro, rfl, .ref ro, rfl, 1, rfl, slK_use (lo := 1) rfl hS4 fun H5 rt s5 t5 => ?_⟩
      rw [show (1 : Int) = ((1 : Nat) : Int) from rfl, cut_from _ (by rw [List.length_map]; omega), ← List.map_drop] at t5
      have hS5 := sqT_same s5 hS4
      have lzip : min (rs.map V.str).length ((rs.drop 1).map V.str).length = rs.length - 1 := by
        rw [List.length_map, List.length_map, List.length_drop]
        omega
      refine ⟨ro, rt, rs.map V.str, (rs.drop 1).map V.str, rfl, hS5, t5, fun D nD => lc_it (walk_zipN (K := K) (a := ro) (b := rt) (xs := rs.map V.str) (ys := (rs.drop 1).map V.str) rfl)
        (fun j H' => Same H5 H' ∧ H' D = some (.lst ((List.replicate j true).map V.bl))) ⟨same_upd nD, upd_same⟩ (fun j H' _ z => ⟨sqT_same z.1 hS5, sqT_same z.1 t5⟩) ?_ ?_⟩
      · rintro j v HA HB hj ⟨sA, eD⟩ ⟨T1, x1, y1', rfl, nT, rfl, hx1, hy1⟩
        rw [lzip] at hj
        replace hx1 : (rs.map V.str)[j]? = some x1 := hx1
        replace hy1 : ((rs.drop 1).map V.str)[j]? = some y1' := hy1
        have g1 : rs[j]? = some rs[j] := List.getElem?_eq_getElem (by omega)
        have g2 : rs[j + 1]? = some rs[j + 1] := List.getElem?_eq_getElem (by omega)
        rw [List.getElem?_map, g1] at hx1
        rw [List.getElem?_map, List.getElem?_drop, show 1 + j = j + 1 by omega, g2] at hy1
        have ex := (Option.some.inj hx1).symm
        have ey := (Option.some.inj hy1).symm
        subst ex
        subst ey
        have m1 := List.mem_of_getElem? g1
        have m2 := List.mem_of_getElem? g2
        have eS := isS_pair (hplr _ m1) (hplr _ m2) (halt j _ _ g1 g2)
        have sB := same_upd (o := .tup [.str rs[j], .str rs[j + 1]]) nT
        refine ⟨rfl, ?_⟩
        unfold tYes
        refine ite2 (fun _ => ?_) (fun z => absurd rfl z)
        refine ⟨.ref T1, rfl, .ref T1, .tuple [.str rs[j], .str rs[j + 1]], rfl, .tup (xs := [.str rs[j], .str rs[j + 1]]) (SqT.of upd_same) (.cons (.str _) (.cons (.str _) .nil)), ⟨by show 2 ≤ 900; decide, fun e he => ?_⟩, fun HC sC => ?_⟩
        · rcases List.mem_cons.mp he with rfl | he
          · have := isPl_size (hplr _ m1)
            show (rs[j]).cps.size ≤ 1000
            omega
          · rw [List.mem_singleton.mp he]
            have := isPl_size (hplr _ m2)
            show (rs[j + 1]).cps.size ≤ 1000
            omega
        · rw [eS]
          refine ⟨_, sC _ _ (sB _ _ eD), ?_, fun c o e => ?_, ?_⟩
          · rw [List.length_map, List.length_replicate]
            exact small1000 (by omega)
          · rw [upd_ne (ne_of_none e nD)]
            exact sC _ _ (sB _ _ (sA _ _ e))
          · rw [upd_same, List.replicate_succ', List.map_append]
            rfl
      · rintro H6 ⟨s6, eD⟩
        rw [lzip] at eD
        refine ⟨(by show 1 ≤ sizeLine; decide), fun l1 n1 => ?_⟩
        have t1 := same_upd (o := .lst [V.bl true]) n1
        have f1 : (upd H6 l1 (.lst [V.bl true])) l1 = some (.lst [V.bl true]) := upd_same
        generalize upd H6 l1 (.lst [V.bl true]) = H7 at t1 f1 ⊢
        refine ⟨.ref ro, rfl, ro, _, rfl, .inr (sqT_same ((s6.trans t1)) hS5), _, _, rfl, rfl, ?_⟩
        have elen : (((rs.map V.str).length : Nat) : Int) - 1 = ((rs.length - 1 : Nat) : Int) := by
          rw [List.length_map]
          omega
        refine repE_use (k := rs.length - 1) (show V.int _ = V.int _ from congrArg V.int elen) (by omega) f1 fun H8 l2 t2 f2 => ?_
        have okL : okD 4 (.list (dB (List.replicate (rs.length - 1) true))) := okB 2 _ (by rw [List.length_replicate]; omega)
        refine ⟨.ref D, .ref l2, .list (dB (List.replicate (rs.length - 1) true)), rfl, .lst (SqL.of (t2 _ _ (t1 _ _ eD))) (dpB _), .lst (SqL.of f2) (dpB _), okL, fun H9 t3 => ⟨_, rfl, ?_⟩⟩
        refine ite2 (fun z => by cases z) (fun _ => ?_)
        have s49 := (((s5.trans s6).trans t1).trans t2).trans t3
        have k19 := (k13.trans (Keep.of_same s4)).trans (Keep.of_same s49)
        have b9 := (b3.same s4).same s49
        -- spoilt
        refine ⟨.ref b, rfl, .ref ro, rfl, b, ro, _, rs, rfl, b9, by omega, sqT_same s49 hS4, hpos, by omega, fun z hz => ⟨hokr z hz, by have := isPl_size (hplr z hz); omega⟩, fun HS pm d kS bS dM gM => ?_⟩
        obtain ⟨r1, r2, r3, r4⟩ := gm_repr gM
        obtain ⟨q1, q2⟩ := gm_good gM
        refine ⟨.ref pm, rfl, pm, d, rfl, dM, r1, r2, r3, r4, ?_⟩
        -- got
        refine ⟨.ref pm, rfl, .ref pm, d, rfl, dM, q2, fun G1 v1 => ⟨.ref pm, rfl, .ref pm, d, rfl, dp_same v1 dM, q2, fun G2 v2 => ⟨(by show 2 ≤ sizeLine; decide), fun g1 ng1 => ?_⟩⟩⟩
        have t4 := same_upd (o := .lst [V.bl (isJ d), V.bl (isS d)]) ng1
        have f4 : (upd G2 g1 (.lst [V.bl (isJ d), V.bl (isS d)])) g1 = some (.lst [V.bl (isJ d), V.bl (isS d)]) := upd_same
        generalize upd G2 g1 (.lst [V.bl (isJ d), V.bl (isS d)]) = G3 at t4 f4 ⊢
        have v3 := (v1.trans v2).trans t4
        -- due
        refine ⟨.ref pm, rfl, .ref pm, d, rfl, dp_same v3 dM, q1, fun G4 v4 => ⟨.ref pm, rfl, .ref pm, d, rfl, dp_same (v3.trans v4) dM, q1, fun G5 v5 => ⟨_, rfl, ?_⟩⟩⟩
        have v35 := (v3.trans v4).trans v5
        refine ite2 (fun cJ => ?_) (fun cJ => ?_)
        · obtain ⟨ds, rfl⟩ := isJ_tup cJ
          cases dp_same v35 dM with
          | tup hSm hAm =>
            rename_i xs
            have lm := dpAll_len hAm
            have ev : decide (V.int ((xs.length : Nat) : Int) = V.int 2) = isS (.tuple ds) := by
              show _ = (decide (ds.length = 2) && isJ (.tuple ds))
              rw [cJ, Bool.and_true, lm]
              by_cases h2 : ds.length = 2
              · rw [decide_eq_true h2, decide_eq_true (by rw [h2]; rfl)]
              · rw [decide_eq_false h2, decide_eq_false (fun z => h2 (by have := V.int.inj z; omega))]
            refine ⟨.ref pm, rfl, pm, xs, rfl, .inr hSm, rfl, ?_⟩
            rw [ev]
            refine ⟨(by show 2 ≤ sizeLine; decide), fun du ndu => ?_⟩
            have t5 := same_upd (o := .lst [V.bl (isJ (.tuple ds)), V.bl (isS (.tuple ds))]) ndu
            have f5 : (upd G5 du (.lst [V.bl (isJ (.tuple ds)), V.bl (isS (.tuple ds))])) du = some (.lst [V.bl (isJ (.tuple ds)), V.bl (isS (.tuple ds))]) := upd_same
            generalize upd G5 du (.lst [V.bl (isJ (.tuple ds)), V.bl (isS (.tuple ds))]) = G6 at t5 f5 ⊢
            have okG : okD 4 (.list (dB [isJ (.tuple ds), isS (.tuple ds)])) := okB 2 _ (by show 2 ≤ 1000; decide)
            refine ⟨.ref g1, rfl, .ref du, rfl, .ref g1, .ref du, .list (dB [isJ (.tuple ds), isS (.tuple ds)]), rfl, .lst (SqL.of (t5 _ _ (v5 _ _ (v4 _ _ f4)))) (dpB [isJ (.tuple ds), isS (.tuple ds)]), .lst (SqL.of f5) (dpB [isJ (.tuple ds), isS (.tuple ds)]), okG, fun G7 t6 => ⟨_, rfl, ?_⟩⟩
            refine ite2 (fun z => by cases z) (fun _ => ?_)
            have v7 := (v35.trans t5).trans t6
            refine ⟨.ref pm, rfl, pm, (.tuple ds), rfl, dp_same v7 dM, r1, r2, r3, r4, .str (PyData.shown (.tuple ds)), rfl, rfl, _, rfl, ?_⟩
            refine ite2 (fun z => by rw [decide_eq_true rfl] at z; cases z) (fun _ => ?_)
            exact ⟨_, _, _, _, _, _, rfl, (k19.trans kS).trans (Keep.of_same v7), (bS.same v7).up (by omega)⟩
        · have cJ' : isJ d = false := by simpa using cJ
          have eS := isS_no cJ'
          rw [show V.bl false = V.bl (isS d) by rw [eS]]
          refine ⟨(by show 2 ≤ sizeLine; decide), fun du ndu => ?_⟩
          have t5 := same_upd (o := .lst [V.bl (isJ d), V.bl (isS d)]) ndu
          have f5 : (upd G5 du (.lst [V.bl (isJ d), V.bl (isS d)])) du = some (.lst [V.bl (isJ d), V.bl (isS d)]) := upd_same
          generalize upd G5 du (.lst [V.bl (isJ d), V.bl (isS d)]) = G6 at t5 f5 ⊢
          have okG : okD 4 (.list (dB [isJ d, isS d])) := okB 2 _ (by show 2 ≤ 1000; decide)
          refine ⟨.ref g1, rfl, .ref du, rfl, .ref g1, .ref du, .list (dB [isJ d, isS d]), rfl, .lst (SqL.of (t5 _ _ (v5 _ _ (v4 _ _ f4)))) (dpB [isJ d, isS d]), .lst (SqL.of f5) (dpB [isJ d, isS d]), okG, fun G7 t6 => ⟨_, rfl, ?_⟩⟩
          refine ite2 (fun z => by cases z) (fun _ => ?_)
          have v7 := (v35.trans t5).trans t6
          refine ⟨.ref pm, rfl, pm, d, rfl, dp_same v7 dM, r1, r2, r3, r4, .str (PyData.shown d), rfl, rfl, _, rfl, ?_⟩
          refine ite2 (fun z => by rw [decide_eq_true rfl] at z; cases z) (fun _ => ?_)
          exact ⟨_, _, _, _, _, _, rfl, (k19.trans kS).trans (Keep.of_same v7), (bS.same v7).up (by omega)⟩
    · rintro σ H1 ⟨y1, y2, y3, y4, y5, y6, rfl, k1, b1⟩
      exact q H1 k1
/-! ### the law -/
def spLaw (K : PySem.W.Frag) : Sp := fun vs H Q _ => ∃ (a : Addr) (ns : List Int), vs = [.ref a] ∧ SqL K H a (ns.map V.int) ∧ ns.length ≤ 63 ∧ ∀ H', Q (.bl true) H'
abbrev nLaw : List Str := ["_law_script", "_law_cells_here", "_law_k"]
theorem scLaw : FnScope nLaw ["_law_script"] (defScope sLaw) := ⟨rfl, rfl, rfl, by decide +kernel, rfl, by decide +kernel, by decide +kernel⟩
theorem ok_law {f gh gc gr gb : Addr} {fd dh dc dr db : FuncData} {k : Nat} (F : Fun K "law" "law" sLaw f fd)
    (Gh : FnOk P w K mg base CX0 k gh dh [] spTrue) (bh : Binds K dh [] []) (kh : PySem.W.keepIn K (.ref gh) = true) (mh : mg "_law_by_hand_right" = some (.ref gh))
    (Gc : FnOk P w K mg base CX0 k gc dc ["_law_script", "_law_most_so"] (spCells K)) (bc : Binds K dc ["_law_script", "_law_most_so"] []) (kc : PySem.W.keepIn K (.ref gc) = true) (mc : mg "_law_cells" = some (.ref gc))
    (Gr : FnG P w K mg base k gr dr ["_law_box_here"] spRight) (br : Binds K dr ["_law_box_here"] []) (kr : PySem.W.keepIn K (.ref gr) = true) (mR : mg "_law_right" = some (.ref gr))
    (Gb : FnOk P w K mg base CX0 k gb db ["_law_script", "_law_k"] (spBox K)) (bb : Binds K db ["_law_script", "_law_k"] []) (kb : PySem.W.keepIn K (.ref gb) = true) (mb : mg "_law_box" = some (.ref gb)) (mr : mg "range" = none) (ma : mg "all" = none) (ml : mg "len" = none) :
    FnG P w K mg base (k + 1) f fd ["_law_script"] (spLaw K) := by
  refine fnG_mk F scLaw (fun vs H Q E h => ?_) (fun cdv A outer s H vs Q E gd hr h => ?_)
  · obtain ⟨a, ns, rfl, _⟩ := h
    rfl
  · obtain ⟨a, ns, rfl, hS, hn, q⟩ := h
    refine ⟨_, pss_cons (ps_if (pt_not (pt_val (pe_call0 Gh hr (by rfl) mh kh bh .nil pass0))) (pss_one (ps_ret pe_bl)) pss_nil)
      (pss_cons (ps_set (i := 1) scLaw.nd rfl (.inr rfl) (pe_call Gc hr (by rfl) mc kc bc .nil pass0 (pa_cons (pv 0) (pa_cons pe_int pa_nil))))
      (pss_one (ps_ret (pe_callB (cr_all rfl) (by rfl) ma (by decide +kernel) (pa_cons (pe_lc (own := [("_law_k", 2)]) (g := gName 2) (by rfl) scLaw.nd (pi_range1 (by rfl) mr (pa_cons (pe_callB call_len_seq (by rfl) ml PySem.boot_len (pa_cons (pv 1) pa_nil)) pa_nil))
        (blkOk_by (own := [("_law_k", 2)]) (N := nLaw) (sc := defScope sLaw) (by decide +kernel)) (fun _ _ _ _ _ => pg_name (i := 2) scLaw.nd rfl (Or.inl rfl) (.inr rfl)) (fun _ _ _ _ _ => pts_nil)
        (fun _ _ _ _ _ => pe_callG (E := E0) Gr gd hr (by rfl) mR kr br (pa_cons (pe_call Gb hr (by rfl) mb kb bb .nil pass0 (pa_cons (pv 1) (pa_cons (pv 2) pa_nil))) pa_nil))) pa_nil))))), ?_⟩
    refine ⟨rfl, fun H1 s1 => ⟨_, rfl, ?_⟩⟩
    refine ite2 (fun z => by cases z) (fun _ => ?_)
    refine ⟨.ref a, rfl, a, ns, rfl, s1.seq hS, hn, fun H2 p ms s2 _ e2 m1 m3 => ?_⟩
    refine ⟨.ref p, rfl, p, _, rfl, .inl (SqL.of e2), _, rfl, (by rw [List.length_map]; omega), (by rw [List.length_map]; omega), fun D nD => lc_range (fun i H' => H' p = some (.lst (ms.map V.int)) ∧ H' D = some (.lst ((List.replicate i true).map V.bl))) ⟨?_, upd_same⟩ ?_ ?_⟩
    · rw [upd_ne (ne_of_none e2 nD)]
      exact e2
    · rintro i H3 hi ⟨e3, eD⟩
      rw [List.length_map] at hi
      have hi' : i < ms.length := by omega
      have npD : p ≠ D := ne_of_none e2 nD
      refine ⟨rfl, ?_⟩
      unfold tYes
      refine ite2 (fun _ => ?_) (fun z => absurd rfl z)
      refine ⟨.ref p, rfl, .int (0 + (i : Nat)), rfl, p, ms, i, (by rw [Int.zero_add]; rfl), SqL.of e3, hi', by omega, fun H4 b s4 nb b4 => ?_⟩
      have npb : p ≠ b := ne_of_none e3 nb
      have nDb : D ≠ b := ne_of_none eD nb
      refine ⟨b, rfl, b4, fun H5 k5 => ?_⟩
      refine ⟨_, k5 _ _ nDb (s4 _ _ eD), ?_, ?_, ?_⟩
      · rw [List.length_map, List.length_replicate]
        exact small1000 (by omega)
      · rw [upd_ne npD]
        exact k5 _ _ npb (s4 _ _ e3)
      · rw [upd_same, List.replicate_succ', List.map_append]
        rfl
    · rintro H3 ⟨e3, eD⟩
      refine ⟨D, _, rfl, SqL.of eD, ?_⟩
      rw [all_yes]
      exact q H3
end
end K00
namespace K00
open PySem PySem.Spec PyProof.Rows L2 CS RZ
theorem fn_up {P : Program} {w : World} {K : PySem.W.Frag} {mg : Str → Option Value} {base : Heap} {CX : CXT} {j k : Nat} {f : Addr} {fd : FuncData} {ps : List Str} {sp : Sp} (F : FnOk P w K mg base CX j f fd ps sp) (h : j ≤ k) : FnOk P w K mg base CX k f fd ps sp :=
  ⟨F.len, fun A outer s H args us vs Q E hr e0 hb r q => F.run A outer s H args us vs Q E (hr.mono h) e0 hb r q⟩
theorem all_mk {l : PySem.W.OpenLaw} {w : World} {K : PySem.W.Frag} {h : Heap} {mg : Str → Option Value} {fa f1 f2 f3 f4 f5 f6 f7 f8 f9 f10 f11 f12 f13 f14 f15 f16 f17 f18 : Addr} (X : K.In h) (G : h.Ns mainGlobals mg) (hfa : mg "law" = some (.ref fa))
    {od1 an1 od2 an2 od3 an3 od4 an4 od5 an5 od6 an6 od7 an7 od8 an8 od9 an9 od10 an10 od11 an11 od12 an12 od13 an13 od14 an14 od15 an15 od16 an16 od17 an17 od18 an18 : Option Addr} {sl1 sl2 sl3 sl4 sl5 sl6 sl7 sl8 sl9 sl10 sl11 sl12 sl13 sl14 sl15 sl16 sl17 sl18 : Array (Option Value)} {oc1 kV1 dc1 pm1 cd1 ct1 oc2 kV2 dc2 pm2 cd2 ct2 oc3 kV3 dc3 pm3 cd3 ct3 oc4 kV4 dc4 pm4 cd4 ct4 oc5 kV5 dc5 pm5 cd5 ct5 oc6 kV6 dc6 pm6 cd6 ct6 oc7 kV7 dc7 pm7 cd7 ct7 oc8 kV8 dc8 pm8 cd8 ct8 oc9 kV9 dc9 pm9 cd9 ct9 oc10 kV10 dc10 pm10 cd10 ct10 oc11 kV11 dc11 pm11 cd11 ct11 oc12 kV12 dc12 pm12 cd12 ct12 oc13 kV13 dc13 pm13 cd13 ct13 oc14 kV14 dc14 pm14 cd14 ct14 oc15 kV15 dc15 pm15 cd15 ct15 oc16 kV16 dc16 pm16 cd16 ct16 oc17 kV17 dc17 pm17 cd17 ct17 oc18 kV18 dc18 pm18 cd18 ct18 : Value}
    (a1 : PySem.W.nsIn K mainGlobals "is_place" = some (some (.ref f1))) (l1 : K.lookup f1 = some ⟨oc1, od1, .func (PySem.W.fnOf "is_place" "is_place" (defArgs sPlace) (defBody sPlace) (defScope sPlace) .none kV1 dc1 pm1 an1 cd1 ct1), sl1⟩) (c1 : PySem.W.codeIn K cd1 "is_place" = true) (k1 : PySem.W.keepIn K (.ref f1) = true)
    (a2 : PySem.W.nsIn K mainGlobals "is_step" = some (some (.ref f2))) (l2 : K.lookup f2 = some ⟨oc2, od2, .func (PySem.W.fnOf "is_step" "is_step" (defArgs sStep) (defBody sStep) (defScope sStep) .none kV2 dc2 pm2 an2 cd2 ct2), sl2⟩) (c2 : PySem.W.codeIn K cd2 "is_step" = true) (k2 : PySem.W.keepIn K (.ref f2) = true)
    (a3 : PySem.W.nsIn K mainGlobals "is_journey" = some (some (.ref f3))) (l3 : K.lookup f3 = some ⟨oc3, od3, .func (PySem.W.fnOf "is_journey" "is_journey" (defArgs sJour) (defBody sJour) (defScope sJour) .none kV3 dc3 pm3 an3 cd3 ct3), sl3⟩) (c3 : PySem.W.codeIn K cd3 "is_journey" = true) (k3 : PySem.W.keepIn K (.ref f3) = true)
    (a4 : PySem.W.nsIn K mainGlobals "steps_of" = some (some (.ref f4))) (l4 : K.lookup f4 = some ⟨oc4, od4, .func (PySem.W.fnOf "steps_of" "steps_of" (defArgs sSteps) (defBody sSteps) (defScope sSteps) .none kV4 dc4 pm4 an4 cd4 ct4), sl4⟩) (c4 : PySem.W.codeIn K cd4 "steps_of" = true) (k4 : PySem.W.keepIn K (.ref f4) = true)
    (a5 : PySem.W.nsIn K mainGlobals "_law_box" = some (some (.ref f5))) (l5 : K.lookup f5 = some ⟨oc5, od5, .func (PySem.W.fnOf "_law_box" "_law_box" (defArgs sBox) (defBody sBox) (defScope sBox) .none kV5 dc5 pm5 an5 cd5 ct5), sl5⟩) (c5 : PySem.W.codeIn K cd5 "_law_box" = true) (k5 : PySem.W.keepIn K (.ref f5) = true)
    (a6 : PySem.W.nsIn K mainGlobals "_law_take" = some (some (.ref f6))) (l6 : K.lookup f6 = some ⟨oc6, od6, .func (PySem.W.fnOf "_law_take" "_law_take" (defArgs sTake) (defBody sTake) (defScope sTake) .none kV6 dc6 pm6 an6 cd6 ct6), sl6⟩) (c6 : PySem.W.codeIn K cd6 "_law_take" = true) (k6 : PySem.W.keepIn K (.ref f6) = true)
    (a7 : PySem.W.nsIn K mainGlobals "_law_cells" = some (some (.ref f7))) (l7 : K.lookup f7 = some ⟨oc7, od7, .func (PySem.W.fnOf "_law_cells" "_law_cells" (defArgs sCells) (defBody sCells) (defScope sCells) .none kV7 dc7 pm7 an7 cd7 ct7), sl7⟩) (c7 : PySem.W.codeIn K cd7 "_law_cells" = true) (k7 : PySem.W.keepIn K (.ref f7) = true)
    (a8 : PySem.W.nsIn K mainGlobals "_law_of" = some (some (.ref f8))) (l8 : K.lookup f8 = some ⟨oc8, od8, .func (PySem.W.fnOf "_law_of" "_law_of" (defArgs sOf) (defBody sOf) (defScope sOf) .none kV8 dc8 pm8 an8 cd8 ct8), sl8⟩) (c8 : PySem.W.codeIn K cd8 "_law_of" = true) (k8 : PySem.W.keepIn K (.ref f8) = true)
    (a9 : PySem.W.nsIn K mainGlobals "_law_pick" = some (some (.ref f9))) (l9 : K.lookup f9 = some ⟨oc9, od9, .func (PySem.W.fnOf "_law_pick" "_law_pick" (defArgs sPick) (defBody sPick) (defScope sPick) .none kV9 dc9 pm9 an9 cd9 ct9), sl9⟩) (c9 : PySem.W.codeIn K cd9 "_law_pick" = true) (k9 : PySem.W.keepIn K (.ref f9) = true)
    (a10 : PySem.W.nsIn K mainGlobals "_law_same" = some (some (.ref f10))) (l10 : K.lookup f10 = some ⟨oc10, od10, .func (PySem.W.fnOf "_law_same" "_law_same" (defArgs sSame) (defBody sSame) (defScope sSame) .none kV10 dc10 pm10 an10 cd10 ct10), sl10⟩) (c10 : PySem.W.codeIn K cd10 "_law_same" = true) (k10 : PySem.W.keepIn K (.ref f10) = true)
    (a11 : PySem.W.nsIn K mainGlobals "_law_tags" = some (some (.ref f11))) (l11 : K.lookup f11 = some ⟨oc11, od11, .func (PySem.W.fnOf "_law_tags" "_law_tags" (defArgs sTags) (defBody sTags) (defScope sTags) .none kV11 dc11 pm11 an11 cd11 ct11), sl11⟩) (c11 : PySem.W.codeIn K cd11 "_law_tags" = true) (k11 : PySem.W.keepIn K (.ref f11) = true)
    (a12 : PySem.W.nsIn K mainGlobals "_law_walk" = some (some (.ref f12))) (l12 : K.lookup f12 = some ⟨oc12, od12, .func (PySem.W.fnOf "_law_walk" "_law_walk" (defArgs sWalk) (defBody sWalk) (defScope sWalk) .none kV12 dc12 pm12 an12 cd12 ct12), sl12⟩) (c12 : PySem.W.codeIn K cd12 "_law_walk" = true) (k12 : PySem.W.keepIn K (.ref f12) = true)
    (a13 : PySem.W.nsIn K mainGlobals "_law_is_tag" = some (some (.ref f13))) (l13 : K.lookup f13 = some ⟨oc13, od13, .func (PySem.W.fnOf "_law_is_tag" "_law_is_tag" (defArgs sIsTag) (defBody sIsTag) (defScope sIsTag) .none kV13 dc13 pm13 an13 cd13 ct13), sl13⟩) (c13 : PySem.W.codeIn K cd13 "_law_is_tag" = true) (k13 : PySem.W.keepIn K (.ref f13) = true)
    (a14 : PySem.W.nsIn K mainGlobals "_law_is_row" = some (some (.ref f14))) (l14 : K.lookup f14 = some ⟨oc14, od14, .func (PySem.W.fnOf "_law_is_row" "_law_is_row" (defArgs sIsRow) (defBody sIsRow) (defScope sIsRow) .none kV14 dc14 pm14 an14 cd14 ct14), sl14⟩) (c14 : PySem.W.codeIn K cd14 "_law_is_row" = true) (k14 : PySem.W.keepIn K (.ref f14) = true)
    (a15 : PySem.W.nsIn K mainGlobals "_law_spoilt" = some (some (.ref f15))) (l15 : K.lookup f15 = some ⟨oc15, od15, .func (PySem.W.fnOf "_law_spoilt" "_law_spoilt" (defArgs sSpoilt) (defBody sSpoilt) (defScope sSpoilt) .none kV15 dc15 pm15 an15 cd15 ct15), sl15⟩) (c15 : PySem.W.codeIn K cd15 "_law_spoilt" = true) (k15 : PySem.W.keepIn K (.ref f15) = true)
    (a16 : PySem.W.nsIn K mainGlobals "_law_by_hand_right" = some (some (.ref f16))) (l16 : K.lookup f16 = some ⟨oc16, od16, .func (PySem.W.fnOf "_law_by_hand_right" "_law_by_hand_right" (defArgs sHand) (defBody sHand) (defScope sHand) .none kV16 dc16 pm16 an16 cd16 ct16), sl16⟩) (c16 : PySem.W.codeIn K cd16 "_law_by_hand_right" = true) (k16 : PySem.W.keepIn K (.ref f16) = true)
    (a17 : PySem.W.nsIn K mainGlobals "_law_right" = some (some (.ref f17))) (l17 : K.lookup f17 = some ⟨oc17, od17, .func (PySem.W.fnOf "_law_right" "_law_right" (defArgs sRight) (defBody sRight) (defScope sRight) .none kV17 dc17 pm17 an17 cd17 ct17), sl17⟩) (c17 : PySem.W.codeIn K cd17 "_law_right" = true) (k17 : PySem.W.keepIn K (.ref f17) = true)
    (a18 : PySem.W.nsIn K mainGlobals "law" = some (some (.ref f18))) (l18 : K.lookup f18 = some ⟨oc18, od18, .func (PySem.W.fnOf "law" "law" (defArgs sLaw) (defBody sLaw) (defScope sLaw) .none kV18 dc18 pm18 an18 cd18 ct18), sl18⟩) (c18 : PySem.W.codeIn K cd18 "law" = true) (k18 : PySem.W.keepIn K (.ref f18) = true)
    (z1 : PySem.W.nsIn K mainGlobals "tuple" = some none)
    (z2 : PySem.W.nsIn K mainGlobals "zip" = some none)
    (z3 : PySem.W.nsIn K mainGlobals "enumerate" = some none)
    (z4 : PySem.W.nsIn K mainGlobals "len" = some none)
    (z5 : PySem.W.nsIn K mainGlobals "abs" = some none)
    (z6 : PySem.W.nsIn K mainGlobals "int" = some none)
    (z7 : PySem.W.nsIn K mainGlobals "list" = some none)
    (z8 : PySem.W.nsIn K mainGlobals "range" = some none)
    (z9 : PySem.W.nsIn K mainGlobals "min" = some none)
    (z10 : PySem.W.nsIn K mainGlobals "isinstance" = some none)
    (z11 : PySem.W.nsIn K mainGlobals "all" = some none)
    (z12 : PySem.W.nsIn K mainGlobals "bool" = some none)
    (z13 : PySem.W.nsIn K mainGlobals "str" = some none)
    (z14 : PySem.W.nsIn K mainGlobals "repr" = some none)
    {tL : Tok} (aL : PySem.W.nsIn K mainGlobals "LETTERS" = some (some (.str "abcdefghijklmnopqrstuvwxyz" tL)))
    {tM : Tok} (aM : PySem.W.nsIn K mainGlobals "LONGEST" = some (some (.int 8 tM))) :
    ∃ fd : FuncData, (∀ (s : Shared) (v : Value), BindsTo s fd ⟨[v], []⟩ [("_law_script", v)]) ∧ ∀ base : Heap, K.In base → base.Ns mainGlobals mg → FnG l.prog w K mg base 6 fa fd ["_law_script"] (spLaw K) := by
  have e := hfa.symm.trans (PySem.W.mg_of X G a18)
  cases e
  have F1 := fun_mk (st := sPlace) l1 c1 k1
  have b1 := F1.binds (ps := ["thing"]) fun _ _ _ _ _ _ us hl => match us, hl with | [_], _ => rfl
  have m1 := PySem.W.mg_of X G a1
  have F2 := fun_mk (st := sStep) l2 c2 k2
  have b2 := F2.binds (ps := ["thing"]) fun _ _ _ _ _ _ us hl => match us, hl with | [_], _ => rfl
  have m2 := PySem.W.mg_of X G a2
  have F3 := fun_mk (st := sJour) l3 c3 k3
  have b3 := F3.binds (ps := ["thing"]) fun _ _ _ _ _ _ us hl => match us, hl with | [_], _ => rfl
  have m3 := PySem.W.mg_of X G a3
  have F4 := fun_mk (st := sSteps) l4 c4 k4
  have b4 := F4.binds (ps := ["journey"]) fun _ _ _ _ _ _ us hl => match us, hl with | [_], _ => rfl
  have m4 := PySem.W.mg_of X G a4
  have F5 := fun_mk (st := sBox) l5 c5 k5
  have b5 := F5.binds (ps := ["_law_script", "_law_k"]) fun _ _ _ _ _ _ us hl => match us, hl with | [_, _], _ => rfl
  have m5 := PySem.W.mg_of X G a5
  have F6 := fun_mk (st := sTake) l6 c6 k6
  have b6 := F6.binds (ps := ["_law_box_here", "_law_below"]) fun _ _ _ _ _ _ us hl => match us, hl with | [_, _], _ => rfl
  have m6 := PySem.W.mg_of X G a6
  have F7 := fun_mk (st := sCells) l7 c7 k7
  have b7 := F7.binds (ps := ["_law_script", "_law_most_so"]) fun _ _ _ _ _ _ us hl => match us, hl with | [_, _], _ => rfl
  have m7 := PySem.W.mg_of X G a7
  have F8 := fun_mk (st := sOf) l8 c8 k8
  have b8 := F8.binds (ps := ["_law_box_here", "_law_some"]) fun _ _ _ _ _ _ us hl => match us, hl with | [_, _], _ => rfl
  have m8 := PySem.W.mg_of X G a8
  have F9 := fun_mk (st := sPick) l9 c9 k9
  have b9 := F9.binds (ps := ["_law_box_here", "_law_pool_so", "_law_many_so"]) fun _ _ _ _ _ _ us hl => match us, hl with | [_, _, _], _ => rfl
  have m9 := PySem.W.mg_of X G a9
  have F10 := fun_mk (st := sSame) l10 c10 k10
  have b10 := F10.binds (ps := ["_law_got", "_law_due"]) fun _ _ _ _ _ _ us hl => match us, hl with | [_, _], _ => rfl
  have m10 := PySem.W.mg_of X G a10
  have F11 := fun_mk (st := sTags) l11 c11 k11
  have b11 := F11.binds (ps := ["_law_box_here", "_law_many_so"]) fun _ _ _ _ _ _ us hl => match us, hl with | [_, _], _ => rfl
  have m11 := PySem.W.mg_of X G a11
  have F12 := fun_mk (st := sWalk) l12 c12 k12
  have b12 := F12.binds (ps := ["_law_box_here", "_law_tags_here", "_law_most_so"]) fun _ _ _ _ _ _ us hl => match us, hl with | [_, _, _], _ => rfl
  have m12 := PySem.W.mg_of X G a12
  have F13 := fun_mk (st := sIsTag) l13 c13 k13
  have b13 := F13.binds (ps := ["_law_matter"]) fun _ _ _ _ _ _ us hl => match us, hl with | [_], _ => rfl
  have m13 := PySem.W.mg_of X G a13
  have F14 := fun_mk (st := sIsRow) l14 c14 k14
  have b14 := F14.binds (ps := ["_law_matter"]) fun _ _ _ _ _ _ us hl => match us, hl with | [_], _ => rfl
  have m14 := PySem.W.mg_of X G a14
  have F15 := fun_mk (st := sSpoilt) l15 c15 k15
  have b15 := F15.binds (ps := ["_law_box_here", "_law_row_so"]) fun _ _ _ _ _ _ us hl => match us, hl with | [_, _], _ => rfl
  have m15 := PySem.W.mg_of X G a15
  have F16 := fun_mk (st := sHand) l16 c16 k16
  have b16 := F16.binds (ps := []) fun _ _ _ _ _ _ us hl => match us, hl with | [], _ => rfl
  have m16 := PySem.W.mg_of X G a16
  have F17 := fun_mk (st := sRight) l17 c17 k17
  have b17 := F17.binds (ps := ["_law_box_here"]) fun _ _ _ _ _ _ us hl => match us, hl with | [_], _ => rfl
  have m17 := PySem.W.mg_of X G a17
  have F18 := fun_mk (st := sLaw) l18 c18 k18
  have y1 := PySem.W.mg_none_of X G z1
  have y2 := PySem.W.mg_none_of X G z2
  have y3 := PySem.W.mg_none_of X G z3
  have y4 := PySem.W.mg_none_of X G z4
  have y5 := PySem.W.mg_none_of X G z5
  have y6 := PySem.W.mg_none_of X G z6
  have y7 := PySem.W.mg_none_of X G z7
  have y8 := PySem.W.mg_none_of X G z8
  have y9 := PySem.W.mg_none_of X G z9
  have y10 := PySem.W.mg_none_of X G z10
  have y11 := PySem.W.mg_none_of X G z11
  have y12 := PySem.W.mg_none_of X G z12
  have y13 := PySem.W.mg_none_of X G z13
  have y14 := PySem.W.mg_none_of X G z14
  refine ⟨PySem.W.fnOf "law" "law" (defArgs sLaw) (defBody sLaw) (defScope sLaw) .none kV18 dc18 pm18 an18 cd18 ct18, fun s v => .of_eq rfl, fun base _ _ => ?_⟩
  have mL := PySem.W.mg_of X G aL
  have mM := PySem.W.mg_of X G aM
  have T : SmT mg := ⟨y10, y7, y1, y4, y11, y2, y12, y13, y6⟩
  have gS : FnOk l.prog w K mg base CX0 1 f4 _ ["journey"] (spSteps K) := ok_steps F4 y1 y2
  have gP : FnOk l.prog w K mg base CX0 1 f1 _ ["thing"] (spPlace K) := ok_place F1 T mL ⟨_, rfl⟩ mM ⟨_, rfl⟩
  have gJ : FnOk l.prog w K mg base CX0 2 f3 _ ["thing"] (spJour K) := ok_jour F3 T gP b1 k1 m1 gS b4 k4 m4
  have gI : FnOk l.prog w K mg base CX0 3 f2 _ ["thing"] (spStep K) := ok_step F2 T gJ b3 k3 m3
  have gM1 : FnOk l.prog w K mg base CX0 1 f10 _ ["_law_got", "_law_due"] (spSame K 1) := ok_same F10 same_none b10 m10 T
  have gM2 := ok_same F10 gM1 b10 m10 T
  have gM3 := ok_same F10 gM2 b10 m10 T
  have gM4 := ok_same F10 gM3 b10 m10 T
  have gH : FnOk l.prog w K mg base CX0 5 f16 _ [] spTrue := ok_hand F16 T y8 gM4 b10 k10 m10 (fn_up gJ (show 2 ≤ 4 by decide)) b3 k3 m3 (kb1 F3 fun _ _ _ _ _ _ _ => rfl) (fn_up gI (show 3 ≤ 4 by decide)) b2 k2 m2 (kb1 F2 fun _ _ _ _ _ _ _ => rfl) (fn_up gP (show 1 ≤ 4 by decide)) b1 k1 m1 (kb1 F1 fun _ _ _ _ _ _ _ => rfl)
  have gT : FnOk l.prog w K mg base CX0 1 f13 _ ["_law_matter"] (spTag K) := ok_istag F13 T
  have gR : FnOk l.prog w K mg base CX0 2 f14 _ ["_law_matter"] (spRow K) := ok_isrow F14 T y8 gT b13 k13 m13
  have gK : FnOk l.prog w K mg base CX0 1 f6 _ ["_law_box_here", "_law_below"] spTake := ok_take F6 y6
  have gO : FnOk l.prog w K mg base CX0 2 f8 _ ["_law_box_here", "_law_some"] (spOf K) := ok_of F8 gK b6 k6 m6 y4
  have gC : FnOk l.prog w K mg base CX0 2 f9 _ ["_law_box_here", "_law_pool_so", "_law_many_so"] (spPick K) := ok_pick F9 gK b6 k6 m6 y4 y7 y8 y9
  have gG : FnOk l.prog w K mg base CX0 3 f11 _ ["_law_box_here", "_law_many_so"] (spTags K) := ok_tags F11 gK b6 k6 m6 gC b9 k9 m9
  have gW : FnOk l.prog w K mg base CX0 3 f12 _ ["_law_box_here", "_law_tags_here", "_law_most_so"] (spWalk K) := ok_walk F12 gK b6 k6 m6 gO b8 k8 m8 y8 y4 y1
  have gX : FnOk l.prog w K mg base CX0 3 f15 _ ["_law_box_here", "_law_row_so"] (spSpoilt K) := ok_spoilt F15 T (fn_up gK (show 1 ≤ 2 by decide)) b6 k6 m6 gO b8 k8 m8
  have R4 : RiG l.prog w K mg base 4 := ⟨fn_up gG (show 3 ≤ 4 by decide), fn_up gW (show 3 ≤ 4 by decide), fn_up gJ (show 2 ≤ 4 by decide), fn_up gI (show 3 ≤ 4 by decide), fn_up gR (show 2 ≤ 4 by decide), fn_up gX (show 3 ≤ 4 by decide), gM4, b11, b12, b3, b2, b14, b15, b10, k11, k12, k3, k2, k14, k15, k10, m11, m12, m3, m2, m14, m15, m10⟩
  have gZ : FnG l.prog w K mg base 5 f17 _ ["_law_box_here"] spRight := ok_right F17 R4 T y8 y14
  have gE : FnOk l.prog w K mg base CX0 5 f7 _ ["_law_script", "_law_most_so"] (spCells K) := ok_cells F7 y7 y3 y6
  have gB : FnOk l.prog w K mg base CX0 5 f5 _ ["_law_script", "_law_k"] (spBox K) := ok_box F5 y4 y5 y6
  exact ok_law F18 gH b16 k16 m16 gE b7 k7 m7 gZ b17 k17 m17 gB b5 k5 m5 y8 y11 y4
theorem walk {l : PySem.W.OpenLaw} {q : Program} {loose : List Str} {XP : (Str → Option Value) → Heap → Prop} {YP : World → Heap → Prop} {d : DefRec} {K : Params → PySem.W.Frag} (hn : l.most = some 63) (hdf : d.params.defaults = [])
    (hY : ∀ (w : World) (h : Heap), YP w h → (K w.params).In h)
    (F : ∀ (w : World) (mg : Str → Option Value) (fa : Addr) (h : Heap), (K w.params).In h → h.Ns mainGlobals mg → mg d.name = some (.ref fa) →
      ∃ fd : FuncData, (∀ (s : Shared) (u : Value), BindsTo s fd ⟨[u], []⟩ [("_law_script", u)]) ∧ ∀ base : Heap, (K w.params).In base → base.Ns mainGlobals mg → FnG l.prog w (K w.params) mg base 6 fa fd ["_law_script"] (spLaw (K w.params))) :
    PySem.W.WalkO q loose XP YP l.row.toRowW d [] (fun f vs => PySem.call f vs) :=
  walk_ofG (n := 63) (k := 6) (x := "_law_script") (sp := fun w => spLaw (K w.params)) hn (by decide) hdf ⟨rfl, by decide, by decide⟩ hY F fun _ _ a ns hl hS => ⟨a, ns, rfl, hS, hl, fun _ => rfl⟩
end K00
open PySem PySem.W PyProof.Rows in
set_option maxRecDepth 100000 in
set_option maxHeartbeats 0 in
theorem PySem.Challenge.cw_countedsteps_k00_journeys_or_not_holds : PySem.Challenge.rw_countedsteps_k00_journeys_or_not.Holds := by
  w_on; o_law; k_head; (case hw => w_witness2)
  k_fill
  refine K00.walk (l := PySem.Challenge.rw_countedsteps_k00_journeys_or_not) rfl rfl (fun w h Y => PySem.W.kIn_of Y) ?F
  case F =>
    intro w mg fa h KX G hmg
    refine' K00.all_mk KX G hmg ?a1 ?l1 ?c1 ?k1 ?a2 ?l2 ?c2 ?k2 ?a3 ?l3 ?c3 ?k3 ?a4 ?l4 ?c4 ?k4 ?a5 ?l5 ?c5 ?k5 ?a6 ?l6 ?c6 ?k6 ?a7 ?l7 ?c7 ?k7 ?a8 ?l8 ?c8 ?k8 ?a9 ?l9 ?c9 ?k9 ?a10 ?l10 ?c10 ?k10 ?a11 ?l11 ?c11 ?k11 ?a12 ?l12 ?c12 ?k12 ?a13 ?l13 ?c13 ?k13 ?a14 ?l14 ?c14 ?k14 ?a15 ?l15 ?c15 ?k15 ?a16 ?l16 ?c16 ?k16 ?a17 ?l17 ?c17 ?k17 ?a18 ?l18 ?c18 ?k18 ?z1 ?z2 ?z3 ?z4 ?z5 ?z6 ?z7 ?z8 ?z9 ?z10 ?z11 ?z12 ?z13 ?z14 ?aL ?aM
    (case a1 => k_is); (case l1 => k_is); (case c1 => k_is); (case k1 => k_is)
    (case a2 => k_is); (case l2 => k_is); (case c2 => k_is); (case k2 => k_is)
    (case a3 => k_is); (case l3 => k_is); (case c3 => k_is); (case k3 => k_is)
    (case a4 => k_is); (case l4 => k_is); (case c4 => k_is); (case k4 => k_is)
    (case a5 => k_is); (case l5 => k_is); (case c5 => k_is); (case k5 => k_is)
    (case a6 => k_is); (case l6 => k_is); (case c6 => k_is); (case k6 => k_is)
    (case a7 => k_is); (case l7 => k_is); (case c7 => k_is); (case k7 => k_is)
    (case a8 => k_is); (case l8 => k_is); (case c8 => k_is); (case k8 => k_is)
    (case a9 => k_is); (case l9 => k_is); (case c9 => k_is); (case k9 => k_is)
    (case a10 => k_is); (case l10 => k_is); (case c10 => k_is); (case k10 => k_is)
    (case a11 => k_is); (case l11 => k_is); (case c11 => k_is); (case k11 => k_is)
    (case a12 => k_is); (case l12 => k_is); (case c12 => k_is); (case k12 => k_is)
    (case a13 => k_is); (case l13 => k_is); (case c13 => k_is); (case k13 => k_is)
    (case a14 => k_is); (case l14 => k_is); (case c14 => k_is); (case k14 => k_is)
    (case a15 => k_is); (case l15 => k_is); (case c15 => k_is); (case k15 => k_is)
    (case a16 => k_is); (case l16 => k_is); (case c16 => k_is); (case k16 => k_is)
    (case a17 => k_is); (case l17 => k_is); (case c17 => k_is); (case k17 => k_is)
    (case a18 => k_is); (case l18 => k_is); (case c18 => k_is); (case k18 => k_is)
    (case z1 => k_is)
    (case z2 => k_is)
    (case z3 => k_is)
    (case z4 => k_is)
    (case z5 => k_is)
    (case z6 => k_is)
    (case z7 => k_is)
    (case z8 => k_is)
    (case z9 => k_is)
    (case z10 => k_is)
    (case z11 => k_is)
    (case z12 => k_is)
    (case z13 => k_is)
    (case z14 => k_is)
    (case aL => k_is)
    (case aM => k_is)
#print axioms PySem.Challenge.cw_countedsteps_k00_journeys_or_not_holds
