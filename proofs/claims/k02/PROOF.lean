import PyProof.Rows.All
import Wide.All
import OpenK.AllK
import Wide.FinOn
import HandS.ForMost
import HandS.Zip
import HandS.TupAny
import KE.KRevSl
import KE.GoesNew
import KE.KDictZip
import HandS.Walk
import HandS.Conv
import HandS.Dict
import HandS.Flow
import PyProof.ReprRoads
import HandS.Ends
import HandS.ForExc
import HandS.ExcInit
import HandS.ExcIs
import HandS.ExcField
import KE.KDictPairs
import HandS.IsInst
import HandS.Text
import HandS.TupLe
import HandS.DictComp
import HandS.TryOnly
import HandS.WordsExc
import PySem.Challenge.RW_countedsteps_k02_joined_and_seen
set_option Elab.async false
set_option linter.all false
set_option maxRecDepth 100000
set_option maxHeartbeats 2000000
/-! Rules that the hand layer lacks: the reversed slice, enumerate of a tuple, tuple(zip(..)) -/
namespace CS
open PySem PySem.Spec PyProof.Rows L2
/-! ### x[::-1] -/
theorem adj_back (m : Nat) : Builtin.Slice.sliceAdjust none none (-1) (m : Int) = ((m : Int) - 1, -1) := by
  simp [Builtin.Slice.sliceAdjust]
theorem plc_back (m : Nat) : Builtin.Slice.slicePlaces ((m : Int) - 1) (-1) (-1) = m := by
  unfold Builtin.Slice.slicePlaces
  simp
  omega
theorem fm_same {α β : Type} {f g : α → Option β} : ∀ {l : List α}, (∀ a ∈ l, f a = g a) → l.filterMap f = l.filterMap g
  | [], _ => rfl
  | a :: l, h => by
    have e1 := h a (List.mem_cons_self ..)
    have e2 := fm_same (l := l) fun b hb => h b (List.mem_cons_of_mem _ hb)
    simp only [List.filterMap_cons, e1, e2]
theorem pick_back (its : Array Value) : ((List.range its.size).filterMap fun (j : Nat) => its[((its.size : Int) - 1 + (j : Int) * (-1)).toNat]?) = its.toList.reverse := by
  have q1 : (List.range its.size).filterMap (fun (j : Nat) => its[((its.size : Int) - 1 + (j : Int) * (-1)).toNat]?) = ((List.range its.size).map (fun j => its.size - 1 - j)).filterMap (its[·]?) := by
    rw [List.filterMap_map]
    refine fm_same fun j hj => ?_
    have hj' := List.mem_range.mp hj
    have e : ((its.size : Int) - 1 + (j : Int) * (-1)).toNat = its.size - 1 - j := by omega
    show its[((its.size : Int) - 1 + (j : Int) * (-1)).toNat]? = its[its.size - 1 - j]?
    rw [e]
  rw [q1, PySem.W.krv_range, List.filterMap_reverse, PySem.W.krv_all]
section
variable {prog : Program} {w : World} {A : Around} {E : Value → Shared → Prop} {s : Shared}
theorem app_back {sl : Addr} {k : Tok} {m : Nat} {Q : Int × Int × Nat → Shared → Prop} (hsl : s.heap.IsSliceOf sl .none .none (.int (-1) k)) (hq : Q ((m : Int) - 1, -1, m) s) :
    wpAny (model prog w) A (Builtin.Slice.sliceApplied (.ref sl) (pure (m : Int))) Q E s := by
  obtain ⟨ob, hob, hcl, hdt⟩ := id hsl
  unfold Builtin.Slice.sliceApplied Builtin.Slice.sliceFields
  refine wpAny_bind (wpAny_bind (wpAny_field hob hdt (x := .none) rfl (wpAny_bind (wpAny_field hob hdt (x := .none) rfl (wpAny_bind (wpAny_field hob hdt (x := .int (-1) k) rfl (wpAny_pure ?_)))))))
  refine wpAny_bind (PyProof.Rows.slicePart_int ?_)
  show wpAny _ _ (if ((-1 : Int) == 0) = true then _ else _) _ _ s
  rw [if_neg (by decide)]
  refine wpAny_bind (PyProof.Rows.slicePart_none (wpAny_bind (PyProof.Rows.slicePart_none (wpAny_bind (wpAny_pure ?_)))))
  show wpAny _ _ (match Builtin.Slice.sliceAdjust none none (-1) (m : Int) with | (lo, hi) => pure (lo, (-1 : Int), Builtin.Slice.slicePlaces lo hi (-1))) _ _ s
  rw [adj_back]
  show wpAny _ _ (pure ((m : Int) - 1, (-1 : Int), Builtin.Slice.slicePlaces ((m : Int) - 1) (-1) (-1))) _ _ s
  rw [plc_back]
  exact wpAny_pure hq
theorem tup_back {t sl : Addr} {its : Array Value} {k : Tok} {Q : Value → Shared → Prop} (ht : IsTup s.heap t its) (hsl : s.heap.IsSliceOf sl .none .none (.int (-1) k))
    (hq : Q (.ref s.heap.objs.size) { s with heap := s.heap.push { cls := .type "tuple", data := .seq its.toList.reverse.toArray } }) (hfit : its.size ≤ sizeLine) : wpAny (model prog w) A (getItem (.ref t) (.ref sl)) Q E s := by
  obtain ⟨ob, hob, hcl, hdt⟩ := id hsl
  have hty : s.TypeIs (.ref sl) "slice" := ⟨ob, hob, hcl⟩
  have hfit2 : sizeOk (.seq its.toList.reverse.toArray) := by
    show its.toList.reverse.toArray.size ≤ sizeLine
    rw [List.size_toArray, List.length_reverse, Array.length_toList]
    exact hfit
  unfold getItem
  try with_reducible refine wpAny_holding ?_
  first | refine wpAny_bind (wpAny_pure ?_) | skip
  refine wpAny_bind (wpAny_sequenceKey ht.typeIs (by decide) ?_)
  refine wpAny_bind (wpAny_callSpecial?_slot (name := Str.ofString "__getitem__") ht.typeIs PyProof.Rows.slot_tuple_getitem (wpAny_call_entry PyProof.Rows.slot_tuple_getitem ht.typeIs entry_tuple_getitem ?_ (args_tuple_getitem _ _)))
  show wpAny _ _ (Builtin.Tuple.tupleItemsOf (.ref t) >>= _) _ _ s
  refine wpAny_bind (tupleItemsOf_ ht (wpAny_bind (wpAny_typeOf hty ?_)))
  rw [if_pos (by decide)]
  refine wpAny_bind (app_back hsl ?_)
  have nope : ¬ ((((its.size : Nat) : Int) - 1 == 0 && (-1 : Int) == 1 && its.size == its.size) = true) := by
    intro q
    rw [Bool.and_eq_true, Bool.and_eq_true] at q
    exact absurd (eq_of_beq q.1.2) (by decide)
  show wpAny _ _ (if (((its.size : Nat) : Int) - 1 == 0 && (-1 : Int) == 1 && its.size == its.size) = true then _ else _) _ _ s
  rw [if_neg nope, pick_back]
  first
    | exact wpAny_bind (m := Builtin.Tuple.tupleExact _) (wpAny_newObj_type (wpAny_pure ⟨_, rfl, wpAny_pure hq⟩) hfit2)
    | exact wpAny_bind (m := Builtin.Tuple.tupleExact _) (wpAny_newObj_type (wpAny_bind (wpAny_pure (wpAny_pure ⟨_, rfl, wpAny_pure hq⟩))) hfit2)
    | exact wpAny_bind (wpAny_bind (m := Builtin.Tuple.tupleExact _) (wpAny_newObj_type (wpAny_pure (wpAny_pure ⟨_, rfl, wpAny_pure hq⟩)) hfit2))
    | exact wpAny_bind (wpAny_bind (m := Builtin.Tuple.tupleExact _) (wpAny_newObj_type (wpAny_pure ⟨_, rfl, wpAny_pure hq⟩) hfit2))
end
section
variable {X : Cx} {e st : Expr} {te ts : TE} {p2 pos : Pos}
/-- x[::-1], x a list or a tuple: a new one, turned -/
def tBack (K : PySem.W.Frag) (te ts : TE) : TE := fun σ H Q => te σ H fun x H1 => ts σ H1 fun y H2 => y = .int (-1) ∧ ∃ a xs, x = .ref a ∧ ((SqT K H2 a xs ∧ ∀ p, H2 p = none → Q (.ref p) (upd H2 p (.tup xs.reverse))) ∨ (SqL K H2 a xs ∧ ∀ p, H2 p = none → Q (.ref p) (upd H2 p (.lst xs.reverse))))
theorem vals_rev {xs : List V} {us : List Value} (h : Vals xs us) : Vals xs.reverse us.reverse := by
  induction h with
  | nil => exact .nil
  | cons r t ih =>
    rw [List.reverse_cons, List.reverse_cons]
    exact ih.append (.cons r .nil)
theorem pe_back (he : PE X e te) (hst : PE X st ts) : PE X (.Subscript e (.Slice none none (some st) p2) pos) (tBack X.K te ts) := by
  refine ⟨fun pins s0 σ H0 Q0 I0 hw => ?_⟩
  refine Subscript_ (thn (he.run pins s0 σ H0 _ I0 hw) fun v s1 ⟨x, H1, I1, r1, q1⟩ => ?_)
  refine wpAny_Slice ?_
  rw [evalPart_none]
  refine wpAny_pure (wpAny_pure ?_)
  rw [evalPart_some]
  refine thn (hst.run pins s1 σ H1 _ I1 q1) fun vs s3 ⟨y, H3, I3, r3, q3⟩ => ?_
  obtain ⟨rfl, a, xs, rfl, q⟩ := q3
  obtain ⟨tk, rfl⟩ := r3
  have I4 : Inv X pins σ H3 { s3 with heap := s3.heap.push { cls := .type "slice", data := .fields #[.none, .none, .int (-1) tk] } } := I3.kept (t' := s3.toks) fun b ob z => Heap.get?_push_of_some _ z
  cases r1
  rcases q with ⟨hx, q⟩ | ⟨hx, q⟩
  · obtain ⟨its, rv, pt, hz⟩ := I4.tuple hx
    refine tail_any (ops := [.ref a, .ref s3.heap.objs.size]) pt.typeIs PyProof.Rows.slot_tuple_getitem.lookup (tup_back pt (Heap.IsSliceOf.new ..) ?_ (by rw [List.size_toArray, ← rv.length]; exact hz)) (by with_unfolding_all rfl)
    refine ⟨.ref _, _, I4.laid (t' := s3.toks) (o := .tup xs.reverse) (fun b ob z => Heap.get?_push_of_some _ z) (Nat.le_refl _) ?_, rfl, q _ (I4.hok.fresh (Nat.le_refl _))⟩
    exact ⟨by rw [List.length_reverse]; exact hz, _, vals_rev rv, IsTup.new _ _⟩
  · obtain ⟨its, rv, pt, hz⟩ := I4.list hx
    refine tail_any (ops := [.ref a, .ref s3.heap.objs.size]) pt.isList.typeIs slot_list_getitem.lookup (wpAny_getItem_list_slice pt.isList (Heap.IsSliceOf.new ..) .none .none (.int (-1) tk) (by decide) ?_ (by rw [List.size_toArray, ← rv.length]; exact hz)) (by with_unfolding_all rfl)
    rw [PySem.W.krv_pick]
    refine ⟨.ref _, _, I4.laid (t' := s3.toks) (o := .lst xs.reverse) (fun b ob z => Heap.get?_push_of_some _ z) (Nat.le_refl _) ?_, rfl, q _ (I4.hok.fresh (Nat.le_refl _))⟩
    exact ⟨by rw [List.length_reverse]; exact hz, _, 0, vals_rev rv, Heap.get?_push_size _ rfl⟩
end
end CS
namespace CS
open PySem PySem.Spec PyProof.Rows L2
/-! ### enumerate(x) of anything whose iterator is known -/
theorem enumB_new {v : Value} {ob : Obj} {Hh : Heap → Prop} (B : Begins v ob Hh) :
    Meets (Builtin.«enumerate.__new__» ⟨[.type "enumerate", v], []⟩) (fun _ R s => Hh s.heap ∧ R (.ok (.ret (.ref (s.heap.push ob).objs.size)))
      { s with heap := (s.heap.push ob).push { cls := .type "enumerate", data := .fields #[.none, .bool false, .ref s.heap.objs.size, rawInt 0, .none, .none] } }) :=
  .of_wp fun prog w A R s hst => by
    obtain ⟨hp, gn, dr, tk, os⟩ := s; obtain ⟨hh, hR⟩ := hst
    have subE := sub_enumerate
    have itr : ∀ {A' : Around} {E : Value → Shared → Prop} {Q : Value → Shared → Prop}, Q (.ref hp.objs.size) ⟨hp.push ob, gn, dr, tk, os⟩ → wpAny (model prog w) A' (pyIter v) Q E ⟨hp, gn, dr, tk, os⟩ :=
      fun q => B.iter prog w _ _ ⟨hp, gn, dr, tk, os⟩ _ hh q
    wp_walk using itr
    refine wpAny_stack_any fun st => wpAny_pure ?_
    split
    · rename_i c _ _ _ _ _
      cases (c == Value.type "enumerate")
      · wp_walk using itr
        exact ⟨_, rfl, hR⟩
      · wp_walk using itr
        exact ⟨_, rfl, hR⟩
    · wp_walk using itr
      exact ⟨_, rfl, hR⟩
section
variable {prog : Program} {w : World} {A : Around} {E : Value → Shared → Prop} {s : Shared}
theorem enumB_call {v : Value} {ob : Obj} {Hh : Heap → Prop} {Q : Value → Shared → Prop} (B : Begins v ob Hh) (hh : Hh s.heap)
    (hq : ∀ h', IsEnum h' (s.heap.objs.size + 1) s.heap.objs.size 0 .none → h'.get? s.heap.objs.size = some ob → h'.objs.size = s.heap.objs.size + 2 →
      (∀ c u, s.heap.get? c = some u → h'.get? c = some u) → Q (.ref (s.heap.objs.size + 1)) { s with heap := h' }) :
    wpAny (model prog w) A (call (.type "enumerate") [v]) Q E s := by
  refine callType_new F.called_enumerate (by decide) (F.typeCall_enumerate_1 _) (F.newCall_enumerate_1 _) (fun obj => F.args_object_init_2 obj _) F.entry_enumerate_new (enumB_new B) ⟨hh, ?_⟩
  have sz1 : (s.heap.push ob).objs.size = s.heap.objs.size + 1 := Heap.size_push ..
  show _ ∧ _
  rw [sz1]
  have at1 : IsEnum ((s.heap.push ob).push { cls := .type "enumerate", data := .fields #[.none, .bool false, .ref s.heap.objs.size, rawInt 0, .none, .none] }) (s.heap.objs.size + 1) s.heap.objs.size 0 .none := by
    have q := Heap.get?_push_size (s.heap.push ob) (o := { cls := .type "enumerate", data := .fields #[.none, .bool false, .ref s.heap.objs.size, rawInt 0, .none, .none] }) rfl
    rw [sz1] at q
    exact q
  exact ⟨⟨_, at1, rfl⟩, hq _ at1 (Heap.get?_push_of_some _ (Heap.get?_push_size _ B.free)) (by rw [Heap.size_push, sz1]) fun c u z => Heap.get?_push_of_some _ (Heap.get?_push_of_some _ z)⟩
end
/-- the pairs (0, x), (1, y), .. of the tuple at a -/
def IteT (K : PySem.W.Frag) (a : Addr) : It :=
  ⟨fun i H => ∃ (xs : List V) (x : V), SqT K H a xs ∧ xs[i]? = some x, fun i H v H' => ∃ (T : Addr) (x : V), v = .ref T ∧ H T = none ∧ H' = upd H T (.tup [.int (i : Nat), x]) ∧ ∀ ys, SqT K H a ys → ys[i]? = some x,
   fun i H => ∃ ys : List V, SqT K H a ys ∧ ys.length ≤ i⟩
theorem turn_enumT {P : Program} {w : World} {K : PySem.W.Frag} {elts : List Expr} {kk : Nat} {tpos : Pos} (a e it : Addr) :
    Turn P w K (.Tuple elts kk tpos) (IteT K a) [e, it] e (fun i h => (∃ old, IsEnum h e it ((i : Nat) : Int) old) ∧ h.IsTupleIter it a i ∧ e ≠ it) where
  mem := by simp
  obj := fun i h st b hb => by
    obtain ⟨⟨old, he⟩, ⟨ob, ho, _, hd⟩, _⟩ := st
    have hb' : b = e ∨ b = it := by simpa using hb
    rcases hb' with rfl | rfl
    · exact ⟨_, he, fun v q => nomatch q⟩
    · exact ⟨ob, ho, fun v q => by rw [hd] at q; cases q⟩
  keep := fun i h h' st kp => by
    obtain ⟨⟨old, he⟩, hi, hne⟩ := st
    exact ⟨⟨old, kp e (by simp) _ he⟩, hi.at fun u q => kp it (by simp) u q, hne⟩
  item := by
    intro X eP ew eK cm i pins s σ H E I fpo st gg
    subst eP ew eK
    obtain ⟨⟨old, he⟩, hit, hne⟩ := st
    obtain ⟨xs, x, hsq, hx⟩ := gg
    obtain ⟨its, rv, pt, _⟩ := I.tuple hsq
    obtain ⟨u, hu, ru⟩ := rv.get hx
    have hel : e < s.heap.objs.size := Heap.lt_size he
    have hil : it < s.heap.objs.size := by obtain ⟨_, q, _⟩ := hit; exact Heap.lt_size q
    have eT : e ≠ a := fun z => by
      obtain ⟨ot, hot, hct, _⟩ := pt
      rw [← z, he] at hot
      cases hot
      exact absurd (Value.type.inj hct) (by decide)
    have iT : a ≠ it := fun z => by
      obtain ⟨oi, hoi, hci, _⟩ := hit
      obtain ⟨ot, hot, hct, _⟩ := pt
      rw [z, hoi] at hot
      cases hot
      rw [hci] at hct
      exact absurd (Value.type.inj hct) (by decide)
    have D := Draws.tuple (prog := X.prog) (w := X.w) (A := X.A.in1) (I.ok.hd cm) it a iT its.toArray
    have hlt : i < its.toArray.size := by
      have q := (List.getElem?_eq_some_iff.mp hu).1
      simpa using q
    refine wpAny_pyNext_enum_itemD D he ⟨hit, pt⟩ hlt hne (by simp [hne, eT]) fun y h' tk hP ho sn hT hsz hk => ?_
    have ey : y = u := by
      have q : its[i]? = some y := by simpa using hP
      rw [hu] at q
      exact (Option.some.inj q).symm
    subst ey
    refine ⟨_, rfl, wpAny_letOwnedTupleGo_enum (s := { s with heap := h', toks := tk + 1 }) ho fun h2 he2 sb => ?_⟩
    have hT2 : h2.get? s.heap.objs.size = some { cls := .type "tuple", data := .seq #[.int i tk, y] } := (sb.2 _ (Nat.ne_of_gt hel)).trans hT
    have nw : ObjOk X.prog X.w (upd H s.heap.objs.size (.tup [.int (i : Nat), x])) h2 s.heap.objs.size (.tup [.int (i : Nat), x]) :=
      ⟨by show 2 ≤ sizeLine; decide, [.int i tk, y], .cons ⟨_, rfl⟩ (.cons ru .nil), ⟨_, hT2, rfl, _, rfl⟩⟩
    have I1 : Inv X pins σ (upd H s.heap.objs.size (.tup [.int (i : Nat), x])) { s with heap := h2, toks := tk + 1 } :=
      I.turnedNew (ch := [e, it]) (fun b ob hb q => (sb.2 b (fun z => hb (by simp [z]))).trans (hk b ob (fun z => hb (by simp [z])) (fun z => hb (by simp [z])) q)) fpo (Nat.le_refl _) nw
    refine ⟨.ref s.heap.objs.size, _, I1, rfl, ⟨_, x, rfl, I.hok.fresh (Nat.le_refl _), rfl, fun ys hy => by rw [I.tuple_inj hy hsq]; exact hx⟩, ⟨⟨y, ?_⟩, sn.1.at fun u q => (sb.2 it (Ne.symm hne)).trans q, hne⟩, fun b hb => ?_⟩
    · have e1 : ((i + 1 : Nat) : Int) = (i : Int) + 1 := by omega
      rw [e1]
      exact he2
    · have hb' : b < s.heap.objs.size := by
        have z : b = e ∨ b = it := by simpa using hb
        rcases z with z | z
        · rw [z]; exact hel
        · rw [z]; exact hil
      rw [upd_ne (Nat.ne_of_lt hb')]
      exact (fpo b hb).1
  done := by
    intro X eP ew eK cm i pins s σ H E I fpo st gg
    subst eP ew eK
    obtain ⟨⟨old, he⟩, hit, hne⟩ := st
    obtain ⟨ys, hsq, hle⟩ := gg
    obtain ⟨its, rv, pt, _⟩ := I.tuple hsq
    obtain ⟨f0, f1, f2, f3, f4, f5⟩ := fpo it (by simp)
    have iT : a ≠ it := fun z => by
      obtain ⟨oi, hoi, hci, _⟩ := hit
      obtain ⟨ot, hot, hct, _⟩ := pt
      rw [z, hoi] at hot
      cases hot
      rw [hci] at hct
      exact absurd (Value.type.inj hct) (by decide)
    have hlen := rv.length
    have hnone : its.toArray[i]? = none := by simp; omega
    have hty : s.TypeIs (.ref e) "enumerate" := ⟨_, he, rfl⟩
    unfold pyNext
    refine wpAny_bind (wpAny_attempt (wpAny_callSpecial?_slot (name := Str.ofString "__next__") hty F.slot_enumerate_next (wpAny_call_entry F.slot_enumerate_next hty F.entry_enumerate_next ?_ (F.args_enumerate_next_1 _))))
    show wpAny _ _ (field (.ref e) 2 >>= _) _ _ _
    refine wpAny_bind (wpAny_field he rfl (x := .ref it) rfl (wpAny_bind (RZ.nextOf_tuple_end (I.ok.hd cm) hit pt hnone fun h' xx hk hx' => ?_)))
    obtain ⟨ob, ho, hcl⟩ := hx'
    refine wpAny_bind (wpAny_isInstance (T := "StopIteration") (b := true) ⟨ob, ho, hcl⟩ isSubtype_stop ?_)
    exact wpAny_pure ⟨rfl, I.turned (t' := s.toks) (fun b u hb q => hk b u hb q) f0 f1 f3 f4 f5⟩
  self := fun A i s Q E st hq => by
    obtain ⟨⟨_, he⟩, _⟩ := st
    exact wpAny_pyIter_enum he hq
def iEnumT (K : PySem.W.Frag) (ta : TA) : TI := fun σ H R => ta σ H fun vs H1 => ∃ (a : Addr) (xs : List V), vs = [.ref a] ∧ ((SqT K H1 a xs ∧ R (IteT K a) H1) ∨ (SqL K H1 a xs ∧ R (Ite K a) H1))
theorem pi_enumT {X : Cx} {e : Expr} {ta : TA} {p pos tpos : Pos} {elts : List Expr} {kk : Nat} (gE : Gl X "enumerate") (mE : X.mg "enumerate" = none) (ha : PA X [e] ta) (hs : starEach [e] X.env = [(false, eval e X.env)] := by rfl) :
    PI X (.Tuple elts kk tpos) (.Call (.Name "enumerate" p) [e] [] pos) (iEnumT X.K ta) := by
  refine ⟨fun pins s0 σ H0 R I0 hw => ?_⟩
  refine Call_ (ld_blt I0 gE mE boot_enumerate (PyProof.Rows.callWith_type1 (thn (ha.run pos pins s0 σ H0 _ I0 hw) fun us s1 ⟨vs, H1, I1, r1, q1⟩ => ?_) hs rfl))
  obtain ⟨a, xs, rfl, q⟩ := q1
  obtain ⟨u, rfl, rx⟩ := vals1 r1
  cases rx
  have fr : ∀ b, b ∈ [s1.heap.objs.size + 1, s1.heap.objs.size] → FpOk X pins H1 b := fun b hb => by
    have z : b = s1.heap.objs.size + 1 ∨ b = s1.heap.objs.size := by simpa using hb
    have hle : s1.heap.objs.size ≤ b := by omega
    exact I1.fpOk hle (I1.hok.fresh hle)
  rcases q with ⟨hq, q⟩ | ⟨hq, q⟩
  · obtain ⟨its, rv, pt, _⟩ := I1.tuple hq
    refine enumB_call (begins_tuple a its.toArray) pt fun h' he ho hsz hk => wpAny_pyIter_enum he ?_
    exact ⟨s1.heap.objs.size + 1, [s1.heap.objs.size + 1, s1.heap.objs.size], _, _, H1, rfl, I1.kept (t' := s1.toks) hk, turn_enumT a _ _, ⟨⟨_, he⟩, ⟨_, ho, rfl, rfl⟩, Nat.succ_ne_self _⟩, fr, q⟩
  · obtain ⟨its, rv, pt, _⟩ := I1.list hq
    refine enumB_call (begins_list a its.toArray) pt.isList fun h' he ho hsz hk => wpAny_pyIter_enum he ?_
    exact ⟨s1.heap.objs.size + 1, [s1.heap.objs.size + 1, s1.heap.objs.size], _, _, H1, rfl, I1.kept (t' := s1.toks) hk, turn_enum a _ _, ⟨⟨_, he⟩, ⟨_, ho, rfl, rfl⟩, Nat.succ_ne_self _⟩, fr, q⟩
theorem walk_enumT {K : PySem.W.Frag} {a : Addr} {xs : List V} : Walk (IteT K a) xs.length (fun H => SqT K H a xs) (YPair (fun i => some (.int (i : Nat))) (fun i => xs[i]?)) := by
  refine ⟨fun i _ hi q => ⟨xs, xs[i], q, by simp [hi]⟩, fun _ q => ⟨xs, q, Nat.le_refl _⟩, fun i H v H' _ q y => ?_⟩
  obtain ⟨T, x, e1, e2, e3, e4⟩ := y
  exact ⟨T, .int (i : Nat), x, e1, e2, e3, rfl, e4 xs q⟩
end CS
namespace CS
open PySem PySem.Spec PyProof.Rows L2

section
variable {prog : Program} {w : World} {A : Around} {E : Value → Shared → Prop} {s : Shared} {z TI TO T i1 i2 : Addr} {fp1 fp2 : List Addr} {n1 n2 i : Nat} {P1 P2 : Nat → Value → Prop} {St1 St2 : Nat → Heap → Prop} {f : Bool} {oT : Obj}
/-- one more of a zip whose tuple is still held by somebody -/
theorem held_item {Q : Value → Shared → Prop} (S : ZipSep2 z TI TO i1 i2 fp1 fp2) (D1 : Draws prog w A i1 fp1 n1 P1 St1) (D2 : Draws prog w A i2 fp2 n2 P2 St2)
    (hz : IsZipHeld s.heap z TI TO T f) (hT : s.heap.get? T = some oT) (hTI : IsTupOf2 s.heap TI (.ref i1) (.ref i2)) (st1 : St1 i s.heap) (st2 : St2 i s.heap) (lt1 : i < n1) (lt2 : i < n2)
    (hq : ∀ x y h' tk, P1 i x → P2 i y → IsZipHeld h' z TI TO T true → St1 (i + 1) h' → St2 (i + 1) h' → IsTupOf2 h' s.heap.objs.size x y → h'.objs.size = s.heap.objs.size + 1 →
      (∀ c u, c ≠ z → c ≠ i1 → c ≠ i2 → s.heap.get? c = some u → h'.get? c = some u) → Q (.ref s.heap.objs.size) { s with heap := h', toks := tk }) :
    wpAny (model prog w) A (Builtin.«zip.__next__» ⟨[.ref z], []⟩) (fun fin s' => ∃ v, fin = .done (.ret v) ∧ Q v s') E s := by
  obtain ⟨hp, gn, dr, tk0, os⟩ := s
  show wpAny _ _ (field (.ref z) 2 >>= _) _ _ _
  refine wpAny_bind (wpAny_field hz rfl (x := .bool false) rfl ?_)
  show wpAny _ _ (field (.ref z) 3 >>= _) _ _ _
  refine wpAny_bind (wpAny_field hz rfl (x := .ref TI) rfl (wpAny_bind (wpAny_seqItems hTI rfl ?_)))
  show wpAny _ _ (Builtin.SmallTypes.ownedTupleIsFree (.ref z) >>= _) _ _ _
  refine wpAny_bind (wpAny_tupleHeld_zip hz hT fun g1 hz1 hs1 => ?_)
  replace hs1 : Heap.SameBut z hp g1 := hs1
  simp only [Bool.false_eq_true, if_false]
  refine wpAny_bind ?_
  rw [← Array.forIn_toList]
  simp only [List.forIn_cons, List.forIn_nil]
  refine wpAny_bind (wpAny_bind (wpAny_holding ?_))
  show wpAny _ _ (Builtin.SmallTypes.nextOf (.ref i1) >>= _) _ _ ⟨g1, gn, dr, tk0, os⟩
  refine wpAny_bind (D1.item i _ _ _ lt1 (D1.over st1 hs1 S.zf1) fun x g2 tk1 hx sn1 hs2 => wpAny_pure (wpAny_pure ?_))
  replace hs2 : Heap.SameBut i1 g1 g2 := hs2
  refine wpAny_bind (wpAny_bind (wpAny_holding ?_))
  show wpAny _ _ (Builtin.SmallTypes.nextOf (.ref i2) >>= _) _ _ ⟨g2, gn, dr, tk1, os⟩
  refine wpAny_bind (D2.item i _ _ _ lt2 (D2.over (D2.over st2 hs1 S.zf2) hs2 S.sep1_2) fun y g3 tk2 hy sn2 hs3 => wpAny_pure (wpAny_pure (wpAny_pure ?_)))
  replace hs3 : Heap.SameBut i2 g2 g3 := hs3
  show wpAny _ _ (newTuple [x, y] >>= _) _ _ ⟨g3, gn, dr, tk2, os⟩
  refine wpAny_bind (wpAny_newTuple ?_)
  have esz : g3.objs.size = hp.objs.size := by rw [hs3.1, hs2.1, hs1.1]
  have hz3 : IsZipHeld g3 z TI TO T true := hs3.extBut _ _ S.zi2 (hs2.extBut _ _ S.zi1 hz1)
  have kept : ∀ c u, c ≠ z → c ≠ i1 → c ≠ i2 → hp.get? c = some u → g3.get? c = some u := fun c u c1 c2 c3 q => hs3.extBut _ _ c3 (hs2.extBut _ _ c2 (hs1.extBut _ _ c1 q))
  have j1 : St1 (i + 1) g3 := D1.over sn1 hs3 S.sep2_1
  refine wpAny_pure ⟨_, rfl, ?_⟩
  show Q (.ref g3.objs.size) _
  have tp : IsTupOf2 (g3.push { cls := .type "tuple", data := .seq #[x, y] }) g3.objs.size x y := Heap.get?_push_size _ rfl
  have sz4 : (g3.push { cls := .type "tuple", data := .seq #[x, y] }).objs.size = g3.objs.size + 1 := Heap.size_push ..
  rw [esz] at tp sz4 ⊢
  exact hq x y _ tk2 hx hy (Heap.get?_push_of_some _ hz3) (D1.frame _ _ _ j1 fun b _ u q => Heap.get?_push_of_some _ q) (D2.frame _ _ _ sn2 fun b _ u q => Heap.get?_push_of_some _ q) tp sz4 fun c u c1 c2 c3 q => Heap.get?_push_of_some _ (kept c u c1 c2 c3 q)
theorem held_end {Q : Fin → Shared → Prop} (S : ZipSep2 z TI TO i1 i2 fp1 fp2) (D1 : Draws prog w A i1 fp1 n1 P1 St1) (D2 : Draws prog w A i2 fp2 n2 P2 St2)
    (hz : IsZipHeld s.heap z TI TO T f) (hT : s.heap.get? T = some oT) (hTI : IsTupOf2 s.heap TI (.ref i1) (.ref i2)) (st1 : St1 i s.heap) (st2 : St2 i s.heap) (le1 : i ≤ n1) (le2 : i ≤ n2) (fin : i = n1 ∨ i = n2)
    (he : ∀ h' tk e, (∀ c u, c ≠ z → c ≠ i1 → c ≠ i2 → s.heap.get? c = some u → h'.get? c = some u) → (∃ u, h'.get? e = some u ∧ u.cls = .type "StopIteration") → E (.ref e) { s with heap := h', toks := tk }) :
    wpAny (model prog w) A (Builtin.«zip.__next__» ⟨[.ref z], []⟩) Q E s := by
  obtain ⟨hp, gn, dr, tk0, os⟩ := s
  show wpAny _ _ (field (.ref z) 2 >>= _) _ _ _
  refine wpAny_bind (wpAny_field hz rfl (x := .bool false) rfl ?_)
  show wpAny _ _ (field (.ref z) 3 >>= _) _ _ _
  refine wpAny_bind (wpAny_field hz rfl (x := .ref TI) rfl (wpAny_bind (wpAny_seqItems hTI rfl ?_)))
  show wpAny _ _ (Builtin.SmallTypes.ownedTupleIsFree (.ref z) >>= _) _ _ _
  refine wpAny_bind (wpAny_tupleHeld_zip hz hT fun g1 hz1 hs1 => ?_)
  replace hs1 : Heap.SameBut z hp g1 := hs1
  simp only [Bool.false_eq_true, if_false]
  refine wpAny_bind ?_
  rw [← Array.forIn_toList]
  simp only [List.forIn_cons, List.forIn_nil]
  refine wpAny_bind (wpAny_bind (wpAny_holding ?_))
  show wpAny _ _ (Builtin.SmallTypes.nextOf (.ref i1) >>= _) _ _ ⟨g1, gn, dr, tk0, os⟩
  by_cases lt1 : i < n1
  · refine wpAny_bind (D1.item i _ _ _ lt1 (D1.over st1 hs1 S.zf1) fun x g2 tk1 hx sn1 hs2 => wpAny_pure (wpAny_pure ?_))
    replace hs2 : Heap.SameBut i1 g1 g2 := hs2
    have ei : i = n2 := by omega
    refine wpAny_bind (wpAny_bind (wpAny_holding ?_))
    show wpAny _ _ (Builtin.SmallTypes.nextOf (.ref i2) >>= _) _ _ ⟨g2, gn, dr, tk1, os⟩
    refine wpAny_bind (D2.done ⟨g2, gn, dr, tk1, os⟩ _ _ (by rw [← ei]; exact D2.over (D2.over st2 hs1 S.zf2) hs2 S.sep1_2) fun q e hq hE => ?_)
    replace hq : Heap.ExtBut i2 g2 q := hq
    exact he q tk1 e (fun c u c1 c2 c3 r => hq _ _ c3 (hs2.extBut _ _ c2 (hs1.extBut _ _ c1 r))) hE
  · have ei : i = n1 := by omega
    refine wpAny_bind (D1.done ⟨g1, gn, dr, tk0, os⟩ _ _ (by rw [← ei]; exact D1.over st1 hs1 S.zf1) fun q e hq hE => ?_)
    replace hq : Heap.ExtBut i1 g1 q := hq
    exact he q tk0 e (fun c u c1 c2 c3 r => hq _ _ c2 (hs1.extBut _ _ c1 r)) hE
/-- where a zip stands ahead of its i-th turn, if what it gave is kept -/
def ZAt (z TI TO i1 i2 : Addr) (S : Addr) (St1 St2 : Nat → Heap → Prop) (i : Nat) (h : Heap) : Prop :=
  IsTupOf2 h TI (.ref i1) (.ref i2) ∧ St1 i h ∧ St2 i h ∧ ((IsZip h z TI TO .none ∧ ∃ a b, IsTupOf2 h TO a b) ∨ ∃ T f oT, IsZipHeld h z TI TO T f ∧ h.get? T = some oT ∧ T ≠ z ∧ T ≠ i1 ∧ T ≠ i2 ∧ T ≠ S)
theorem z_item {S0 : Addr} {Q : Option Value → Shared → Prop} (S : ZipSep2 z TI TO i1 i2 fp1 fp2) (D1 : Draws prog w A.in1 i1 fp1 n1 P1 St1) (D2 : Draws prog w A.in1 i2 fp2 n2 P2 St2)
    (hz : ZAt z TI TO i1 i2 S0 St1 St2 i s.heap) (hS : S0 < s.heap.objs.size) (lt1 : i < n1) (lt2 : i < n2)
    (hq : ∀ x y h' tk, P1 i x → P2 i y → ZAt z TI TO i1 i2 S0 St1 St2 (i + 1) h' → IsTupOf2 h' s.heap.objs.size x y → h'.objs.size = s.heap.objs.size + 1 →
      (∀ c u, c ≠ z → c ≠ TO → c ≠ i1 → c ≠ i2 → s.heap.get? c = some u → h'.get? c = some u) → Q (some (.ref s.heap.objs.size)) { s with heap := h', toks := tk }) :
    wpAny (model prog w) A (pyNext (.ref z)) Q E s := by
  obtain ⟨hTI, st1, st2, q⟩ := hz
  have lti1 : i1 < s.heap.objs.size := by obtain ⟨_, q⟩ := D1.live _ _ st1; exact Heap.lt_size q
  have lti2 : i2 < s.heap.objs.size := by obtain ⟨_, q⟩ := D2.live _ _ st2; exact Heap.lt_size q
  rcases q with ⟨hz, a, b, hTO⟩ | ⟨T, f, oT, hz, hT, t1, t2, t3, t4⟩
  · have ltz : z < s.heap.objs.size := Heap.lt_size hz
    refine wpAny_pyNext_zipD2_item S D1 D2 hz hTI hTO st1 st2 lt1 lt2 fun x y h' tk p1 p2 b1 b2 d1 d2 b5 b6 b7 => hq x y h' tk p1 p2 ⟨b7 _ _ S.TIz S.TITO S.TIi1 S.TIi2 hTI, d1, d2, .inr ⟨s.heap.objs.size, false, _, b1, b5, ?_⟩⟩ b5 b6 b7
    exact ⟨Nat.ne_of_gt ltz, Nat.ne_of_gt lti1, Nat.ne_of_gt lti2, Nat.ne_of_gt hS⟩
  · have hty : s.TypeIs (.ref z) "zip" := ⟨_, hz, rfl⟩
    unfold pyNext
    exact wpAny_bind (wpAny_attempt (wpAny_callSpecial?_slot (name := Str.ofString "__next__") hty F.slot_zip_next (wpAny_call_entry F.slot_zip_next hty F.entry_zip_next
      (held_item S D1 D2 hz hT hTI st1 st2 lt1 lt2 fun x y h' tk p1 p2 b1 d1 d2 b5 b6 b7 => wpAny_pure (hq x y h' tk p1 p2
        ⟨b7 _ _ S.TIz S.TIi1 S.TIi2 hTI, d1, d2, .inr ⟨T, true, oT, b1, b7 _ _ t1 t2 t3 hT, t1, t2, t3, t4⟩⟩ b5 b6 fun c u c1 _ c3 c4 q => b7 c u c1 c3 c4 q)) (F.args_zip_next_1 _))))
theorem z_end {S0 : Addr} {Q : Option Value → Shared → Prop} (S : ZipSep2 z TI TO i1 i2 fp1 fp2) (D1 : Draws prog w A.in1 i1 fp1 n1 P1 St1) (D2 : Draws prog w A.in1 i2 fp2 n2 P2 St2)
    (hz : ZAt z TI TO i1 i2 S0 St1 St2 i s.heap) (le1 : i ≤ n1) (le2 : i ≤ n2) (fin : i = n1 ∨ i = n2)
    (hq : ∀ h' tk, (∀ c u, c ≠ z → c ≠ TO → c ≠ i1 → c ≠ i2 → s.heap.get? c = some u → h'.get? c = some u) → Q none { s with heap := h', toks := tk }) : wpAny (model prog w) A (pyNext (.ref z)) Q E s := by
  obtain ⟨hTI, st1, st2, q⟩ := hz
  rcases q with ⟨hz, a, b, hTO⟩ | ⟨T, f, oT, hz, hT, t1, t2, t3, t4⟩
  · exact wpAny_pyNext_zipD2_end S D1 D2 hz hTI hTO st1 st2 le1 le2 fin hq
  · have hty : s.TypeIs (.ref z) "zip" := ⟨_, hz, rfl⟩
    unfold pyNext
    refine wpAny_bind (wpAny_attempt (wpAny_callSpecial?_slot (name := Str.ofString "__next__") hty F.slot_zip_next (wpAny_call_entry F.slot_zip_next hty F.entry_zip_next
      (held_end S D1 D2 hz hT hTI st1 st2 le1 le2 fin fun h' tk e hk hE => ?_) (F.args_zip_next_1 _))))
    obtain ⟨u, hu, hcl⟩ := hE
    exact wpAny_bind (wpAny_isInstance (T := "StopIteration") (b := true) ⟨u, hu, hcl⟩ isSubtype_stop (wpAny_pure (hq _ _ fun c v c1 _ c3 c4 q => hk c v c1 c3 c4 q)))
theorem ZAt.through {S0 : Addr} {h h' : Heap} (S : ZipSep2 z TI TO i1 i2 fp1 fp2) (D1 : Draws prog w A i1 fp1 n1 P1 St1) (D2 : Draws prog w A i2 fp2 n2 P2 St2) (n1' : S0 ∉ fp1) (n2' : S0 ∉ fp2) (nT : TI ≠ S0) (nz : z ≠ S0) (nO : TO ≠ S0)
    (hz : ZAt z TI TO i1 i2 S0 St1 St2 i h) (k : ∀ c u, c ≠ S0 → h.get? c = some u → h'.get? c = some u) : ZAt z TI TO i1 i2 S0 St1 St2 i h' := by
  obtain ⟨hTI, st1, st2, q⟩ := hz
  refine ⟨k _ _ nT hTI, D1.frame _ _ _ st1 fun b hb u e => k _ _ (fun z => n1' (z ▸ hb)) e, D2.frame _ _ _ st2 fun b hb u e => k _ _ (fun z => n2' (z ▸ hb)) e, ?_⟩
  rcases q with ⟨hz, a, b, hTO⟩ | ⟨T, f, oT, hz, hT, t1, t2, t3, t4⟩
  · exact .inl ⟨k _ _ nz hz, a, b, k _ _ nO hTO⟩
  · exact .inr ⟨T, f, oT, k _ _ nz hz, k _ _ t4 hT, t1, t2, t3, t4⟩
end
end CS
namespace CS
open PySem PySem.Spec PyProof.Rows L2
theorem zip_nolen : typeLookup (.type "zip") "__len__" = pure none := am_miss_of_fast (by decide +kernel)
theorem zip_nohint : typeLookup (.type "zip") "__length_hint__" = pure none := am_miss_of_fast (by decide +kernel)
/-- the j-th address of as holds the pair of the j-th of xs and the j-th of ys -/
def PairsAt (xs ys : List V) (as : List Addr) (H : Hp) : Prop := ∀ (j : Nat) (a : Addr) (x y : V), as[j]? = some a → xs[j]? = some x → ys[j]? = some y → H a = some (.tup [x, y])
section
variable {X : Cx} {pins : List (Addr × Obj)} {σ : L2.St} {s : Shared} {A : Around} {z TI TO i1 i2 S0 : Addr} {fp1 fp2 : List Addr} {St1 St2 : Nat → Heap → Prop} {xs ys : List V} {its1 its2 : List Value} {n1 n2 n : Nat} {H0 : Hp}
/-- what the loop that collects a zip has reached -/
structure ZGot (X : Cx) (pins : List (Addr × Obj)) (σ : L2.St) (s : Shared) (z TO i1 i2 S0 : Addr) (xs ys : List V) (H0 : Hp) (i : Nat) (h : Heap) (tk : Nat) (Hc : Hp) (acc : Array Value) (c : Nat) (as : List Addr) : Prop where
  inv : Inv X pins σ Hc { s with heap := h, toks := tk }
  lst : h.get? S0 = some { cls := .type "list", dict := none, data := .seq acc c, slots := #[] }
  acc : acc.toList = as.map Value.ref
  len : as.length = i
  fp : ∀ b ∈ [z, TO, i1, i2, S0], FpOk X pins Hc b
  same : Same H0 Hc
  good : PairsAt xs ys as Hc
theorem z_loop {R : Result → Shared → Prop} (S : ZipSep2 z TI TO i1 i2 fp1 fp2) (rx : Vals xs its1) (ry : Vals ys its2)
    (D1 : Draws X.prog X.w A.in1.in1 i1 fp1 xs.length (fun j v => its1[j]? = some v) St1) (D2 : Draws X.prog X.w A.in1.in1 i2 fp2 ys.length (fun j v => its2[j]? = some v) St2)
    (sf1 : S0 ∉ fp1) (sf2 : S0 ∉ fp2) (nT : TI ≠ S0) (nz : z ≠ S0) (nO : TO ≠ S0) (hn : n = min xs.length ys.length) (hfit : n ≤ sizeLine) (res : Value)
    (hR : ∀ h tk Hc acc c as, ZGot X pins σ s z TO i1 i2 S0 xs ys H0 n h tk Hc acc c as → R (.ok (.ret res)) { s with heap := h, toks := tk }) :
    ∀ (k i : Nat) (h : Heap) (tk : Nat) (Hc : Hp) (acc : Array Value) (c : Nat) (as : List Addr), n - i = k → i ≤ n → ZGot X pins σ s z TO i1 i2 S0 xs ys H0 i h tk Hc acc c as → ZAt z TI TO i1 i2 S0 St1 St2 i h → (∀ b ∈ [z, TO, i1, i2, S0], b < h.objs.size) →
    codeAny (model X.prog X.w) A (.builtin "list.extend.loop" ⟨[.ref S0, .ref z, res], []⟩) R { s with heap := h, toks := tk } := by
  intro k
  induction k with
  | zero =>
    intro i h tk Hc acc c as ek hi G zat low
    have ein : i = n := by omega
    subst ein
    refine codeAny_builtin F.entry_extend_loop ?_
    rw [Around.under_plainId F.plain_extend_loop _]
    show wpAny _ A.in1 (pyNext (.ref z) >>= _) _ _ _
    refine wpAny_bind (z_end S D1 D2 zat (by omega) (by omega) (by omega) fun h' tk' hk => ?_)
    have hS : z ≠ S0 ∧ i1 ≠ S0 ∧ i2 ≠ S0 := ⟨nz, fun q => sf1 (q ▸ S.mem1), fun q => sf2 (q ▸ S.mem2)⟩
    refine wpAny_pure (hR h' tk' Hc acc c as ⟨?_, hk _ _ nz.symm nO.symm hS.2.1.symm hS.2.2.symm G.lst, G.acc, G.len, G.fp, G.same, G.good⟩)
    exact G.inv.turnedL (s := { s with heap := h, toks := tk }) (t' := tk') (ch := [z, TO, i1, i2, S0]) (fun b u hb q => hk b u (fun e => hb (by simp [e])) (fun e => hb (by simp [e])) (fun e => hb (by simp [e])) (fun e => hb (by simp [e])) q) G.fp
  | succ k ih =>
    intro i h tk Hc acc c as ek hi G zat low
    have hS : z ≠ S0 ∧ i1 ≠ S0 ∧ i2 ≠ S0 := ⟨nz, fun q => sf1 (q ▸ S.mem1), fun q => sf2 (q ▸ S.mem2)⟩
    have hSlt : S0 < h.objs.size := Heap.lt_size G.lst
    refine codeAny_builtin F.entry_extend_loop ?_
    rw [Around.under_plainId F.plain_extend_loop _]
    show wpAny _ A.in1 (pyNext (.ref z) >>= _) _ _ _
    refine wpAny_bind (z_item (s := { s with heap := h, toks := tk }) S D1 D2 zat hSlt (by omega) (by omega) fun u v h' tk' hu hv zat' tp hsz hk => ?_)
    obtain ⟨x, hx, rxu⟩ : ∃ x, xs[i]? = some x ∧ RelV x u := by
      have hlt : i < xs.length := by omega
      obtain ⟨u', e1, e2⟩ := rx.get (List.getElem?_eq_getElem hlt)
      rw [e1] at hu
      cases hu
      exact ⟨_, List.getElem?_eq_getElem hlt, e2⟩
    obtain ⟨y, hy, ryv⟩ : ∃ y, ys[i]? = some y ∧ RelV y v := by
      have hlt : i < ys.length := by omega
      obtain ⟨u', e1, e2⟩ := ry.get (List.getElem?_eq_getElem hlt)
      rw [e1] at hv
      cases hv
      exact ⟨_, List.getElem?_eq_getElem hlt, e2⟩
    have hS' := hk _ _ nz.symm nO.symm hS.2.1.symm hS.2.2.symm G.lst
    have hT0 : Hc h.objs.size = none := G.inv.hok.fresh (Nat.le_refl _)
    have nw : ObjOk X.prog X.w (upd Hc h.objs.size (.tup [x, y])) h' h.objs.size (.tup [x, y]) := ⟨by show 2 ≤ sizeLine; decide, [u, v], .cons rxu (.cons ryv .nil), ⟨_, tp, rfl, _, rfl⟩⟩
    have I1 : Inv X pins σ (upd Hc h.objs.size (.tup [x, y])) { s with heap := h', toks := tk' } :=
      G.inv.turnedNew (s := { s with heap := h, toks := tk }) (t' := tk') (ch := [z, TO, i1, i2, S0]) (fun b q hb e => hk b q (fun e => hb (by simp [e])) (fun e => hb (by simp [e])) (fun e => hb (by simp [e])) (fun e => hb (by simp [e])) e) G.fp (Nat.le_refl _) nw
    have fp2' : ∀ b ∈ [z, TO, i1, i2, S0], FpOk X pins (upd Hc h.objs.size (.tup [x, y])) b := fun b hb => by
      obtain ⟨f0, fr⟩ := G.fp b hb
      refine ⟨?_, fr⟩
      have hlt : b ≠ h.objs.size := Nat.ne_of_lt (low b hb)
      rw [upd_ne hlt]
      exact f0
    show wpAny _ A.in1 (updateSeq S0 (·.push (.ref h.objs.size)) >>= _) _ _ _
    have esz : acc.size = i := by rw [← Array.length_toList, G.acc, List.length_map, G.len]
    refine wpAny_bind (wpAny_updateSeq (s := { s with heap := h', toks := tk' }) hS' rfl (wpAny_pure ⟨plainId_quiet F.plain_extend_loop _, ?_⟩) (by rw [esz]; omega) (by show (acc.push _).size ≤ sizeLine + 1; rw [Array.size_push, esz]; omega))
    have oth : ∀ b q, b ≠ S0 → h'.get? b = some q → (h'.update S0 (Obj.mapSeq (·.push (Value.ref h.objs.size)))).get? b = some q := fun b q hb e => (Heap.get?_update_other _ _ (Ne.symm hb)).trans e
    refine ih (i + 1) _ tk' (upd Hc h.objs.size (.tup [x, y])) (acc.push (.ref h.objs.size)) _ (as ++ [h.objs.size]) (by omega) (by omega) ⟨?_, Heap.get?_update_self _ hS' rfl, ?_, ?_, fp2', ?_, ?_⟩ (ZAt.through S D1 D2 sf1 sf2 nT nz nO zat' oth) (fun b hb => by
      have q := low b hb
      rw [(Heap.SameBut.update h' S0 _).1, hsz]
      exact Nat.lt_succ_of_lt q)
    · exact I1.turnedL (s := { s with heap := h', toks := tk' }) (t' := tk') (ch := [z, TO, i1, i2, S0]) (fun b q hb e => oth b q (fun e => hb (by simp [e])) e) fp2'
    · rw [Array.toList_push, G.acc, List.map_append]
      rfl
    · rw [List.length_append, G.len]
      rfl
    · exact fun b q e => by rw [upd_ne (ne_of_none (G.same b q e) hT0)]; exact G.same b q e
    · intro j a x' y' ha hx' hy'
      by_cases hj : j < i
      · have ha' : as[j]? = some a := by rw [List.getElem?_append_left (by rw [G.len]; exact hj)] at ha; exact ha
        have q := G.good j a x' y' ha' hx' hy'
        rw [upd_ne (ne_of_none q hT0)]
        exact q
      · have ej : j = i := by
          have q := (List.getElem?_eq_some_iff.mp ha).1
          rw [List.length_append, G.len, List.length_singleton] at q
          omega
        subst ej
        rw [List.getElem?_append_right (by rw [G.len]; exact Nat.le_refl _), G.len, Nat.sub_self] at ha
        have ea : h.objs.size = a := Option.some.inj ha
        rw [hx] at hx'
        rw [hy] at hy'
        cases hx'
        cases hy'
        rw [← ea]
        exact upd_same
/-- collecting a zip -/
theorem z_collect {Q : List Value → Shared → Prop} {E : Value → Shared → Prop} (S : ZipSep2 z TI TO i1 i2 fp1 fp2) (rx : Vals xs its1) (ry : Vals ys its2)
    (D1 : Draws X.prog X.w A.in1.in1 i1 fp1 xs.length (fun j v => its1[j]? = some v) St1) (D2 : Draws X.prog X.w A.in1.in1 i2 fp2 ys.length (fun j v => its2[j]? = some v) St2)
    (hn : n = min xs.length ys.length) (hfit : n ≤ sizeLine) (I : Inv X pins σ H0 s) (hz : IsZip s.heap z TI TO .none) (hTI : IsTupOf2 s.heap TI (.ref i1) (.ref i2)) (hTO : ∃ a b, IsTupOf2 s.heap TO a b) (st1 : St1 0 s.heap) (st2 : St2 0 s.heap)
    (l1 : ∀ b ∈ fp1, b < s.heap.objs.size) (l2 : ∀ b ∈ fp2, b < s.heap.objs.size) (fp0 : ∀ b ∈ [z, TO, i1, i2], FpOk X pins H0 b)
    (hq : ∀ h tk Hc as, Inv X pins σ Hc { s with heap := h, toks := tk } → as.length = n → Same H0 Hc → PairsAt xs ys as Hc → Q (as.map Value.ref) { s with heap := h, toks := tk }) :
    wpAny (model X.prog X.w) A (collect (.ref z)) Q E s := by
  have zl : z < s.heap.objs.size := Heap.lt_size hz
  have Tl : TI < s.heap.objs.size := Heap.lt_size hTI
  have Ol : TO < s.heap.objs.size := by obtain ⟨_, _, q⟩ := hTO; exact Heap.lt_size q
  have nm : ∀ {l : List Addr}, (∀ b ∈ l, b < s.heap.objs.size) → s.heap.objs.size ∉ l := fun h q => Nat.lt_irrefl _ (h _ q)
  unfold collect
  refine wpAny_bind (wpAny_runValue (codeAny_builtin F.entry_proto_collect ?_))
  rw [Around.under_plainId F.plain_proto_collect _]
  show wpAny _ A.in1 (newList [] >>= fun l => again (.builtin "list.__iadd__" ⟨[l, .ref z], []⟩)) _ _ s
  refine wpAny_bind (wpAny_newObj_type (wpAny_pure ⟨plainId_quiet F.plain_list_iadd _, codeAny_builtin F.entry_list_iadd ?_⟩))
  rw [Around.under_plainId F.plain_list_iadd _]
  have up : ∀ b u, s.heap.get? b = some u → (s.heap.push { cls := .type "list", data := .seq ([] : List Value).toArray }).get? b = some u := fun b u e => Heap.get?_push_of_some _ e
  have hL : (s.heap.push { cls := .type "list", data := .seq ([] : List Value).toArray }).get? s.heap.objs.size = some { cls := .type "list", data := .seq #[] } := Heap.get?_push_size _ rfl
  have zty : ({ s with heap := s.heap.push { cls := .type "list", data := .seq ([] : List Value).toArray } } : Shared).TypeIs (.ref z) "zip" := ⟨_, up _ _ hz, rfl⟩
  have e1 : Builtin.List.listSameRef (.ref s.heap.objs.size) (.ref z) = false := by simp [Builtin.List.listSameRef, Nat.ne_of_gt zl]
  have e2 : (Value.type "zip" == Value.type "list") = false := by decide
  have e3 : (Value.type "zip" == Value.type "tuple") = false := by decide
  show wpAny _ A.in1 (Builtin.List.listExtendWith (.ref s.heap.objs.size) (.ref z) (.ref s.heap.objs.size)) _ _ _
  unfold Builtin.List.listExtendWith
  refine wpAny_bind (wpAny_typeOf zty ?_)
  simp only [e1, e2, e3, Bool.or_false, Bool.false_eq_true, if_false]
  refine wpAny_bind (wpAny_pyIter_zip (up _ _ hz) (wpAny_bind (wpAny_holding ?_)))
  unfold Builtin.List.listLengthHint
  refine wpAny_bind (wpAny_specialOf zty zip_nolen ?_)
  show wpAny _ A.in1 (specialOf (Value.ref z) (Str.ofString "__length_hint__") >>= _) _ _ _
  refine wpAny_bind (wpAny_specialOf zty zip_nohint (wpAny_pure ?_))
  show wpAny _ A.in1 (rule "list.extend.makes-room" >>= fun _ => Builtin.List.listTouch (.ref s.heap.objs.size) >>= fun _ =>
    again (.builtin "list.extend.loop" ⟨[.ref s.heap.objs.size, .ref z, .ref s.heap.objs.size], []⟩)) _ _ _
  refine wpAny_bind (wpAny_rule (wpAny_bind ?_))
  show wpAny _ A.in1 (updateSeq s.heap.objs.size (·.push .none) >>= fun _ => updateSeq s.heap.objs.size (·.pop)) _ _ _
  refine wpAny_bind (wpAny_updateSeq hL rfl ?_)
  have hL2 := Heap.get?_update_self (Obj.mapSeq (·.push Value.none)) hL rfl
  refine wpAny_updateSeq hL2 rfl ?_
  have hL3 := Heap.get?_update_self (Obj.mapSeq (·.pop)) hL2 rfl
  have oth : ∀ b u, b ≠ s.heap.objs.size → (s.heap.push { cls := .type "list", data := .seq ([] : List Value).toArray }).get? b = some u →
      (((s.heap.push { cls := .type "list", data := .seq ([] : List Value).toArray }).update s.heap.objs.size (Obj.mapSeq (·.push Value.none))).update s.heap.objs.size (Obj.mapSeq (·.pop))).get? b = some u :=
    fun b u hb e => (Heap.get?_update_other _ _ (Ne.symm hb)).trans ((Heap.get?_update_other _ _ (Ne.symm hb)).trans e)
  have old : ∀ b u, s.heap.get? b = some u → (((s.heap.push { cls := .type "list", data := .seq ([] : List Value).toArray }).update s.heap.objs.size (Obj.mapSeq (·.push Value.none))).update s.heap.objs.size (Obj.mapSeq (·.pop))).get? b = some u :=
    fun b u e => oth b u (Nat.ne_of_lt (Heap.lt_size e)) (up b u e)
  have esz : (((s.heap.push { cls := .type "list", data := .seq ([] : List Value).toArray }).update s.heap.objs.size (Obj.mapSeq (·.push Value.none))).update s.heap.objs.size (Obj.mapSeq (·.pop))).objs.size = s.heap.objs.size + 1 := by
    rw [(Heap.SameBut.update _ _ _).1, (Heap.SameBut.update _ _ _).1, Heap.size_push]
  refine wpAny_pure ⟨plainId_quiet F.plain_extend_loop _, z_loop (X := X) (pins := pins) (σ := σ) (s := s) (xs := xs) (ys := ys) (H0 := H0) S rx ry D1 D2 (nm l1) (nm l2) (Nat.ne_of_lt Tl) (Nat.ne_of_lt zl) (Nat.ne_of_lt Ol) hn hfit _
    (fun h tk Hc acc c as G => ?_) n 0 _ s.toks H0 #[] _ [] (Nat.sub_zero _) (Nat.zero_le _) ⟨I.kept (t' := s.toks) old, hL3, rfl, rfl, fun b hb => ?_, fun _ _ e => e, fun j a x y ha => by cases ha⟩ ⟨old _ _ hTI, D1.frame _ _ _ st1 fun b _ u e => old b u e, D2.frame _ _ _ st2 fun b _ u e => old b u e, .inl ⟨old _ _ hz, ?_⟩⟩ fun b hb => ?_⟩
  · show wpAny _ A (load s.heap.objs.size >>= _) _ _ _
    refine wpAny_bind (wpAny_load G.lst (wpAny_pure ?_))
    show Q acc.toList _
    rw [G.acc]
    exact hq h tk Hc as G.inv G.len G.same G.good
  · by_cases e : b = s.heap.objs.size
    · rw [e]
      exact I.fpOk (Nat.le_refl _) (I.hok.fresh (Nat.le_refl _))
    · exact fp0 b (by
        have q : b = z ∨ b = TO ∨ b = i1 ∨ b = i2 ∨ b = s.heap.objs.size := by simpa using hb
        rcases q with q | q | q | q | q
        · simp [q]
        · simp [q]
        · simp [q]
        · simp [q]
        · exact absurd q e)
  · obtain ⟨a, b, q⟩ := hTO
    exact ⟨a, b, old _ _ q⟩
  · rw [esz]
    have q : b = z ∨ b = TO ∨ b = i1 ∨ b = i2 ∨ b = s.heap.objs.size := by simpa using hb
    rcases q with q | q | q | q | q
    · rw [q]; exact Nat.lt_succ_of_lt zl
    · rw [q]; exact Nat.lt_succ_of_lt Ol
    · rw [q]; exact Nat.lt_succ_of_lt (l1 _ S.mem1)
    · rw [q]; exact Nat.lt_succ_of_lt (l2 _ S.mem2)
    · rw [q]; exact Nat.lt_succ_self _
end
end CS
namespace CS
open PySem PySem.Spec PyProof.Rows L2
section
variable {prog : Program} {w : World} {A : Around} {E : Value → Shared → Prop} {s : Shared}
/-- what collecting an object gives, as lists of values -/
def Coll (prog : Program) (w : World) (A : Around) (s : Shared) (z : Addr) (G : Heap → Nat → List Value → Prop) : Prop :=
  ∀ (E : Value → Shared → Prop) (Q : List Value → Shared → Prop), (∀ h tk vs, G h tk vs → Q vs { s with heap := h, toks := tk }) → wpAny (model prog w) A (collect (.ref z)) Q E s
theorem tupcoll_code {Q₁ : Value → Shared → Prop} {z : Addr} {G : Heap → Nat → List Value → Prop} (hT : s.TypeIs (.ref z) "zip") (C : Coll prog w A.in1 s z G) (hfit : ∀ h tk vs, G h tk vs → vs.length ≤ sizeLine)
    (hq : ∀ h tk vs, G h tk vs → Q₁ (.ref h.objs.size) { s with heap := h.push { cls := .type "tuple", data := .seq vs.toArray }, toks := tk }) :
    codeAny (model prog w) A (.call (.builtin "tuple.__new__") ⟨[.type "tuple", .ref z], []⟩) (wants Q₁ E) s := by
  refine codeAny_of_tree ?_
  show wpAny _ A.in1 (do checkBuiltinCall "tuple.__new__" ⟨[.type "tuple", .ref z], []⟩; again (.builtin "tuple.__new__" ⟨[.type "tuple", .ref z], []⟩)) _ _ s
  refine wpAny_bind (wpAny_of_eq (F.newCall_tuple_1 _) (wpAny_pure ⟨plainId_quiet F.plain_tuple_new _, codeAny_builtin F.entry_tuple_new ?_⟩))
  rw [Around.under_plainId F.plain_tuple_new _]
  have q1 := sub_tuple_self
  have q2 := init_tuple_lookup
  have q3 := madeHere_tuple
  have cc : ∀ {E : Value → Shared → Prop} {Q : List Value → Shared → Prop}, (∀ h tk vs, G h tk vs → Q vs { s with heap := h, toks := tk }) → wpAny (model prog w) A.in1 (collect (.ref z)) Q E s := fun h => C _ _ h
  wp_walk using wpAny_typeOf hT, cc
  intro h tk vs g
  show wpAny _ _ (Builtin.Tuple.tupleExact vs.toArray >>= fun v => ret v) _ _ _
  unfold Builtin.Tuple.tupleExact
  refine wpAny_bind (wpAny_newObj_type (wpAny_pure ?_) (by show vs.toArray.size ≤ sizeLine; rw [List.size_toArray]; exact hfit h tk vs g))
  exact hq h tk vs g
theorem tupcoll_call {Q : Value → Shared → Prop} {z : Addr} {G : Heap → Nat → List Value → Prop} (hT : s.TypeIs (.ref z) "zip") (C : Coll prog w A.in1.in1 s z G) (hfit : ∀ h tk vs, G h tk vs → vs.length ≤ sizeLine)
    (hq : ∀ h tk vs, G h tk vs → Q (.ref h.objs.size) { s with heap := h.push { cls := .type "tuple", data := .seq vs.toArray }, toks := tk }) :
    wpAny (model prog w) A (call (.type "tuple") [.ref z]) Q E s := by
  refine callType_codes (Q₁ := fun obj s₁ => s₁.TypeIs obj "tuple" ∧ Q obj s₁) F.called_tuple (F.typeCall_tuple_1 _) F.entry_object_init (tupcoll_code (A := A.in1) hT C hfit fun h tk vs g => ⟨⟨_, Heap.get?_push_size _ rfl, rfl⟩, hq h tk vs g⟩) fun obj s₁ h₁ => ?_
  exact ⟨h₁.1, F.args_object_init_2 obj _, object_init_meets F.called_tuple.init.lookup F.called_tuple.made (by decide) prog w A.in1 _ s₁ ⟨h₁.1, rfl, h₁.2⟩⟩
end
section
variable {X : Cx}
/-- tuple(zip(x, y)), x and y both lists or both tuples: a new tuple of new pairs -/
def tTupZip (K : PySem.W.Frag) (ta : TA) : TE := fun σ H Q => ta σ H fun vs H1 => ∃ (a b : Addr) (xs ys : List V), vs = [.ref a, .ref b] ∧ ((SqT K H1 a xs ∧ SqT K H1 b ys) ∨ (SqL K H1 a xs ∧ SqL K H1 b ys)) ∧
  ∀ (Hc : Hp) (p : Addr) (as : List Addr), Same H1 Hc → as.length = min xs.length ys.length → PairsAt xs ys as Hc → Hc p = none → Q (.ref p) (upd Hc p (.tup (as.map V.ref)))
theorem lt_of_tuple {s : Shared} {a : Addr} {its : Array Value} (p : IsTup s.heap a its) : a < s.heap.objs.size := by
  obtain ⟨u, hu, _⟩ := p
  exact Heap.lt_size hu
theorem lt_of_plain {s : Shared} {a : Addr} {its : Array Value} (p : PlainL s.heap a its) : a < s.heap.objs.size := p.lt
theorem pe_tupZip {e e2 : Expr} {ta : TA} {p p2 pos q2 : Pos} (gT : Gl X "tuple") (mT : X.mg "tuple" = none) (gZ : Gl X "zip") (mZ : X.mg "zip" = none) (ha : PA X [e, e2] ta) (hc : X.calm = true := by rfl)
    (na : starEach [.Call (.Name "zip" p2) [e, e2] [] q2] X.env = (false, eval (.Call (.Name "zip" p2) [e, e2] [] q2) X.env) :: starEach [] X.env := by rfl)
    (hs : starEach [e, e2] X.env = (false, eval e X.env) :: starEach [e2] X.env := by rfl) (hpl : (backTo q2 (starEach [e2] X.env)).any (·.1) = false := by rfl) :
    PE X (.Call (.Name "tuple" p) [.Call (.Name "zip" p2) [e, e2] [] q2] [] pos) (tTupZip X.K ta) := by
  refine ⟨fun pins s0 σ H0 Q I0 hw => ?_⟩
  refine Call_ (ld_blt I0 gT mT boot_tuple (PyProof.Rows.callWith_type1 (PyProof.Rows.args_cons ?_ na) na))
  refine Call_ (ld_blt I0 gZ mZ PyProof.Rows.boot_zip (PyProof.Rows.callWith_type1 (thn (ha.run q2 pins s0 σ H0 _ I0 hw) fun us s1 ⟨vs, H1, I1, r1, q1⟩ => ?_) hs hpl))
  obtain ⟨a, b, xs, ys, rfl, hsq, q⟩ := q1
  obtain ⟨u1, u2, rfl, ra, rb⟩ := vals2 r1
  cases ra
  cases rb
  have hh : X.A.handled = none := I1.ok.hd hc
  have key : ∀ (o1 o2 : Obj) (F1 F2 : Heap → Prop) (its1 its2 : List Value) (St1 St2 : Nat → Heap → Prop), Begins (.ref a) o1 F1 → Begins (.ref b) o2 F2 → F1 s1.heap → F2 s1.heap → Vals xs its1 → Vals ys its2 → xs.length ≤ sizeLine → a < s1.heap.objs.size → b < s1.heap.objs.size →
      Draws X.prog X.w X.A.in1.in1.in1.in1 s1.heap.objs.size [s1.heap.objs.size, a] xs.length (fun j v => its1[j]? = some v) St1 → Draws X.prog X.w X.A.in1.in1.in1.in1 (s1.heap.objs.size + 1) [s1.heap.objs.size + 1, b] ys.length (fun j v => its2[j]? = some v) St2 →
      (∀ h', h'.get? s1.heap.objs.size = some o1 → (∀ c u, s1.heap.get? c = some u → h'.get? c = some u) → St1 0 h') → (∀ h', h'.get? (s1.heap.objs.size + 1) = some o2 → (∀ c u, s1.heap.get? c = some u → h'.get? c = some u) → St2 0 h') →
      wpAny (model X.prog X.w) X.A (call (.type "zip") [.ref a, .ref b]) (fun v s' => wpAny (model X.prog X.w) X.A (spliced (backTo pos (starEach [] X.env))) (fun vs s'' => wpAny (model X.prog X.w) X.A (call (.type "tuple") (v :: vs)) (EP X pins σ Q) X.xe s'') X.xe s') X.xe s1 := by
    intro o1 o2 F1 F2 its1 its2 St1 St2 B1 B2 f1 f2 rx ry hz al bl D1 D2 k1 k2
    refine zip_begins2 B1 B2 f1 f2 fun h' hzp hTI hTO g1 g2 hsz hk => ?_
    refine PyProof.Rows.args_nil ?_
    have I2 : Inv X pins σ H1 { s1 with heap := h' } := I1.kept (t' := s1.toks) hk
    have S := zip_sep2 (N := s1.heap.objs.size) (fp1 := [a]) (fp2 := [b]) (fun c hc => by rw [List.mem_singleton.mp hc]; exact al) (fun c hc => by rw [List.mem_singleton.mp hc]; exact bl)
    refine tupcoll_call (s := { s1 with heap := h' }) (G := fun h tk vs => ∃ Hc as, vs = as.map Value.ref ∧ Inv X pins σ Hc { s1 with heap := h, toks := tk } ∧ as.length = min xs.length ys.length ∧ Same H1 Hc ∧ PairsAt xs ys as Hc) ⟨_, hzp, rfl⟩
      (fun E' Q' hQ' => z_collect (A := X.A.in1.in1) (s := { s1 with heap := h' }) (pins := pins) (σ := σ) (n := min xs.length ys.length) S rx ry D1 D2 rfl (by omega) I2 hzp hTI ⟨_, _, hTO⟩ (k1 h' g1 hk) (k2 h' g2 hk) ?_ ?_ ?_ fun h tk Hc as J l sm pr => hQ' h tk _ ⟨Hc, as, rfl, J, l, sm, pr⟩)
      ?_ ?_
    · intro c hc
      have hc' : c = s1.heap.objs.size ∨ c = a := by simpa using hc
      show c < h'.objs.size
      rw [hsz]
      rcases hc' with e | e
      · rw [e]; exact Nat.lt_add_of_pos_right (by decide)
      · rw [e]; exact Nat.lt_of_lt_of_le al (Nat.le_add_right _ _)
    · intro c hc
      have hc' : c = s1.heap.objs.size + 1 ∨ c = b := by simpa using hc
      show c < h'.objs.size
      rw [hsz]
      rcases hc' with e | e
      · rw [e]; exact Nat.add_lt_add_left (by decide) _
      · rw [e]; exact Nat.lt_of_lt_of_le bl (Nat.le_add_right _ _)
    · intro c hc
      have hle : s1.heap.objs.size ≤ c := by
        have hc' : c = s1.heap.objs.size + 4 ∨ c = s1.heap.objs.size + 3 ∨ c = s1.heap.objs.size ∨ c = s1.heap.objs.size + 1 := by simpa using hc
        rcases hc' with e | e | e | e
        · rw [e]; exact Nat.le_add_right _ _
        · rw [e]; exact Nat.le_add_right _ _
        · rw [e]; exact Nat.le_refl _
        · rw [e]; exact Nat.le_add_right _ _
      exact I1.fpOk hle (I1.hok.fresh hle)
    · rintro h tk vs ⟨Hc, as, rfl, _, l, _, _⟩
      rw [List.length_map, l]
      omega
    · rintro h tk vs ⟨Hc, as, rfl, J, l, sm, pr⟩
      have rvs : Vals (as.map V.ref) (as.map Value.ref) := by
        clear l pr
        induction as with
        | nil => exact .nil
        | cons x t ih => exact .cons rfl ih
      refine ⟨.ref h.objs.size, upd Hc h.objs.size (.tup (as.map V.ref)), J.laid (s := { s1 with heap := h, toks := tk }) (t' := tk) (fun c u e => Heap.get?_push_of_some _ e) (Nat.le_refl _) ?_, rfl, q Hc _ as sm l pr (J.hok.fresh (Nat.le_refl _))⟩
      exact ⟨by rw [List.length_map, l]; omega, _, rvs, IsTup.new _ _⟩
  rcases hsq with ⟨hx, hy⟩ | ⟨hx, hy⟩
  · obtain ⟨its1, rx, px, hzx⟩ := I1.tuple hx
    obtain ⟨its2, ry, py, hzy⟩ := I1.tuple hy
    have ax := lt_of_tuple px
    have ay := lt_of_tuple py
    have D1 := Draws.tuple (prog := X.prog) (w := X.w) (A := X.A.in1.in1.in1.in1) hh s1.heap.objs.size a (Nat.ne_of_lt ax) its1.toArray
    have D2 := Draws.tuple (prog := X.prog) (w := X.w) (A := X.A.in1.in1.in1.in1) hh (s1.heap.objs.size + 1) b (Nat.ne_of_lt (Nat.lt_succ_of_lt ay)) its2.toArray
    have e1 : its1.toArray.size = xs.length := by rw [List.size_toArray]; exact rx.length.symm
    have e2 : its2.toArray.size = ys.length := by rw [List.size_toArray]; exact ry.length.symm
    rw [e1] at D1
    rw [e2] at D2
    simp only [List.getElem?_toArray] at D1 D2
    exact key _ _ _ _ its1 its2 _ _ (begins_tuple a its1.toArray) (begins_tuple b its2.toArray) px py rx ry hzx ax ay D1 D2 (fun h' g k => ⟨⟨_, g, rfl, rfl⟩, (show s1.heap.IsTuple a its1.toArray from px).at fun u e => k _ u e⟩) (fun h' g k => ⟨⟨_, g, rfl, rfl⟩, (show s1.heap.IsTuple b its2.toArray from py).at fun u e => k _ u e⟩)
  · obtain ⟨its1, rx, px, hzx⟩ := I1.list hx
    obtain ⟨its2, ry, py, hzy⟩ := I1.list hy
    have ax := lt_of_plain px
    have ay := lt_of_plain py
    have D1 := Draws.list (prog := X.prog) (w := X.w) (A := X.A.in1.in1.in1.in1) hh s1.heap.objs.size a (Nat.ne_of_lt ax) its1.toArray
    have D2 := Draws.list (prog := X.prog) (w := X.w) (A := X.A.in1.in1.in1.in1) hh (s1.heap.objs.size + 1) b (Nat.ne_of_lt (Nat.lt_succ_of_lt ay)) its2.toArray
    have e1 : its1.toArray.size = xs.length := by rw [List.size_toArray]; exact rx.length.symm
    have e2 : its2.toArray.size = ys.length := by rw [List.size_toArray]; exact ry.length.symm
    rw [e1] at D1
    rw [e2] at D2
    simp only [List.getElem?_toArray] at D1 D2
    exact key _ _ _ _ its1 its2 _ _ (begins_list a its1.toArray) (begins_list b its2.toArray) px.isList py.isList rx ry hzx ax ay D1 D2 (fun h' g k => ⟨⟨_, g, rfl, rfl⟩, px.isList.at fun u e => k _ u e⟩) (fun h' g k => ⟨⟨_, g, rfl, rfl⟩, py.isList.at fun u e => k _ u e⟩)
end
end CS
set_option maxHeartbeats 4000000
namespace CS
open PySem PySem.Spec PyProof.Rows L2
/-! ### defs that are called where no repr is under way -/
structure FnG (P : Program) (w : World) (K : PySem.W.Frag) (mg : Str → Option Value) (base : Heap) (k : Nat) (f : Addr) (fd : FuncData) (ps : List Str) (sp : Sp) : Prop where
  len : ∀ vs H Q E, sp vs H Q E → vs.length = ps.length
  run : ∀ (A : Around) (outer : List Env) (s : Shared) (H : Hp) (args : Args) (us : List Value) (vs : List V) (Q : VK) (E : XK), A.guards = some [] → Room k A → Env0 P w K mg base A outer s H → BindsTo s fd args (ps.zip us) → Vals vs us → sp vs H Q E →
    codeAny (model P w) A (.call (.ref f) args) (CR CX0 outer P w H s Q E) s
section
variable {K : PySem.W.Frag} {P : Program} {w : World} {mg : Str → Option Value} {base : Heap}
theorem fnG_mk {x qual : Str} {st : Stmt} {f : Addr} {fd : FuncData} {N ps : List Str} {k : Nat} {sp : Sp} (F : Fun K x qual st f fd) (S : FnScope N ps (defScope st)) (len : ∀ vs H Q E, sp vs H Q E → vs.length = ps.length)
    (body : ∀ (cdv : Value) (A : Around) (outer : List Env) (s : Shared) (H : Hp) (vs : List V) (Q : VK) (E : XK), (A.deeper (envOfC qual (defScope st) s.heap.objs.size f cdv)).guards = some [] → Room k (A.deeper (envOfC qual (defScope st) s.heap.objs.size f cdv)) → sp vs H Q E →
      ∃ t, PSs (cxOf CX0 P w K mg base N qual (defScope st) f cdv A outer s H E).nox (defBody st) t ∧ t { nx := fun _ H' => Q .non H', rt := Q } (start N vs) H) : FnG P w K mg base (k + 1) f fd ps sp := by
  obtain ⟨oc, od, kV, doc, pm, an, cdv, ct, osl, rfl, lk, hcd⟩ := F.ex
  refine ⟨len, fun A outer s H args us vs Q E hg hr e0 hb rv hsp => ?_⟩
  have ll := len _ _ _ _ hsp
  have kin : K.In s.heap := e0.mod.kin.keeps fun b o e => (e0.bs b o e).1
  have nl : s.heap.NoLimit := e0.mod.nolimit.keeps fun b o e => (e0.bs b o e).1
  have kinds : ∀ y ∈ ps.zip us, (defScope st).names.lookup y.1 = some .local ∨ ((defScope st).names.lookup y.1 = some .cell ∧ ((cellsFrom (s.heap.objs.size + 1) (defScope st).names []).lookup y.1).isSome = true) := by
    rintro ⟨n, v⟩ hy
    rcases S.par n (List.of_mem_zip hy).1 with z | z
    · exact .inl z
    · exact .inr ⟨z, PySem.W.cellsFrom_some _ _ _ (.inl z)⟩
  refine codeAny_call_function hr.depth (kin _ _ lk) rfl S.co S.gen rfl (PySem.W.codeRec_of kin hcd) (hb _ _ _ _ ?_)
  refine wpAny_newFunctionEnv_cells S.kind kinds fun env he s1 x => ?_
  subst he
  refine ⟨nl.keeps x.toInCall.keep, codeAny_func ?_⟩
  obtain ⟨t, ht, hq⟩ := body cdv A outer s H vs Q E hg (hr.deeper _) hsp
  have J := inv_start (CX := CX0) (E := E) S hr.hd e0 ll rv x
  refine wpAny_mono (ht.nox.run [] s1 (start N vs) H _ J hq) (fun fl s' z => ?_) fun e s' z => z
  have out : ∀ (σ' : L2.St) (H' : Hp) (v : V) (u : Value), Inv (cxOf CX0 P w K mg base N qual (defScope st) f cdv A outer s H E) [] σ' H' s' → RelV v u → Q v H' → CE outer P w H s Q u s' := fun σ' H' v u J rv q => ⟨v, H', J.os, J.bare, J.base, J.hok, rv, q⟩
  cases fl with
  | ret u =>
    obtain ⟨v, σ', H', J, rv, q⟩ := z
    exact out σ' H' v u J rv q
  | next =>
    obtain ⟨σ', H', J, q⟩ := z
    exact out σ' H' V.non Value.none J rfl q
  | brk => exact z.elim fun _ z => z.elim fun _ z => z.2.elim
  | cont => exact z.elim fun _ z => z.elim fun _ z => z.2.elim
theorem FnG.of {CX : CXT} {k : Nat} {f : Addr} {fd : FuncData} {ps : List Str} {sp : Sp} (F : FnOk P w K mg base CX0 k f fd ps sp) : FnG P w K mg base k f fd ps sp := ⟨F.len, fun A outer s H args us vs Q E _ => F.run A outer s H args us vs Q E⟩
theorem FnG.up {j k : Nat} {f : Addr} {fd : FuncData} {ps : List Str} {sp : Sp} (F : FnG P w K mg base j f fd ps sp) (h : j ≤ k) : FnG P w K mg base k f fd ps sp := ⟨F.len, fun A outer s H args us vs Q E hg hr => F.run A outer s H args us vs Q E hg (hr.mono h)⟩
end
section
variable {X : Cx} {k : Nat} {f : Addr} {fd : FuncData} {ps : List Str} {sp : Sp} {E : XK} {x : Str} {p pos : Pos} {e : Expr} {es : List Expr} {t : TA}
theorem pe_callG (F : FnG X.prog X.w X.K X.mg X.base k f fd ps sp) (gd : X.A.guards = some []) (hr : Room k X.A) (hg : Gl X x) (hm : X.mg x = some (.ref f)) (hk : PySem.W.keepIn X.K (.ref f) = true) (hb : Binds X.K fd ps [])
    (ha : PA X (e :: es) t) (hdb : (x == ("__debug__" : Str)) = false := by decide) (he : starEach (e :: es) X.env = (false, eval e X.env) :: starEach es X.env := by rfl) (hpl : (backTo pos (starEach es X.env)).any (·.1) = false := by rfl) :
    PE X (.Call (.Name x p) (e :: es) [] pos) (tCall sp [] E t) := by
  refine ⟨fun pins s0 σ H0 Q I0 hw => wpAny_Call_Name_kw (ld_glob I0 hg hm ?_ hdb)⟩
  refine PySem.W.callWith_K (h₀ := X.base) I0.ok.mod.kin hk (thn (ha.run pos pins s0 σ H0 _ I0 hw) fun us s1 z => ?_) he hpl
  obtain ⟨vs, H1, I1, rv, q⟩ := z
  refine ⟨I1.kIn, ?_⟩
  have q' : sp vs H1 Q E := by
    have z : sp (vs ++ []) H1 Q E := q
    rw [List.append_nil] at z
    exact z
  have ll : us.length = ps.length := by
    rw [← rv.length]
    exact F.len _ _ _ _ q'
  have bb := hb s1 us I1.kIn (by rw [List.append_nil]; exact ll)
  rw [List.append_nil] at bb
  refine wpAny_call (codeAny_mono (F.run X.A X.stack s1 H1 ⟨us, []⟩ us vs Q E gd hr I1.env0 bb rv q') fun r s' z => ?_)
  cases r with
  | error e => exact False.elim z
  | ok fl =>
    cases fl with
    | ret u => exact I1.after z
    | next => exact z.elim
    | brk => exact z.elim
    | cont => exact z.elim
/-- repr(x), x a list or a tuple of data -/
def rRepr (K : PySem.W.Frag) : List V → Hp → VK → Prop := fun xs H Q => ∃ (a : Addr) (d : PyData), xs = [.ref a] ∧ Dp K H (.ref a) d ∧ d.showable = true ∧ d.hasDict = false ∧ d.shown.length ≤ sizeLine ∧ d.depth ≤ 60 ∧ Q (.str d.shown) H
theorem call_reprD (hu : X.A.units + 64 < cLine) (gd : X.A.guards = some []) : CallR X (.builtin "repr") (rRepr X.K) := by
  intro pins s σ H xs us Q I r h
  obtain ⟨a, d, rfl, hd, hs, hn, hz, hp, q⟩ := h
  obtain ⟨u, rfl, ru⟩ := vals1 r
  obtain rfl : u = Value.ref a := ru
  obtain ⟨as, rd⟩ := Dp.reads I d (.ref a) (.ref a) hd rfl
  exact repr_of_reads' rd hs (fun z => by rw [hn] at z; cases z) gd (by omega) (fun _ _ e => e) (fun h' u tk kp => ⟨.str d.shown, H, I.kept kp, ⟨u, rfl⟩, q⟩) hz
end
end CS
set_option maxHeartbeats 4000000
namespace CS
open PySem PySem.Spec PyProof.Rows L2
section
variable {P : Program} {w : World} {K : PySem.W.Frag} {mg mb : Str → Option Value} {k : Nat} {fa a : Addr} {fd : FuncData} {x : Str} {sp : Sp} {s1 : Shared} {vs : List Value} {ns : List Int}
/-- what a law's call must tell -/
def LawEnds (P : Program) (w : World) (fa a : Addr) (s1 : Shared) : Prop :=
  codeAny (model P w) callerA (.call (.ref fa) ⟨[.ref a], []⟩) (fun r s' => r = .ok (.ret (.bool true)) ∧ OldK s1.heap s'.heap ∧ s'.os = s1.os ∧ AllBare s'.gens) s1
/-- from a tracked heap that knows the script at most -/
theorem law_from {H : Hp} (kin : K.In s1.heap) (gl : s1.heap.Ns mainGlobals mg) (bt : s1.heap.Ns builtinsNs mb) (bb : ∀ y : Str, y ≠ "__name__" → mb y = bootBuiltins y) (nl : s1.heap.NoLimit) (gz : s1.gens = #[])
    (lst : ∃ (its : Array Value) (n : Nat), s1.heap.get? a = some { cls := .type "list", data := .seq its n }) (room : Room k callerA)
    (F : ∀ base : Heap, K.In base → base.Ns mainGlobals mg → FnG P w K mg base k fa fd [x] sp) (bind : ∀ (s : Shared) (u : Value), BindsTo s fd ⟨[u], []⟩ [(x, u)])
    (ok : HOk P w H s1.heap) (only : ∀ b, H b = none ∨ ∃ o xs, H b = some (.frz o (.lst xs))) (at1 : ∀ b, H b ≠ none → b = a) (out : H a ≠ none → K.lookup a = none) (hs : sp [.ref a] H (fun v _ => v = .bl true) fun _ _ _ => False) : LawEnds P w fa a s1 := by
  have keep : ∀ (b : Addr) (o : Obj), s1.heap.get? b = some o → H b = none → (hidT s1.heap H).get? b = some o := fun b o e n => hidT_get e n
  have free : ∀ (b : Addr) (o : Obj) (es : Array DictEntry) (ep : Nat), s1.heap.get? b = some o → o.data = .dict es ep → H b = none := by
    intro b o es ep e d
    refine Classical.byContradiction fun z => ?_
    have eb := at1 b z
    obtain ⟨its, n, el⟩ := lst
    rw [eb, el] at e
    have eo := Option.some.inj e
    subst eo
    cases d
  have names : ∀ (b : Addr) (m : Str → Option Value), s1.heap.Ns b m → (hidT s1.heap H).Ns b m := by
    rintro b m ⟨o, es, ep, e, d, r⟩
    exact ⟨o, es, ep, keep b o e (free b o es ep e d), d, r⟩
  have kin2 : K.In (hidT s1.heap H) := by
    intro b o e
    refine keep b o (kin b o e) (Classical.byContradiction fun z => ?_)
    have eb := at1 b z
    rw [eb] at z e
    rw [out z] at e
    cases e
  have M : Mod K mg (hidT s1.heap H) := ⟨kin2, names _ _ gl, ⟨mb, names _ _ bt, bb⟩, by
    obtain ⟨mc, h1, h2⟩ := nl
    exact ⟨mc, names _ _ h1, h2⟩⟩
  have E0 : Env0 P w K mg (hidT s1.heap H) callerA [] s1 H := {
    frames := rfl
    mod := M
    bs := fun b o e => of_hidT e
    bsz := Nat.le_of_eq (hidT_size _ _)
    funs := trivial
    frf := fun b z => by cases z
    hok := ok
    bare := .of_eq gz }
  have run := (F _ kin2 (names _ _ gl)).run callerA [] s1 H ⟨[.ref a], []⟩ [.ref a] [.ref a] _ _ rfl room E0 (bind s1 (.ref a)) (.cons rfl .nil) hs
  refine codeAny_mono run fun r s' z => ?_
  match r, z with
  | .ok (.ret u), z =>
    obtain ⟨v, H', os, bare, un, ok2, rv, ev⟩ := z
    have ev' : v = .bl true := ev
    rw [ev'] at rv
    have eu : u = Value.bool true := rv
    refine ⟨by rw [eu], OldK.of_keep fun b o e => ?_, os, bare⟩
    rcases only b with n | ⟨o2, xs, y⟩
    · exact un.keep b o e n (fun z => by cases z) (by simp)
    · have y2 := un.frzs b o2 _ y
      have g1 := (ok b _ y).1
      have g2 := (ok2 b _ y2).1
      rw [e] at g1
      rw [g2, ← Option.some.inj g1]
  | .ok .next, z => exact z.elim
  | .ok .brk, z => exact z.elim
  | .ok .cont, z => exact z.elim
  | .error e, z => exact False.elim z
theorem law_callG (kin : K.In s1.heap) (gl : s1.heap.Ns mainGlobals mg) (bt : s1.heap.Ns builtinsNs mb) (bb : ∀ y : Str, y ≠ "__name__" → mb y = bootBuiltins y) (nl : s1.heap.NoLimit) (gz : s1.gens = #[])
    (ha : s1.heap.get? a = some { cls := .type "list", data := .seq vs.toArray }) (hi : IntsAre vs ns) (hl : ns.length ≤ sizeLine) (room : Room k callerA)
    (F : ∀ base : Heap, K.In base → base.Ns mainGlobals mg → FnG P w K mg base k fa fd [x] sp) (bind : ∀ (s : Shared) (u : Value), BindsTo s fd ⟨[u], []⟩ [(x, u)])
    (hs : ∀ H : Hp, SqL K H a (ns.map V.int) → sp [.ref a] H (fun v _ => v = .bl true) fun _ _ _ => False) : LawEnds P w fa a s1 := by
  have rv := vals_ints hi
  have ll : vs.length = ns.length := hi.length
  cases hk : K.lookup a with
  | some o =>
    have e := kin a o hk
    rw [ha] at e
    have eo := Option.some.inj e
    subst eo
    refine law_from (H := fun _ => none) kin gl bt bb nl gz ⟨_, _, ha⟩ room F bind (fun b u z => ?_) (fun b => .inl rfl) (fun b z => absurd rfl z) (fun z => absurd rfl z) (hs _ (.inr ⟨_, vs.toArray, _, hk, rfl, rfl, rfl, ?_, by simpa using rv⟩))
    · have z' : (none : Option HO) = some u := z
      cases z'
    · rw [List.size_toArray, ll]
      exact hl
  | none =>
    obtain ⟨H, eH⟩ : ∃ H : Hp, H = fun b => if b = a then some (.frz { cls := .type "list", data := .seq vs.toArray } (.lst (ns.map V.int))) else none := ⟨_, rfl⟩
    have h1 : H a = some (.frz { cls := .type "list", data := .seq vs.toArray } (.lst (ns.map V.int))) := by
      rw [eH]
      exact if_pos rfl
    have h2 : ∀ b, b ≠ a → H b = none := fun b n => by
      rw [eH]
      exact if_neg n
    refine law_from (H := H) kin gl bt bb nl gz ⟨_, _, ha⟩ room F bind (fun b u z => ?_) (fun b => ?_) (fun b z => ?_) (fun _ => hk) (hs _ (.inl (.inr ⟨_, h1⟩)))
    · by_cases n : b = a
      · rw [n, h1] at z
        have eu := Option.some.inj z
        subst eu
        rw [n]
        exact ⟨ha, by rw [List.length_map]; exact hl, vs, _, rv, ha⟩
      · rw [h2 b n] at z
        cases z
    · by_cases n : b = a
      · exact .inr ⟨_, _, by rw [n]; exact h1⟩
      · exact .inl (h2 b n)
    · exact Classical.byContradiction fun n => z (h2 b n)
end
theorem walk_ofG {l : PySem.W.OpenLaw} {n k : Nat} {q : Program} {loose : List Str} {XP : (Str → Option Value) → Heap → Prop} {YP : World → Heap → Prop} {d : DefRec} {K : Params → PySem.W.Frag} {sp : World → Sp} {x : Str}
    (hn : l.most = some n) (hn2 : n ≤ sizeLine) (hdf : d.params.defaults = []) (room : Room k callerA) (hY : ∀ (w : World) (h : Heap), YP w h → (K w.params).In h)
    (F : ∀ (w : World) (mg : Str → Option Value) (fa : Addr) (h : Heap), (K w.params).In h → h.Ns mainGlobals mg → mg d.name = some (.ref fa) →
      ∃ fd : FuncData, (∀ (s : Shared) (u : Value), BindsTo s fd ⟨[u], []⟩ [(x, u)]) ∧ ∀ base : Heap, (K w.params).In base → base.Ns mainGlobals mg → FnG l.prog w (K w.params) mg base k fa fd [x] (sp w))
    (hs : ∀ (w : World) (H : Hp) (a : Addr) (ns : List Int), ns.length ≤ n → SqL (K w.params) H a (ns.map V.int) → sp w [.ref a] H (fun v _ => v = .bl true) fun _ _ _ => False) :
    PySem.W.WalkO q loose XP YP l.row.toRowW d [] (fun f vs => PySem.call f vs) := by
  refine Att.attach_call hn hdf fun w _ s1 mg _ fa _ _ _ _ a vs ns G Y _ _ _ hmg obj nums len gz => ?_
  have kin := hY w _ Y
  obtain ⟨fd, hb, hF⟩ := F w mg fa _ kin G.T.g hmg
  exact law_callG kin G.T.g G.T.b G.T.builtins G.T.nolimit gz obj nums (Nat.le_trans len hn2) room hF hb fun H hS => hs w H a ns len hS
end CS
/-! an error that is caught and used behind its except clause: it is tracked like any other object -/
namespace CS
open PySem PySem.Spec PyProof.Rows L2
/-- at a: an error of the class cls, its dict at d -/
def XO (cls : Value) (d : Option Addr) (a : Addr) : HO := .ext fun h => ∃ (ob : Obj) (ws : Array Value), h.get? a = some ob ∧ Zc cls d ob ∧ ob.data = .fields ws
theorem xo_put {P : Program} {w : World} {H : Hp} {h : Heap} {a : Addr} {cls : Value} {d : Option Addr} {ob : Obj} {ws : Array Value} (e : h.get? a = some ob) (z : Zc cls d ob) (q : ob.data = .fields ws) : ObjOk P w H h a (XO cls d a) :=
  ⟨⟨ob, ws, e, z, q⟩, ⟨ob, e⟩, fun _ _ hx hk => by
    obtain ⟨u, v, p, r⟩ := hx
    exact ⟨u, v, hk u p, r⟩⟩
theorem xo_take {P : Program} {w : World} {H : Hp} {h : Heap} {a : Addr} {cls : Value} {d : Option Addr} (hk : HOk P w H h) (e : H a = some (XO cls d a)) : ∃ (ob : Obj) (ws : Array Value), h.get? a = some ob ∧ Zc cls d ob ∧ ob.data = .fields ws := by
  have x : ObjOk P w H h a (.ext fun h => ∃ (ob : Obj) (ws : Array Value), h.get? a = some ob ∧ Zc cls d ob ∧ ob.data = .fields ws) := hk a _ e
  exact x.1
section
variable {X : Cx} {pins : List (Addr × Obj)} {σ : L2.St} {H : Hp} {s : Shared} {a : Addr} {ob : Obj} {cls : Value} {d : Option Addr} {ws : Array Value}
/-- an error that is pinned may be tracked, if it is new -/
theorem track (I : Inv X pins σ H s) (he : s.heap.get? a = some ob) (na : H a = none) (nl : a ≠ X.env.locals) (nf : a ∉ X.fs) (hz : Zc cls d ob) (hd : ob.data = .fields ws) (n0 : X.s_0.heap.get? a = none) (np : ∀ p ∈ X.pn ++ pins, p.1 ≠ a) : Inv X pins σ (upd H a (XO cls d a)) s := by
  have away : ∀ {b : Addr} {o : HO}, H b = some o → b ≠ a := fun hb z => by
    rw [z, na] at hb
    cases hb
  have old : ∀ {b : Addr} {o : Obj}, X.s_0.heap.get? b = some o → b ≠ a := fun hb z => by
    rw [z, n0] at hb
    cases hb
  refine ⟨I.ok, I.os, I.bare, ⟨I.base.keep, I.base.slot, ?_, I.base.there, ?_, ?_, ?_⟩, I.loc, I.cell, ?_, ?_, ?_, ?_, I.len⟩
  · intro b o hb hn hx
    rw [upd_ne (old hb)]
    exact I.base.free b o hb hn hx
  · intro b xs hb
    have z := I.base.tups b xs hb
    rw [upd_ne (away z)]
    exact z
  · intro b o u hb
    have z := I.base.frzs b o u hb
    rw [upd_ne (away z)]
    exact z
  · intro b ps hb
    obtain ⟨more, z⟩ := I.base.tbls b ps hb
    refine ⟨more, ?_⟩
    rw [upd_ne (away z)]
    exact z
  · rw [upd_ne (Ne.symm nl)]
    exact I.free
  · intro x c hc
    obtain ⟨v, o, ho, hv⟩ := I.cell x c hc
    rw [upd_ne fun z => ?_]
    · exact I.freeC x c hc
    · rw [z, he] at ho
      cases ho
      rw [hd] at hv
      cases hv
  · intro p hp
    obtain ⟨q1, q2, q3⟩ := I.pin p hp
    refine ⟨q1, ?_, q3⟩
    rw [upd_ne (np p hp)]
    exact q2
  · intro b u hb
    by_cases c : b = a
    · subst c
      rw [upd_same] at hb
      cases hb
      exact xo_put he hz hd
    · rw [upd_ne c] at hb
      exact (I.hok b u hb).stay (fun _ _ _ r => r) (fun c2 r => by rw [upd_ne (away r)]; exact r) (fun c2 xs r => by rw [upd_ne (away r)]; exact r)
end
/-- what 'except C as n' wishes of an error of the body, which the suite then holds -/
def wHold (K : PySem.W.Frag) (c : Value) (i : Nat) (ts : TS) (Wout : WX) (D : Ends) : WX := fun cls d σ H => ∃ y, PySem.W.exmOne K cls c = some y ∧
  (y = true → ∀ a, H a = none → ts { nx := fun σ1 H1 => D.nx (σ1.set i none) H1, rt := D.rt, bk := fun σ1 H1 => D.bk (σ1.set i none) H1, ct := fun σ1 H1 => D.ct (σ1.set i none) H1 } (σ.set i (some (.ref a))) (upd H a (XO cls d a))) ∧ (y = false → Wout cls d σ H)
theorem again {X : Cx} {pins : List (Addr × Obj)} {σ : L2.St} {H : Hp} {s : Shared} {a : Addr} (I : Inv X pins σ H s) : Inv (X.suite a (X.pn ++ pins)) [] σ H s :=
  ⟨I.ok.suite _ _, I.os, I.bare, I.base, I.loc, I.cell, I.free, I.freeC, fun p hp => I.pin p (by rw [List.append_nil] at hp; exact hp), I.hok, I.len⟩
theorem behind {X : Cx} {pins : List (Addr × Obj)} {σ : L2.St} {H : Hp} {s : Shared} {a : Addr} (I : Inv (X.suite a (X.pn ++ pins)) [] σ H s) (ok : X.Ok) : Inv X pins σ H s :=
  ⟨ok, I.os, I.bare, I.base, I.loc, I.cell, I.free, I.freeC, fun p hp => I.pin p (by rw [List.append_nil]; exact hp), I.hok, I.len⟩
theorem ps_try_hold {X : Cx} {x n : Str} {c : Value} {i : Nat} {body suite : List Stmt} {b1 : Stmt} {np pos pos' : Pos} {tb : WX → TS} {ts : TS} {Wout : WX} (hs : X.stack = X.env :: X.outer) (hf : X.env.frame = some X.env.locals) (hex : X.ex = []) (hN : X.N.Nodup) (hi : X.N[i]? = some n)
    (hln : X.env.kindOf n = some .local) (hc : Names X x c) (tk : Takes X Wout)
    (hb : ∀ (W : WX) (pn : List (Addr × Obj)) (xe : Value → Shared → Prop), Takes (X.tr pn xe) W → PassesOwn (model X.prog X.w) X.A X.env xe → PSs (X.tr pn xe) body (tb W))
    (hsu : ∀ (a : Addr) (pn : List (Addr × Obj)), PSs (X.suite a pn) (b1 :: suite) ts) :
    PS X (.Try body [.ExceptHandler (some (.Name x np)) (some n) (b1 :: suite) pos'] [] [] pos) (fun D σ H => tb (wHold X.K c i ts Wout D) D σ H) := by
  constructor
  intro pins s σ H D I h
  have okX := I.ok
  have frX : X.A.frames = some (X.env :: X.outer) := okX.frames.trans (by rw [hs])
  refine wpAny_Try_except (wpAny_mono ((hb (wHold X.K c i ts Wout D) (X.pn ++ pins) (fun e t1 => wpAny (model X.prog X.w) X.A (noteFrame e X.env) (fun _ t2 => wpAny (model X.prog X.w) X.A (setFlight e none) (fun _ t3 =>
    wpAny (model X.prog X.w) X.A (handleBy e X.env [.ExceptHandler (some (.Name x np)) (some n) (b1 :: suite) pos']) (SP X pins D) X.xe t3) X.xe t2) X.xe t1) (fun u t thrown => ?_) PassesOwn.looking).run [] s σ H D (I.toTry _) h) (fun f t ended => ?_) fun _ _ z => z)
  · obtain ⟨a, B, sI, pI, σI, HI, cls, d, rfl, inI, nb, up, sky, na, os, ag, y, hy, yes, no⟩ := thrown
    have J := inI.ofTry okX
    show wpAny (model X.prog X.w) X.A (noteFrame (.ref a) X.env) _ _ _
    refine Sky.land Zc.steady frX hf (B := B) (Z := Zc cls d) (by rw [← hs]; exact sky) fun h3 fl up3 => ?_
    have J3 : Inv X pins σI HI { t with heap := h3 } := J.landed nb fl.1 (up.trans up3) os ag
    obtain ⟨ob, vs, gob, zob, dob⟩ := fl.there
    have nfs : a ∉ frs (X.env :: X.outer) := fun hm => by
      obtain ⟨_, o2, g2, notF⟩ := fl.2.2.1.mem hm
      rw [gob] at g2
      cases g2
      exact notF _ dob
    have nl : a ≠ X.env.locals := fun z => nfs (List.mem_filterMap.mpr ⟨X.env, List.mem_cons_self, by rw [hf, z]⟩)
    have nf : a ∉ X.fs := fun hm => by
      obtain ⟨e, he, q⟩ := List.mem_filterMap.mp hm
      exact nfs (List.mem_filterMap.mpr ⟨e, List.mem_cons_of_mem _ he, q⟩)
    have nI : sI.heap.get? a = none := by
      cases q : sI.heap.get? a with
      | none => rfl
      | some o =>
        have z := nb a o q (by rw [hs]; exact nfs)
        rw [fl.2.1] at z
        cases z
    have n0 : X.s_0.heap.get? a = none := by
      cases q : X.s_0.heap.get? a with
      | none => rfl
      | some o =>
        obtain ⟨o2, z⟩ := J.base.there a o q (by rw [hex]; exact fun z => nomatch z)
        rw [nI] at z
        cases z
    have np' : ∀ p ∈ X.pn ++ pins, p.1 ≠ a := fun p hp z => by
      have q := (J.pin p hp).1
      rw [z, nI] at q
      cases q
    have S3 := J3.suite gob dob na nl nf
    refine wpAny_handleBy_cons (codeAny_handlers_test ?_) (by intro q; cases q)
    have asks : PySem.W.Looks (model X.prog X.w) h3 (typeOf (.ref a)) cls := fun _ _ _ _ k q => wpAny_typeOf_ref (k _ _ gob) (by rw [zob.1]; exact q)
    have named : ∀ {Q : Value → Shared → Prop} {E : Value → Shared → Prop}, Q c { t with heap := h3 } → wpAny (model X.prog X.w) (X.A.mark (some (.ref a))) (eval (.Name x np) X.env) Q E { t with heap := h3 } := by
      intro Q E q
      obtain ⟨hg, hdb, hm | ⟨hm, hv, hnn⟩⟩ := hc
      · exact ld_glob (X := X.suite a ((a, ob) :: (X.pn ++ pins))) S3 hg hm q hdb
      · exact ld_blt (X := X.suite a ((a, ob) :: (X.pn ++ pins))) S3 hg hm hv q hnn hdb
    refine named ((PySem.W.exm_one (M := model X.prog X.w) J3.kIn asks hy).here ?_)
    cases y with
    | true =>
      refine codeAny_handlers_suite_as (HandSPX.lands_againZ fl fun h4 fl4 up4 => ?_)
      have J4 : Inv X pins σI HI { t with heap := h4 } := J.landed nb fl4.1 ((up.trans up3).trans up4) os ag
      obtain ⟨ob4, vs4, gob4, zob4, dob4⟩ := fl4.there
      have T4 := again (a := a) (track J4 gob4 na nl nf zob4 dob4 n0 np')
      refine store_ok (X := X.suite a (X.pn ++ pins)) (v := .ref a) T4 hN hi (.inl hln) rfl (fun t5 T5 => ?_) (.inr hln)
      refine wpAny_mono ((hsu a (X.pn ++ pins)).run [] t5 _ _ _ T5 (yes rfl a na)) (fun f t6 r => ?_) fun _ _ z => z.elim
      have out : ∀ {σ6 : L2.St} {H6 : Hp} {Q : Shared → Prop}, Inv (X.suite a (X.pn ++ pins)) [] σ6 H6 t6 → (∀ t7, Inv X pins (σ6.set i none) H6 t7 → Q t7) → wpAny (model X.prog X.w) X.A (do bindName X.env n .none; unbindBehindTheSuite X.env n pos') (fun _ t7 => Q t7) X.xe t6 :=
        fun {σ6 H6 Q} z hq => gone_ok (behind z okX) hN hi hln hq
      cases f with
      | next =>
        obtain ⟨σ6, H6, z, q⟩ := r
        exact out z fun _ w7 => ⟨_, _, w7, q⟩
      | brk =>
        obtain ⟨σ6, H6, z, q⟩ := r
        exact out z fun _ w7 => ⟨_, _, w7, q⟩
      | cont =>
        obtain ⟨σ6, H6, z, q⟩ := r
        exact out z fun _ w7 => ⟨_, _, w7, q⟩
      | ret u =>
        obtain ⟨v6, σ6, H6, z, rv, q⟩ := r
        exact out z fun _ w7 => ⟨_, _, _, w7, rv, q⟩
    | false =>
      show wpAny _ X.A (handleBy (.ref a) X.env []) _ _ _
      refine wpAny_handleBy_nil ?_
      obtain ⟨_, _, _, ob5, vs5, T, oT, rest, g5, z5, d5, one5, _⟩ := id fl
      unfold PySem.passOn
      refine wpAny_bind (wpAny_field g5 d5 one5 ?_)
      rw [if_neg (by simp)]
      have go : wpAny (model X.prog X.w) X.A (setFlight (.ref a) X.env.frame) (fun _ t4 => wpAny (model X.prog X.w) X.A (throw (.ref a) : Sem Flow) (SP X pins D) X.xe t4) X.xe { t with heap := h3 } := by
        rw [hf]
        refine HandSPX.setFlight_upZ fl fun h4 held up4 => wpAny_throw (tk _ _ ⟨a, B, sI, pins, σI, HI, cls, d, rfl, J, nb, (up.trans up3).trans up4, .inr (.inr ?_), na, os, ag, no rfl⟩)
        rw [hs]
        exact held
      first
        | exact wpAny_bind (wpAny_pure (wpAny_bind go))
        | exact wpAny_bind go
  · cases f with
    | next =>
      obtain ⟨σ1, H1, z, q⟩ := ended
      exact wpAny_execs_nil ⟨σ1, H1, z.ofTry okX, q⟩
    | brk =>
      obtain ⟨σ1, H1, z, q⟩ := ended
      exact ⟨σ1, H1, z.ofTry okX, q⟩
    | cont =>
      obtain ⟨σ1, H1, z, q⟩ := ended
      exact ⟨σ1, H1, z.ofTry okX, q⟩
    | ret u =>
      obtain ⟨v, σ1, H1, z, rv, q⟩ := ended
      exact ⟨v, σ1, H1, z.ofTry okX, rv, q⟩
end CS
set_option maxHeartbeats 4000000
/-! isinstance and the fields of an error that is tracked -/
namespace PySem.W
open PySem PySem.Spec PySem.Calls PyProof.Rows
section
variable {prog : Program} {w : World} {A : Around} {E : Value → Shared → Prop} {s : Shared} {K : Frag} {x D : Addr} {ox : Obj} {od : Option Obj}
theorem csx_data {C : Addr} {nm : Str} {a g : Value} (h1 : (clsIn K C).isSome = true) (h2 : findIn K (.ref C) nm = some (some a)) (h3 : specialIn K a "__get__" = some (some g)) (h4 : takesIn K a = some true) : findObj K C od nm = some (.bind g a) := by
  cases e : clsIn K C with
  | none =>
    rw [e] at h1
    cases h1
  | some cd =>
    unfold findObj
    rw [e, Option.bind_some, h2, Option.bind_some]
    simp [h3, h4]
/-- what the class D says of its instances' __class__ -/
structure CsxC (K : Frag) (D : Addr) : Prop where
  hg : findIn K (.ref D) "__getattribute__" = some (some (.builtin "BaseException.__getattribute__"))
  hk : findIn K (.ref D) "__getattr__" = some none
  hs : subIn K (.ref D) (.type "BaseException") = some true
  hd : hasDictIn K D = true
  ha : findIn K (.ref D) "__class__" = some (some (.builtin "object.__class__"))
  hn : specialIn K (.builtin "object.__class__") "__get__" = some (some (.builtin "getset_descriptor.__get__"))
  ht : takesIn K (.builtin "object.__class__") = some true
  hm : mroIn K D (.type "object") = some true
theorem csx_class {Q : Option Value → Shared → Prop} (T : CsxC K D) (X : K.In s.heap) (I : InstAt s.heap x ox D od) (q : Q (some (.ref D)) { s with toks := s.toks + 1 }) : wpAny (model prog w) A (getAttr? (.ref x) "__class__") Q E s := by
  have known : (clsIn K D).isSome = true := by
    obtain ⟨cd, hc, _⟩ := any_some T.hd
    rw [hc] <;> rfl
  have found : findObj K D od "__class__" = some (.bind (.builtin "getset_descriptor.__get__") (.builtin "object.__class__")) := csx_data known T.ha T.hn T.ht
  obtain ⟨hp, gs, dr, tk, os⟩ := s
  have kind := I.type (M := model prog w)
  have way := looks_findIn (M := model prog w) X T.hg
  have hook := looks_findIn (M := model prog w) X T.hk
  have look := looks_find (M := model prog w) X I found
  have base : Looks (model prog w) hp (isInstance (.ref x) (.type "BaseException")) true := kind.andThen (looks_subIn X T.hs)
  have other : (Value.builtin "BaseException.__getattribute__" == Value.builtin "object.__getattribute__") = false := by decide +kernel
  have plain : (onTheHeap (Value.ref D) && Value.builtin "BaseException.__getattribute__" == Value.builtin "object.__getattribute__") = false := by
    rw [other]
    rfl
  unfold getAttr? getAttrBy? getAttrBy
  refine wpAny_bind (wpAny_mkText ?_)
  refine wpAny_bind (wpAny_attempt (wpAny_holding ?_))
  refine wpAny_bind (kind.at ?_)
  refine wpAny_bind (way.at ?_)
  show wpAny _ _ (if (onTheHeap (Value.ref D) && Value.builtin "BaseException.__getattribute__" == Value.builtin "object.__getattribute__") = true then _ else _) _ _ _
  rw [plain, if_neg (by decide)]
  unfold getAttrByItsOwn hookBefore
  refine wpAny_bind ?_
  rw [if_pos (show onTheHeap (Value.ref D) = true from rfl)]
  refine hook.at (wpAny_bind ?_)
  refine wpAny_attempt (wpAny_holding ?_)
  unfold callGetattribute
  rw [show (false && onTheHeap (Value.builtin "BaseException.__getattribute__")) = false from rfl, if_neg (by decide)]
  unfold boundAndCalled
  rw [PySem.F.excAttr_ValueError.ga.bind (.ref x)]
  refine wpAny_bind (wpAny_pure ?_)
  show wpAny _ _ (call (.builtin "BaseException.__getattribute__") [.ref x, .str "__class__" tk]) _ _ _
  refine wpAny_call (codeAny_call_builtin PySem.F.excAttr_ValueError.ga.plain PySem.F.entry_bexc_ga ?_)
  refine @check_slot (model prog w) _ _ ⟨hp, gs, dr, tk + 1, os⟩ "BaseException.__getattribute__" "BaseException" "__getattribute__" (.ref x) [.str "__class__" tk] [] _ (by decide +kernel) (by decide +kernel) base (PySem.F.args_bexc_ga (.ref x) (.str "__class__" tk)) ?_
  unfold Builtin.«object.__getattribute__»
  refine wpAny_bind (wpAny_of_eq (a := ((Value.ref x : Value), [Value.str "__class__" tk])) (by first | rfl | (simp only [slotArgs]; rfl)) ?_)
  refine wpAny_bind (wpAny_pure ?_)
  refine wpAny_bind (kind.at (wpAny_bind (look.at ?_)))
  show wpAny _ _ (holding [Value.builtin "object.__class__"] (call (.builtin "getset_descriptor.__get__") [.builtin "object.__class__", .ref x, .ref D]) >>= ret) _ _ _
  refine wpAny_bind (wpAny_holding (wpAny_call (class_get (s := ⟨hp, gs, dr, tk + 1, os⟩) (ox := ox) (od := od) X I T.hm ?_)))
  refine wpAny_pure ?_
  show wpAny _ _ (handedOut (.ref D)) _ _ _
  rw [handedOut_of (v := .ref D) rfl]
  first
    | exact wpAny_pure (wpAny_pure q)
    | exact wpAny_pure q
    | exact wpAny_pure (wpAny_bind (wpAny_pure (wpAny_pure q)))
theorem csx_kit (T : CsxC K D) : KitX K (.ref x) (.ref D) (fun h => InstAt h x ox D od) := by
  obtain ⟨cd, hc, _⟩ := any_some T.hd
  obtain ⟨c, d, sl, ho⟩ : ∃ c d sl, K.lookup D = some ⟨c, d, .cls cd, sl⟩ := by
    unfold clsIn at hc
    split at hc
    · cases hc
      exact ⟨_, _, _, by assumption⟩
    · cases hc
  refine ⟨fun _ _ _ I => I.type, fun M h X _ => ?_, fun h tp dd its n sl X htp => ?_, fun X I q => csx_class T X I q⟩
  · intro A Q E s k q
    unfold isType loadHead
    refine wpAny_bind (wpAny_loadPart (k _ _ (X _ _ ho)) ?_)
    exact wpAny_pure q
  · cases z : (Value.ref D == Value.ref tp) with
    | false => rfl
    | true =>
      have e : D = tp := Value.ref.inj (beq_iff_eq.mp z)
      rw [← e] at htp
      have y := (X _ _ ho).symm.trans htp
      cases y
end
end PySem.W
namespace CS
open PySem PySem.Spec PyProof.Rows L2
/-- its dict, where it has one -/
def XD (H : Hp) (d : Option Addr) : Prop := d = none ∨ ∃ dd fs, d = some dd ∧ H dd = some (.xd fs)
theorem xo_inst {X : Cx} {pins : List (Addr × Obj)} {σ : L2.St} {H : Hp} {s : Shared} {a C : Addr} {d : Option Addr} (I : Inv X pins σ H s) (e : H a = some (XO (.ref C) d a)) (ed : XD H d) : ∃ oe od, PySem.W.InstAt s.heap a oe C od := by
  obtain ⟨oe, ws, ho, hz, hw⟩ := xo_take I.hok e
  have nc : PySem.W.notCls oe := by
    unfold PySem.W.notCls
    rw [hw] <;> trivial
  rcases ed with rfl | ⟨dd, fs, rfl, ed⟩
  · exact ⟨oe, none, ho, hz.1, nc, by rw [hz.2]; trivial⟩
  · have x : ObjOk X.prog X.w H s.heap dd (.xd fs) := I.hok dd _ ed
    obtain ⟨mA, hn, _⟩ := x
    obtain ⟨od, hd, _⟩ := lookIn_ns hn
    exact ⟨oe, some od, ho, hz.1, nc, by rw [hz.2]; exact hd⟩
/-- isinstance(e, c), e a tracked error -/
def rIsX (K : PySem.W.Frag) : List V → Hp → VK → Prop := fun xs H Q => ∃ (a C : Addr) (d : Option Addr) (c : V) (cv : Value) (b : Bool), xs = [.ref a, c] ∧ H a = some (XO (.ref C) d a) ∧ XD H d ∧ PySem.W.CsxC K C ∧ (∀ u, RelV c u → u = cv) ∧ PySem.W.kitOne K (.ref C) cv = some b ∧ Q (.bl b) H
theorem call_isX {X : Cx} : CallR X (.builtin "isinstance") (rIsX X.K) := by
  intro pins s σ H xs us Q I r h
  obtain ⟨a, C, d, c, cv, b, rfl, ea, ed, T, hcv, e, q⟩ := h
  cases r with
  | cons r1 rr =>
    cases rr with
    | cons r2 rr =>
      cases rr
      cases r1
      have ec := hcv _ r2
      subst ec
      obtain ⟨oe, od, J⟩ := xo_inst I ea ed
      exact PySem.W.kia_one (PySem.W.csx_kit T) I.kIn J e (fun z => nomatch z) fun tk => ⟨.bl b, H, I.kept (t' := tk) fun _ _ z => z, rfl, q⟩
/-- e.f, e a tracked error -/
def tXoF (K : PySem.W.Frag) (f : Str) (te : TE) : TE := fun σ H Q => te σ H fun x H1 => ∃ (a C dd : Addr) (fs : List (Str × V)) (v : V), x = .ref a ∧ H1 a = some (XO (.ref C) (some dd) a) ∧ H1 dd = some (.xd fs) ∧ XfC K C ∧ PySem.W.findIn K (.ref C) f = some none ∧ fs.lookup f = some v ∧ Q v H1
theorem pe_xof {X : Cx} {e : Expr} {te : TE} {pos : Pos} {f : Str} (he : PE X e te) (hb : attributeBase e f X.env (eval e X.env) = eval e X.env := by rfl) : PE X (.Attribute e f pos) (tXoF X.K f te) := by
  constructor
  intro pins s σ H Q I h
  refine attr_of hb (thn (he.run pins s σ H _ I h) fun u t r => ?_)
  obtain ⟨x, H1, J, rx, a, C, dd, fs, v, rfl, ea, ed, T, no, lk, q⟩ := r
  cases rx
  obtain ⟨oe, ws, ho, hz, hw⟩ := xo_take J.hok ea
  have x : ObjOk X.prog X.w H1 t.heap dd (.xd fs) := J.hok dd _ ed
  obtain ⟨mA, hn, hr⟩ := x
  obtain ⟨od, hd, look⟩ := lookIn_ns hn
  obtain ⟨y, hy, ry⟩ := RelO.some_of (v := v) (o := mA f) (by rw [← lk]; exact hr f)
  have at_ : PySem.W.InstAt t.heap a oe C (some od) := ⟨ho, hz.1, by unfold PySem.W.notCls; rw [hw] <;> trivial, by rw [hz.2]; exact hd⟩
  exact HandSPX.exc_get J.kIn at_ T.ga T.gg T.exC (PySem.W.findObj_own T.hdC no rfl (by rw [look, hy])) (handed_of ry) ⟨v, H1, J.tok _, ry, q⟩
end CS
/-! dict(t), t a tuple of pairs. A tuple is asked for 'keys' first, so that it has no dict of its own must be known: such a tuple is tracked as known to the object. -/
namespace CS
open PySem PySem.Spec PyProof.Rows L2
/-- tuple(l), the new tuple known to the object -/
def kTupF (K : PySem.W.Frag) : V → Hp → VK → Prop := fun x H Q => ∃ (p : Addr) (xs : List V), x = .ref p ∧ SqL K H p xs ∧ ∀ (q : Addr) (o : Obj), H q = none → o.dict = none → Q (.ref q) (upd H q (.frz o (.tup xs)))
section
variable {X : Cx}
theorem rl_tupF (pins : List (Addr × Obj)) (s : Shared) (σ : L2.St) (H : Hp) (x : V) (v : Value) (Q : VK) (I : Inv X pins σ H s) (r : RelV x v) (h : kTupF X.K x H Q) : wpAny (model X.prog X.w) X.A (call (.type "tuple") [v]) (EP X pins σ Q) X.xe s := by
  obtain ⟨p, xs, rfl, hl, q⟩ := h
  cases r
  obtain ⟨us, ru, pl, sz⟩ := I.list hl
  refine call_tuple_list pl.isList (fun h1 more => ?_) (by rw [List.size_toArray, ← ru.length]; exact sz)
  have J : Inv X pins σ H { s with heap := h1 } := I.kept (t' := s.toks) more
  have here : (h1.push { cls := .type "tuple", data := .seq us.toArray }).get? h1.objs.size = some { cls := .type "tuple", data := .seq us.toArray } := Heap.get?_push_size _ rfl
  have J2 : Inv X pins σ (upd H h1.objs.size (.frz { cls := .type "tuple", data := .seq us.toArray } (.tup xs))) { s with heap := h1.push { cls := .type "tuple", data := .seq us.toArray } } :=
    J.laid (t' := s.toks) (fun b o e => Heap.get?_push_of_some _ e) (Nat.le_refl _) (show ObjOk X.prog X.w _ _ _ (.frz _ (.tup xs)) from ⟨here, sz, us, ru, IsTup.new _ _⟩)
  exact ⟨.ref h1.objs.size, _, J2, rfl, q h1.objs.size _ (J.hok.fresh (Nat.le_refl _)) rfl⟩
theorem pe_tupF {e : Expr} {ta : TE} {p pos : Pos} (hg : Gl X "tuple") (hm : X.mg "tuple" = none) (ha : PE X e ta) (na : starEach [e] X.env = (false, eval e X.env) :: starEach [] X.env := by rfl) : PE X (.Call (.Name "tuple" p) [e] [] pos) (tThen ta (kTupF X.K)) := by
  constructor
  intro pins s σ H Q I h
  exact Call_ (ld_blt I hg hm boot_tuple (PyProof.Rows.callWith_type1 (one_arg ha I h (fun v s2 x H2 I2 r q => rl_tupF pins s2 σ H2 x v Q I2 r q) na) na))
/-- the pairs, and their keys as they stand -/
theorem two_of {pins : List (Addr × Obj)} {σ : L2.St} {H : Hp} {s : Shared} (I : Inv X pins σ H s) : ∀ {ps : List Addr} {kvs : List (Key × V)}, Paired (fun p kv => SqT X.K H p [kV kv.1, kv.2]) ps kvs →
    ∃ (prs : List (Key × Value)) (vs : List (Value × Value)), KV kvs prs ∧ prs.length = ps.length ∧ vs.length = ps.length ∧ ∀ (j : Nat) (y z : Value), vs[j]? = some (y, z) → ∃ (b : Addr) (k : Key), prs[j]? = some (k, z) ∧ ps[j]? = some b ∧ IsTup s.heap b #[y, z] ∧ (mixKind X.prog X.w).is k y = true
  | _, _, .nil => ⟨[], [], .nil, rfl, rfl, fun j y z e => by simp at e⟩
  | _, _, .cons (a := p) (b := kv) h t => by
    obtain ⟨prs, vs, rel, l1, l2, each⟩ := two_of I t
    obtain ⟨its, rv, tup, _⟩ := I.tuple h
    obtain ⟨u, v, ei, ru, ry⟩ := vals2 rv
    subst ei
    refine ⟨(kv.1, v) :: prs, (u, v) :: vs, .cons ⟨rfl, ry⟩ rel, by simp [l1], by simp [l2], fun j y z e => ?_⟩
    cases j with
    | zero =>
      cases e
      exact ⟨p, kv.1, rfl, rfl, tup, kV_is (P := X.prog) (w := X.w) ru⟩
    | succ j =>
      obtain ⟨b, k, e1, e2, e3⟩ := each j y z (by simpa using e)
      exact ⟨b, k, by simpa using e1, by simpa using e2, e3⟩
/-- dict(t) -/
def rDictT (K : PySem.W.Frag) : List V → Hp → VK → Prop := fun xs H Q => ∃ (a : Addr) (o : Obj) (ps : List Addr) (kvs : List (Key × V)), xs = [.ref a] ∧ H a = some (.frz o (.tup (ps.map V.ref))) ∧ o.dict = none ∧
  Paired (fun p kv => SqT K H p [kV kv.1, kv.2]) ps kvs ∧ ∀ p, H p = none → Q (.ref p) (upd H p (.dK (mergeK [] kvs)))
theorem call_dictT (calm : X.calm = true) : CallR X (.type "dict") (rDictT X.K) := by
  intro pins s σ H xs us Q I r h
  obtain ⟨a, o, ps, kvs, rfl, ea, od, hp, q⟩ := h
  obtain ⟨u, rfl, rx⟩ := vals1 r
  cases rx
  have x : ObjOk X.prog X.w H s.heap a (.frz o (.tup (ps.map V.ref))) := I.hok a _ ea
  obtain ⟨ho, sz, its, ri, isT⟩ := x
  obtain ⟨o2, ho2, hc, n, hd⟩ := id isT
  rw [ho] at ho2
  cases ho2
  have ei := refs_at ri
  subst ei
  rw [List.length_map] at sz
  obtain ⟨prs, vs, rel, len, lv, each⟩ := two_of I hp
  have items : PairItems s.heap (ps.map Value.ref).toArray (fun j => (ps[j]?).getD 0) vs := by
    refine ⟨by simp [lv], fun j y z e => ?_⟩
    obtain ⟨b, k, _, e2, e3, _⟩ := each j y z e
    have e3' : s.heap.IsTuple b #[y, z] := e3
    exact ⟨by simp [e2], .inl (by simpa [e2] using e3')⟩
  refine PySem.call_dict_pairs (knd := mixKind X.prog X.w) (kvs := prs) (PairArg.tuple a (ps.map Value.ref).toArray (fun j => (ps[j]?).getD 0) vs) (I.ok.hd calm) ⟨⟨o, n, ho, hc, od, hd⟩, items⟩ ⟨by rw [len, lv], fun i key v e => ?_⟩ (by rw [lv]; exact sz) fun h' tk hd' keep => ?_
  · obtain ⟨b, k, e1, _, _, e4⟩ := each i key v e
    exact ⟨k, e1, e4⟩
  · have notM : (s.heap.objs.size == sysModules) = false := beq_eq_false_iff_ne.mpr (Nat.ne_of_gt I.big)
    have small : (mergeK [] kvs).length ≤ sizeLine := by
      have z := length_mergeK kvs []
      rw [List.length_nil, Nat.zero_add, rel.length, len] at z
      omega
    exact ⟨.ref s.heap.objs.size, _, I.laid (t' := tk) (fun b o e => keep b o (fun z => nomatch z) e) (Nat.le_refl _) (show ObjOk X.prog X.w _ _ _ (.dK (mergeK [] kvs)) from ⟨small, notM, merged [] prs, KV.merge rel .nil, hd'⟩), rfl, q _ (I.hok.fresh (Nat.le_refl _))⟩
end
end CS
namespace K02
open PySem PySem.Spec PyProof.Rows L2 CS
def top (i : Nat) : Stmt := PySem.Challenge.pw_countedsteps_k02_joined_and_seen.main.body.getD i (.Pass ⟨0, 0, 0, 0⟩)
abbrev sPlace : Stmt := top 6
abbrev sJour : Stmt := top 7
abbrev sSteps : Stmt := top 8
abbrev sJoin : Stmt := top 9
abbrev sSeen : Stmt := top 10
abbrev sBox : Stmt := top 12
abbrev sTake : Stmt := top 13
abbrev sCells : Stmt := top 14
abbrev sOf : Stmt := top 15
abbrev sPick : Stmt := top 16
abbrev sLists : Stmt := top 17
abbrev sSame : Stmt := top 18
abbrev sTags : Stmt := top 19
abbrev sWalk : Stmt := top 20
abbrev sHeard : Stmt := top 21
abbrev sCalled : Stmt := top 22
abbrev sHand : Stmt := top 23
abbrev sRight : Stmt := top 24
abbrev sLaw : Stmt := top 25
abbrev clsBody (st : Stmt) : List Stmt := match st with | .ClassDef _ _ _ b _ _ _ _ _ _ _ => b | _ => []
abbrev sApI : Stmt := (clsBody (top 1)).getD 0 (.Pass ⟨0, 0, 0, 0⟩)

/-! ### heaps and lists -/
theorem same_upd {H : Hp} {p : Addr} {o : HO} (h : H p = none) : Same H (upd H p o) := fun b x e => by
  rw [upd_ne (ne_of_none e h)]
  exact e
theorem cut1 (xs : List V) : cutV xs (some 1) none = xs.drop 1 := by
  unfold cutV
  rw [show HT.sIx xs.length 0 (some 1) = min 1 xs.length from HT.sIx_nat xs.length 0 1, HT.sIx_none]
  cases xs with
  | nil => rfl
  | cons x r =>
    rw [show min 1 (x :: r).length = 1 by
      rw [List.length_cons]
      omega]
    show (List.take ((x :: r).length - 1) r) = r
    rw [List.length_cons, Nat.add_sub_cancel]
    exact List.take_length
theorem sIx_one {n : Nat} (h : 0 < n) : HT.sIx n 0 (some 1) = 1 := by
  rw [show HT.sIx n 0 (some 1) = min 1 n from HT.sIx_nat n 0 1]
  omega
theorem sqT_same {K : PySem.W.Frag} {H H' : Hp} {a : Addr} {xs : List V} (e : Same H H') (h : SqT K H a xs) : SqT K H' a xs := by
  rcases h with (h | ⟨o, h⟩) | h
  · exact .inl (.inl (e _ _ h))
  · exact .inl (.inr ⟨o, e _ _ h⟩)
  · exact .inr h
/-- a tuple or a list of texts -/
def Jr (K : PySem.W.Frag) (H : Hp) (a : Addr) (ss : List Str) : Prop := SqT K H a (ss.map V.str) ∨ SqL K H a (ss.map V.str)
theorem Jr.keep {K : PySem.W.Frag} {H H' : Hp} {a : Addr} {ss : List Str} (h : Jr K H a ss) (s : Same H H') : Jr K H' a ss := by
  rcases h with h | h
  · exact .inl (sqT_same s h)
  · exact .inr (s.seq h)
section
variable {P : Program} {w : World} {K : PySem.W.Frag} {mg : Str → Option Value} {base : Heap}
/-! ### steps_of -/
def spSteps (K : PySem.W.Frag) : Sp := fun vs H Q _ => ∃ (a : Addr) (ss : List Str), vs = [.ref a] ∧ Jr K H a ss ∧ 0 < ss.length ∧
  ∀ (H' : Hp) (p : Addr) (as : List Addr), Same H H' → H p = none → H' p = some (.tup (as.map V.ref)) → as.length = ss.length - 1 → PairsAt (ss.map V.str) (ss.tail.map V.str) as H' → Q (.ref p) H'
theorem scSteps : FnScope ["journey"] ["journey"] (defScope sSteps) := ⟨rfl, rfl, rfl, by decide +kernel, rfl, by decide +kernel, by decide +kernel⟩
theorem ok_steps {f : Addr} {fd : FuncData} {k : Nat} (F : Fun K "steps_of" "steps_of" sSteps f fd) (mt : mg "tuple" = none) (mz : mg "zip" = none) : FnOk P w K mg base CX0 (k + 1) f fd ["journey"] (spSteps K) := by
  refine F.ok scSteps (fun vs H Q E h => ?_) (fun cdv A outer s H vs Q E hr h => ?_)
  · obtain ⟨a, ss, rfl, _⟩ := h
    rfl
  · obtain ⟨a, ss, rfl, hJ, h0, q⟩ := h
    refine ⟨_, pss_one (ps_ret (pe_tupZip (by rfl) mt (by rfl) mz (pa_cons (pv 0) (pa_cons (pe_slice (SlR.or sl_tup sl_list) (pv 0) (po_some pe_int) po_none) pa_nil)))), ?_⟩
    have hne : ¬ (HT.sIx (ss.map V.str).length 0 (some 1) = 0 ∧ HT.sIx (ss.map V.str).length (ss.map V.str).length none = (ss.map V.str).length) := fun z => by
      rw [sIx_one (by rw [List.length_map]; exact h0)] at z
      exact absurd z.1 (by decide)
    have fin : ∀ (H1 Hc : Hp) (p : Addr) (as : List Addr), Same H H1 → Same H1 Hc → as.length = min (ss.map V.str).length (cutV (ss.map V.str) (some 1) none).length → PairsAt (ss.map V.str) (cutV (ss.map V.str) (some 1) none) as Hc → Hc p = none → Q (.ref p) (upd Hc p (.tup (as.map V.ref))) := fun H1 Hc p as s1 s2 l pr np => by
      rw [cut1, ← List.map_drop, List.drop_one] at pr l
      have s3 : Same H Hc := s1.trans s2
      refine q _ p as (s3.trans (same_upd np)) (s3.free np) upd_same ?_ ?_
      · rw [l, List.length_map, List.length_map, List.length_tail]
        omega
      · exact fun j a x y e1 e2 e3 => by rw [upd_ne (ne_of_none (pr j a x y e1 e2 e3) np)]; exact pr j a x y e1 e2 e3
    refine ⟨.ref a, rfl, .ref a, rfl, 1, rfl, ?_⟩
    rcases hJ with hJ | hJ
    · refine .inl ⟨a, _, rfl, hJ, hne, fun c nc => ⟨a, c, _, _, rfl, .inl ⟨sqT_same (same_upd nc) hJ, .inl (.inl upd_same)⟩, fun Hc p as s2 l pr np => fin _ Hc p as (same_upd nc) s2 l pr np⟩⟩
    · refine .inr ⟨a, _, rfl, hJ, fun c nc => ⟨a, c, _, _, rfl, .inr ⟨(same_upd nc).seq hJ, .inl (.inl upd_same)⟩, fun Hc p as s2 l pr np => fin _ Hc p as (same_upd nc) s2 l pr np⟩⟩
/-! ### pairs -/
def prs (ss : List Str) : List (Str × Str) := ss.zip ss.tail
theorem prs_len (ss : List Str) : (prs ss).length = ss.length - 1 := by
  unfold prs
  rw [List.length_zip, List.length_tail]
  omega
theorem prs_at {H : Hp} {ss : List Str} {as : List Addr} (h : PairsAt (ss.map V.str) (ss.tail.map V.str) as H) (hl : as.length = ss.length - 1) {j : Nat} {v : V} (hv : (as.map V.ref)[j]? = some v) :
    ∃ (T : Addr) (x y : Str), v = .ref T ∧ (prs ss)[j]? = some (x, y) ∧ H T = some (.tup [.str x, .str y]) := by
  rw [List.getElem?_map] at hv
  have hj : j < ss.length - 1 := by
    rw [← hl]
    refine Classical.byContradiction fun z => ?_
    rw [List.getElem?_eq_none (by omega)] at hv
    cases hv
  have h1 : j < as.length := by omega
  have h2 : j < ss.length := by omega
  have h3 : j < ss.tail.length := by rw [List.length_tail]; exact hj
  rw [List.getElem?_eq_getElem h1] at hv
  refine ⟨as[j], ss[j], ss.tail[j], (Option.some.inj hv).symm, ?_, h j _ _ _ (List.getElem?_eq_getElem h1) ?_ ?_⟩
  · unfold prs
    rw [List.getElem?_zip_eq_some]
    exact ⟨List.getElem?_eq_getElem h2, List.getElem?_eq_getElem h3⟩
  · rw [List.getElem?_map, List.getElem?_eq_getElem h2]
    rfl
  · rw [List.getElem?_map, List.getElem?_eq_getElem h3]
    rfl
theorem take_snoc {α : Type} {l : List α} {i : Nat} {x : α} (h : l[i]? = some x) : l.take (i + 1) = l.take i ++ [x] := by
  rw [List.take_add_one, h]
  rfl
end
end K02
namespace K02
open PySem PySem.Spec PyProof.Rows L2 CS
/-- all but b is as it was -/
def Keep (b : Addr) (H H' : Hp) : Prop := ∀ c o, c ≠ b → H c = some o → H' c = some o
theorem Keep.refl (b : Addr) (H : Hp) : Keep b H H := fun _ _ _ e => e
theorem Keep.trans {b : Addr} {H H1 H2 : Hp} (x : Keep b H H1) (y : Keep b H1 H2) : Keep b H H2 := fun c o n e => y c o n (x c o n e)
theorem Keep.of_same {b : Addr} {H H1 : Hp} (x : Same H H1) : Keep b H H1 := fun c o _ e => x c o e
theorem Keep.upd {b : Addr} (H : Hp) (o : HO) : Keep b H (L2.upd H b o) := fun c u n e => by rw [upd_ne n]; exact e
theorem Keep.sqL {K : PySem.W.Frag} {b a : Addr} {H H' : Hp} {xs : List V} (x : Keep b H H') (n : a ≠ b) (h : SqL K H a xs) : SqL K H' a xs := by
  rcases h with (h | ⟨o, h⟩) | h
  · exact .inl (.inl (x _ _ n h))
  · exact .inl (.inr ⟨o, x _ _ n h⟩)
  · exact .inr h
theorem Keep.sqT {K : PySem.W.Frag} {b a : Addr} {H H' : Hp} {xs : List V} (x : Keep b H H') (n : a ≠ b) (h : SqT K H a xs) : SqT K H' a xs := by
  rcases h with (h | ⟨o, h⟩) | h
  · exact .inl (.inl (x _ _ n h))
  · exact .inl (.inr ⟨o, x _ _ n h⟩)
  · exact .inr h
theorem b01 (c : Bool) : 0 ≤ (if c = true then (1 : Int) else 0) ∧ (if c = true then (1 : Int) else 0) ≤ 1 := by cases c <;> decide
theorem abs0 (i : Int) : 0 ≤ (if i < 0 then -i else i) := by split <;> omega
theorem mul01 (i : Int) (c : Bool) : CMul i (if c = true then (1 : Int) else 0) := by
  have q := b01 c
  exact .inr ⟨by omega, by omega⟩
theorem dv64 (i : Int) : CDivN i 64 := ⟨by decide, by decide⟩
theorem dvM (i : Int) : CDivN i 1000003 := ⟨by decide, by decide⟩
section
variable {P : Program} {w : World} {K : PySem.W.Frag} {mg : Str → Option Value} {base : Heap}
/-! ### the box of draws -/
/-- a box at b: what is left of the number, the seed, how often it was asked -/
def BoxAt (H : Hp) (b : Addr) (n : Nat) : Prop := ∃ A B C : Int, H b = some (.lst [.int A, .int B, .int C]) ∧ 0 ≤ A ∧ 0 ≤ B ∧ B < 2 ^ 62 ∧ 0 ≤ C ∧ C ≤ n
def spBox (K : PySem.W.Frag) : Sp := fun vs H Q _ => ∃ (a : Addr) (ns : List Int) (k : Nat), vs = [.ref a, .int (k : Nat)] ∧ SqL K H a (ns.map V.int) ∧ k < ns.length ∧ ns.length ≤ 1000 ∧ ∀ (H' : Hp) (p : Addr), Same H H' → H p = none → BoxAt H' p 0 → Q (.ref p) H'
theorem scBox : FnScope ["_law_script", "_law_k", "_law_cell"] ["_law_script", "_law_k"] (defScope sBox) := ⟨rfl, rfl, rfl, by decide +kernel, rfl, by decide +kernel, by decide +kernel⟩
theorem ok_box {f : Addr} {fd : FuncData} {k : Nat} (F : Fun K "_law_box" "_law_box" sBox f fd) (ml : mg "len" = none) (ma : mg "abs" = none) (mi : mg "int" = none) : FnOk P w K mg base CX0 (k + 1) f fd ["_law_script", "_law_k"] (spBox K) := by
  refine F.ok scBox (fun vs H Q E h => ?_) (fun cdv A outer s H vs Q E hr h => ?_)
  · obtain ⟨a, ns, k, rfl, _⟩ := h
    rfl
  · obtain ⟨a, ns, k, rfl, hS, hk, h1, q⟩ := h
    refine ⟨_, pss_cons (ps_set (i := 2) scBox.nd rfl (.inl rfl) (pe_ifExp (pt_cmpR op_lt (pv 1) (pe_callB call_len_seq (by rfl) ml PySem.boot_len (pa_cons (pv 0) pa_nil)) (nomark _)) (pe_ix ix_list (pv 0) (pv 1) (fun _ _ => rfl)) pe_int))
      (pss_one (ps_ret (pe_lst (pa_cons (pe_op op_mul (pe_callB call_abs (by rfl) ma (by decide +kernel) (pa_cons (pv 2) pa_nil)) (pe_callTy call_int1 (by rfl) mi (by decide +kernel) (pa_cons (pe_cmpR op_ge (pe_callB call_abs (by rfl) ma (by decide +kernel) (pa_cons (pv 2) pa_nil)) (pe_op op_pow pe_int pe_int) (nomark _)) pa_nil)))
        (pa_cons (pe_op op_add (pe_op op_add (pe_op op_modN (pe_callTy call_int1 (by rfl) mi (by decide +kernel) (pa_cons (pv 2) pa_nil)) pe_int) (pe_op op_mul pe_int (pv 1))) pe_int) (pa_cons pe_int pa_nil)))))), ?_⟩
    have hx : (ns.map V.int)[k]? = some (.int ns[k]) := by rw [List.getElem?_map, List.getElem?_eq_getElem hk]; rfl
    have hd : decide ((k : Int) < ((ns.map V.int).length : Nat)) = true := decide_eq_true (by rw [List.length_map]; omega)
    refine ⟨.int (k : Nat), rfl, .ref a, rfl, a, _, rfl, .inl hS, _, _, rfl, rfl, _, rfl, ?_⟩
    rw [hd]
    refine ⟨.ref a, rfl, .int (k : Nat), rfl, a, _, _, _, rfl, rfl, hS, atI_nat hx, ?_⟩
    have e1 := Int.fmod_nonneg_of_pos ns[k] (b := 2305843009213693951) (by decide)
    have e2 := Int.fmod_lt_of_pos ns[k] (b := 2305843009213693951) (by decide)
    refine ⟨.int ns[k], rfl, _, rfl, .int ns[k], rfl, _, rfl, 10, 18, rfl, rfl, ⟨by decide, by decide, by decide⟩, _, _, rfl, rfl, .inr ⟨_, rfl, _, _, rfl, rfl, mul01 _ _, ?_⟩⟩
    refine ⟨.int ns[k], rfl, .inl ⟨_, rfl, _, _, rfl, rfl, (by show (2305843009213693951 : Int) ≠ 0; decide), _, rfl, _, _, rfl, rfl, .inl (by decide), _, _, rfl, rfl, _, _, rfl, rfl, ?_⟩⟩
    refine ⟨by show 3 ≤ sizeLine; decide, fun p np => q _ p (same_upd np) np ?_⟩
    refine ⟨_, _, 0, upd_same, Int.mul_nonneg (abs0 _) (b01 _).1, ?_, ?_, Int.le_refl 0, Int.le_refl 0⟩
    · have : (0 : Int) ≤ k := Int.natCast_nonneg k
      omega
    · have : (k : Int) < 1000 := by omega
      omega
/-! ### a draw -/
def spTake : Sp := fun vs H Q _ => ∃ (b : Addr) (n : Nat) (m : Int), vs = [.ref b, .int m] ∧ BoxAt H b n ∧ n ≤ 1000000 ∧ 0 < m ∧ m < 1000000 ∧ ∀ (H' : Hp) (r : Int), Keep b H H' → BoxAt H' b (n + 1) → 0 ≤ r → r < m → Q (.int r) H'
theorem scTake : FnScope ["_law_box_here", "_law_below", "_law_digit_so", "_law_once", "_law_odd", "_law_twice"] ["_law_box_here", "_law_below"] (defScope sTake) := ⟨rfl, rfl, rfl, by decide +kernel, rfl, by decide +kernel, by decide +kernel⟩
theorem ok_take {f : Addr} {fd : FuncData} {k : Nat} (F : Fun K "_law_take" "_law_take" sTake f fd) (mi : mg "int" = none) : FnOk P w K mg base CX0 (k + 1) f fd ["_law_box_here", "_law_below"] spTake := by
  refine F.ok scTake (fun vs H Q E h => ?_) (fun cdv A outer s H vs Q E hr h => ?_)
  · obtain ⟨b, n, m, rfl, _⟩ := h
    rfl
  · obtain ⟨b, n, m, rfl, ⟨A, B, C, hb, hA, hB, hB2, hC, hC2⟩, hn, hm, hm2, q⟩ := h
    refine ⟨_, pss_cons (ps_if (pt_cmpR op_gt (pe_ix ix_list (pv 0) pe_int (fun _ _ => rfl)) pe_int (nomark _))
        (pss_cons (ps_set (i := 2) scTake.nd rfl (.inl rfl) (pe_op op_modN (pe_callTy call_int1 (by rfl) mi (by decide +kernel) (pa_cons (pe_ix ix_list (pv 0) pe_int (fun _ _ => rfl)) pa_nil)) (pv 1)))
          (pss_cons (ps_asg (pe_op op_fdivN (pe_ix ix_list (pv 0) pe_int (fun _ _ => rfl)) (pv 1)) (pg_sub (pv 0) pe_int set_list)) (pss_one (ps_ret (pv 2))))) pss_nil)
      (pss_cons (ps_asg (pe_op op_add (pe_ix ix_list (pv 0) pe_int (fun _ _ => rfl)) pe_int) (pg_sub (pv 0) pe_int set_list))
      (pss_cons (ps_set (i := 3) scTake.nd rfl (.inl rfl) (pe_op op_modN (pe_callTy call_int1 (by rfl) mi (by decide +kernel) (pa_cons (pe_op op_mul (pe_op op_add (pe_ix ix_list (pv 0) pe_int (fun _ _ => rfl)) (pe_op op_mul pe_int (pe_ix ix_list (pv 0) pe_int (fun _ _ => rfl)))) (pe_op op_add pe_int (pe_ix ix_list (pv 0) pe_int (fun _ _ => rfl)))) pa_nil)) pe_int))
      (pss_cons (ps_set (i := 4) scTake.nd rfl (.inl rfl) (pe_op op_add (pe_op op_modN (pe_callTy call_int1 (by rfl) mi (by decide +kernel) (pa_cons (pv 3) pa_nil)) pe_int) pe_int))
      (pss_cons (ps_set (i := 5) scTake.nd rfl (.inl rfl) (pe_op op_modN (pe_callTy call_int1 (by rfl) mi (by decide +kernel) (pa_cons (pe_op op_mul (pe_op op_add (pe_op op_add (pv 3) (pe_ix ix_list (pv 0) pe_int (fun _ _ => rfl))) (pe_op op_fdivN (pe_ix ix_list (pv 0) pe_int (fun _ _ => rfl)) pe_int)) (pv 4)) pa_nil)) pe_int))
      (pss_one (ps_ret (pe_op op_modN (pe_callTy call_int1 (by rfl) mi (by decide +kernel) (pa_cons (pe_op op_fdivN (pe_op op_modN (pe_callTy call_int1 (by rfl) mi (by decide +kernel) (pa_cons (pe_op op_add (pe_op op_mul (pv 5) pe_int) (pv 3)) pa_nil)) pe_int) pe_int) pa_nil)) (pv 1)))))))), ?_⟩
    refine ⟨.ref b, rfl, b, _, 0, .int A, rfl, rfl, SqL.of hb, atI_nat (j := 0) rfl, _, _, rfl, rfl, _, rfl, ?_⟩
    refine ite2 (fun c => ?_) (fun c => ?_)
    · have hg : 0 < A := of_decide_eq_true c
      have r0 := Int.fmod_nonneg_of_pos A hm
      have r1 := Int.fmod_lt_of_pos A hm
      have d0 := Int.fdiv_nonneg hA (Int.le_of_lt hm)
      refine ⟨.ref b, rfl, b, _, 0, .int A, rfl, rfl, SqL.of hb, atI_nat (j := 0) rfl, .inl ⟨A, rfl, .int m, rfl, A, m, rfl, rfl, by omega, ?_⟩⟩
      refine ⟨.ref b, rfl, b, _, 0, .int A, rfl, rfl, SqL.of hb, atI_nat (j := 0) rfl, .int m, rfl, A, m, rfl, rfl, ⟨by omega, by omega⟩, ?_⟩
      refine ⟨.ref b, rfl, b, _, 0, 0, rfl, rfl, hb, rfl, ?_⟩
      refine ⟨_, rfl, ?_⟩
      exact q _ _ (Keep.upd H _) ⟨_, B, C, upd_same, d0, hB, hB2, hC, by omega⟩ r0 r1
    · refine ⟨.ref b, rfl, b, _, 2, .int C, rfl, rfl, SqL.of hb, atI_nat (j := 2) rfl, _, _, rfl, rfl, ?_⟩
      refine ⟨.ref b, rfl, b, _, 2, 2, rfl, rfl, hb, rfl, ?_⟩
      have hb2 : SqL K (upd H b (.lst [.int A, .int B, .int (C + 1)])) b [.int A, .int B, .int (C + 1)] := SqL.of upd_same
      have i1 : atI [V.int A, V.int B, V.int (C + 1)] 1 = some (V.int B) := atI_nat (j := 1) rfl
      have i2 : atI [V.int A, V.int B, V.int (C + 1)] 2 = some (V.int (C + 1)) := atI_nat (j := 2) rfl
      refine ⟨.ref b, rfl, b, _, 1, .int B, rfl, rfl, hb2, i1, .ref b, rfl, b, _, 2, .int (C + 1), rfl, rfl, hb2, i2, _, _, rfl, rfl, .inl (by decide), _, _, rfl, rfl, .ref b, rfl, b, _, 2, .int (C + 1), rfl, rfl, hb2, i2, _, _, rfl, rfl,
        _, _, rfl, rfl, .inr (by omega), .inl ⟨_, rfl, _, _, rfl, rfl, (by show (2147483647 : Int) ≠ 0; decide), ?_⟩⟩
      have o0 := Int.fmod_nonneg_of_pos ((B + 48271 * (C + 1)) * (39373 + (C + 1))) (b := 2147483647) (by decide)
      have o1 := Int.fmod_lt_of_pos ((B + 48271 * (C + 1)) * (39373 + (C + 1))) (b := 2147483647) (by decide)
      dsimp only
      revert o0 o1
      generalize Int.fmod ((B + 48271 * (C + 1)) * (39373 + (C + 1))) 2147483647 = o
      intro o0 o1
      refine ⟨.int o, rfl, .inl ⟨_, rfl, _, _, rfl, rfl, (by show (40009 : Int) ≠ 0; decide), _, _, rfl, rfl, ?_⟩⟩
      have v0 := Int.fmod_nonneg_of_pos o (b := 40009) (by decide)
      have v1 := Int.fmod_lt_of_pos o (b := 40009) (by decide)
      dsimp only
      revert v0 v1
      generalize Int.fmod o 40009 = v
      intro v0 v1
      refine ⟨.int o, rfl, .ref b, rfl, b, _, 2, .int (C + 1), rfl, rfl, hb2, i2, _, _, rfl, rfl, .ref b, rfl, b, _, 1, .int B, rfl, rfl, hb2, i1, _, _, rfl, rfl, dvM _, _, _, rfl, rfl, .int (v + 7), rfl, _, _, rfl, rfl, .inr (by omega),
        .inl ⟨_, rfl, _, _, rfl, rfl, (by show (2147483629 : Int) ≠ 0; decide), ?_⟩⟩
      refine ⟨.int _, rfl, _, _, rfl, rfl, .inr (by decide), .int o, rfl, _, _, rfl, rfl, .inl ⟨_, rfl, _, _, rfl, rfl, (by show (2147483587 : Int) ≠ 0; decide), _, _, rfl, rfl, dv64 _, .inl ⟨_, rfl, .int m, rfl, _, _, rfl, rfl, (by omega), ?_⟩⟩⟩
      exact q _ _ (Keep.upd H _) ⟨A, B, C + 1, upd_same, hA, hB, hB2, by omega, by omega⟩ (Int.fmod_nonneg_of_pos _ hm) (Int.fmod_lt_of_pos _ hm)
end
end K02
namespace K02
open PySem PySem.Spec PyProof.Rows L2 CS
theorem BoxAt.same {H H' : Hp} {b : Addr} {n : Nat} (h : BoxAt H b n) (s : Same H H') : BoxAt H' b n := by
  obtain ⟨A, B, C, e, r⟩ := h
  exact ⟨A, B, C, s _ _ e, r⟩
theorem BoxAt.up {H : Hp} {b : Addr} {n m : Nat} (h : BoxAt H b n) (l : n ≤ m) : BoxAt H b m := by
  obtain ⟨A, B, C, e, a1, a2, a3, a4, a5⟩ := h
  exact ⟨A, B, C, e, a1, a2, a3, a4, by omega⟩
theorem drop_map {α β : Type} (f : α → β) : ∀ (l : List α) (i : Nat), (l.map f).eraseIdx i = (l.eraseIdx i).map f
  | [], _ => rfl
  | _ :: _, 0 => rfl
  | x :: l, i + 1 => by
    show f x :: (l.map f).eraseIdx i = f x :: (l.eraseIdx i).map f
    rw [drop_map f l i]
theorem out_perm {α : Type} : ∀ {l : List α} {i : Nat} (h : i < l.length), List.Perm (l[i] :: l.eraseIdx i) l
  | [], _, h => absurd h (Nat.not_lt_zero _)
  | _ :: _, 0, _ => List.Perm.refl _
  | x :: l, i + 1, h => (List.Perm.swap x _ _).trans ((out_perm (l := l) (i := i) (Nat.lt_of_succ_lt_succ h)).cons x)
/-- the signs of a text -/
def signs (z : Str) : List Str := z.cps.toList.map fun c => ⟨#[c]⟩
section
variable {X : Cx}
theorem vals_signs : ∀ (l : List Nat) (us : List Value), us.length = l.length → (∀ (j : Nat) (u : Value), us[j]? = some u → ∃ (c : Nat) (t : Tok), l[j]? = some c ∧ u = Value.str ⟨#[c]⟩ t) → Vals (l.map fun c => V.str ⟨#[c]⟩) us
  | [], [], _, _ => .nil
  | [], _ :: _, h, _ => by cases h
  | _ :: _, [], h, _ => by cases h
  | c :: l, u :: us, h, q => by
    obtain ⟨c', t, e1, e2⟩ := q 0 u rfl
    cases e1
    refine .cons ⟨t, e2⟩ (vals_signs l us (Nat.succ.inj h) fun j v e => q (j + 1) v e)
theorem call_list_txt (hc : X.calm = true) : CallR X (.type "list") (fun xs H Q => ∃ z : Str, xs = [.str z] ∧ z.cps.size ≤ 1000 ∧ ∀ l, H l = none → Q (.ref l) (upd H l (.lst ((signs z).map V.str)))) := by
  intro pins s σ H xs us Q I r h
  obtain ⟨z, rfl, hz, q⟩ := h
  obtain ⟨u, rfl, rx⟩ := vals1 r
  obtain ⟨t, rfl⟩ := rx
  have hfit : z.cps.size ≤ sizeLine := Nat.le_of_lt (small1000 hz)
  refine call_list_str (I.ok.hd hc) z t (fun h' tk acc c' hk hS it => ?_) hfit
  have rv : Vals ((signs z).map V.str) acc.toList := by
    unfold signs
    rw [List.map_map]
    refine vals_signs z.cps.toList acc.toList (by rw [Array.length_toList, Array.length_toList]; exact it.1) fun j u e => ?_
    rw [Array.getElem?_toList] at e
    obtain ⟨c, u', e1, e2⟩ := it.2 j u e
    exact ⟨c, u', by rw [Array.getElem?_toList]; exact e1, e2⟩
  refine ⟨.ref s.heap.objs.size, _, I.laid (t' := tk) hk (Nat.le_refl _) (show ObjOk X.prog X.w _ h' _ (.lst _) from ⟨?_, acc.toList, c', rv, ?_⟩), rfl, q _ (I.hok.fresh (Nat.le_refl _))⟩
  · unfold signs
    rw [List.length_map, List.length_map, Array.length_toList]
    exact hfit
  · simpa using hS
end
section
variable {P : Program} {w : World} {K : PySem.W.Frag} {mg : Str → Option Value} {base : Heap}
/-! ### of -/
def spOf (K : PySem.W.Frag) : Sp := fun vs H Q _ => ∃ (b t : Addr) (n : Nat) (xs : List V), vs = [.ref b, .ref t] ∧ BoxAt H b n ∧ n ≤ 1000000 ∧ t ≠ b ∧ SqL K H t xs ∧ 0 < xs.length ∧ xs.length < 1000000 ∧
  ∀ (H' : Hp) (i : Nat) (x : V), Keep b H H' → BoxAt H' b (n + 1) → xs[i]? = some x → Q x H'
theorem scOf : FnScope ["_law_box_here", "_law_some"] ["_law_box_here", "_law_some"] (defScope sOf) := ⟨rfl, rfl, rfl, by decide +kernel, rfl, by decide +kernel, by decide +kernel⟩
theorem ok_of {f g : Addr} {fd gd : FuncData} {k : Nat} (F : Fun K "_law_of" "_law_of" sOf f fd) (G : FnOk P w K mg base CX0 k g gd ["_law_box_here", "_law_below"] spTake) (bG : Binds K gd ["_law_box_here", "_law_below"] []) (kG : PySem.W.keepIn K (.ref g) = true) (mG : mg "_law_take" = some (.ref g)) (ml : mg "len" = none) :
    FnOk P w K mg base CX0 (k + 1) f fd ["_law_box_here", "_law_some"] (spOf K) := by
  refine F.ok scOf (fun vs H Q E h => ?_) (fun cdv A outer s H vs Q E hr h => ?_)
  · obtain ⟨b, t, n, xs, rfl, _⟩ := h
    rfl
  · obtain ⟨b, t, n, xs, rfl, hb, hn, ntb, hS, h0, h1, q⟩ := h
    refine ⟨_, pss_one (ps_ret (pe_ix ix_list (pv 1) (pe_call G hr (by rfl) mG kG bG .nil pass0 (pa_cons (pv 0) (pa_cons (pe_callB call_len_seq (by rfl) ml PySem.boot_len (pa_cons (pv 1) pa_nil)) pa_nil))) (fun _ _ => rfl))), ?_⟩
    refine ⟨.ref t, rfl, .ref b, rfl, .ref t, rfl, t, _, rfl, .inl hS, ?_⟩
    refine ⟨b, n, _, rfl, hb, hn, (by omega), (by omega), fun H' r k1 b1 r0 r1 => ?_⟩
    have hlt : r.toNat < xs.length := by omega
    have hx : xs[r.toNat]? = some xs[r.toNat] := List.getElem?_eq_getElem hlt
    refine ⟨t, xs, r, xs[r.toNat], rfl, rfl, k1.sqL ntb hS, ?_, q H' r.toNat _ k1 b1 hx⟩
    have za := atI_nat hx
    rw [show ((r.toNat : Nat) : Int) = r by omega] at za
    exact za
/-! ### pick -/
def spPick (K : PySem.W.Frag) : Sp := fun vs H Q _ => ∃ (b : Addr) (v : V) (m : Int) (n : Nat) (ss : List Str), vs = [.ref b, v, .int m] ∧ BoxAt H b n ∧ n ≤ 900000 ∧ 0 ≤ m ∧ ss.length ≤ 100 ∧
  ((∃ t, v = .ref t ∧ t ≠ b ∧ SqL K H t (ss.map V.str)) ∨ ∃ z, v = .str z ∧ signs z = ss) ∧
  ∀ (H' : Hp) (p : Addr) (fs rs : List Str), Keep b H H' → BoxAt H' b (n + 100) → (H p = none) → p ≠ b → H' p = some (.lst (fs.map V.str)) → (fs.length : Int) = min m ss.length → List.Perm (fs ++ rs) ss → Q (.ref p) H'
theorem scPick : FnScope ["_law_box_here", "_law_pool_so", "_law_many_so", "_law_rest", "_law_found", "_law_turn"] ["_law_box_here", "_law_pool_so", "_law_many_so"] (defScope sPick) := ⟨rfl, rfl, rfl, by decide +kernel, rfl, by decide +kernel, by decide +kernel⟩
theorem ok_pick {f g : Addr} {fd gd : FuncData} {k : Nat} (F : Fun K "_law_pick" "_law_pick" sPick f fd) (G : FnOk P w K mg base CX0 k g gd ["_law_box_here", "_law_below"] spTake) (bG : Binds K gd ["_law_box_here", "_law_below"] []) (kG : PySem.W.keepIn K (.ref g) = true) (mG : mg "_law_take" = some (.ref g)) (ml : mg "len" = none) (mL : mg "list" = none) (mr : mg "range" = none) (mm : mg "min" = none) :
    FnOk P w K mg base CX0 (k + 1) f fd ["_law_box_here", "_law_pool_so", "_law_many_so"] (spPick K) := by
  refine F.ok scPick (fun vs H Q E h => ?_) (fun cdv A outer s H vs Q E hr h => ?_)
  · obtain ⟨b, v, m, n, ss, rfl, _⟩ := h
    rfl
  · obtain ⟨b, v, m, n, ss, rfl, hb, hn, hm, h1, hv, q⟩ := h
    refine ⟨_, pss_cons (ps_par (i := 3) (j := 4) (by rfl) scPick.nd rfl rfl (by decide) rfl rfl (pa_cons (pe_callTy (CallR.or call_list_of (call_list_txt (by rfl))) (by rfl) mL (by decide +kernel) (pa_cons (pv 1) pa_nil)) (pa_cons (pe_lst pa_nil) pa_nil)) (by rfl))
      (pss_cons (ps_for PassesOwn.never rfl (pi_range1 (by rfl) mr (pa_cons (pe_callB (call_min2 rfl) (by rfl) mm (by decide +kernel) (pa_cons (pv 2) (pa_cons (pe_callB call_len_seq (by rfl) ml PySem.boot_len (pa_cons (pv 3) pa_nil)) pa_nil))) pa_nil)) (pg_name (i := 5) scPick.nd rfl (.inl rfl))
        (pss_one (ps_expr (pe_bm PySem.F.plainAttrs_list PySem.F.slot_list_append PySem.F.type_list_append mt_append (pv 4)
          (pa_cons (pe_bm PySem.F.plainAttrs_list PySem.F.slot_list_pop PySem.F.type_list_pop mt_popAt (pv 3) (pa_cons (pe_call G hr (by rfl) mG kG bG .nil pass0 (pa_cons (pv 0) (pa_cons (pe_callB call_len_seq (by rfl) ml PySem.boot_len (pa_cons (pv 3) pa_nil)) pa_nil))) pa_nil)) pa_nil)))))
      (pss_one (ps_ret (pv 4)))), ?_⟩
    have hz0 : ∀ z : Str, signs z = ss → z.cps.size ≤ 1000 := fun z e => by
      rw [← e] at h1
      unfold signs at h1
      rw [List.length_map, Array.length_toList] at h1
      omega
    rcases hv with ⟨t, hv1, _, hS⟩ | ⟨z, hv1, hv2⟩
    · refine ⟨v, rfl, .inl ⟨t, _, (by rw [hv1]), .inl hS, fun l nl => ?_⟩⟩
      refine ⟨Nat.zero_le _, fun o no => ⟨_, _, rfl, ?_⟩⟩
      have nbl : b ≠ l := fun z => by
        obtain ⟨_, _, _, e, _⟩ := hb
        rw [z, nl] at e
        cases e
      have nlo : l ≠ o := fun z => by
        rw [← z, upd_same] at no
        cases no
      have nbo : b ≠ o := fun z => by
        obtain ⟨_, _, _, e, _⟩ := hb
        rw [← z, upd_ne nbl, e] at no
        cases no
      have hL : SqL K (upd (upd H l (.lst (ss.map V.str))) o (.lst [])) l (ss.map V.str) := by
        refine SqL.of ?_
        rw [upd_ne nlo]
        exact upd_same
      have s0 : Same H (upd (upd H l (.lst (ss.map V.str))) o (.lst [])) := (same_upd nl).trans (same_upd no)
      have noH : H o = none := by
        rw [upd_ne nlo.symm] at no
        exact no
      have hmn : (if (((ss.map V.str).length : Nat) : Int) < m then (((ss.map V.str).length : Nat) : Int) else m) = min m ss.length := by
        rw [List.length_map]
        split <;> omega
      refine ⟨.int m, rfl, .ref l, rfl, l, _, rfl, .inl hL, _, _, rfl, ?_⟩
      rw [hmn]
      refine ⟨_, rfl, by omega, by omega, for_range (fun i σ H' => ∃ (y5 : Option V) (fs rs : List Str), σ = [some (.ref b), some v, some (.int m), some (.ref l), some (.ref o), y5] ∧ Keep b H H' ∧ BoxAt H' b (n + i) ∧ H' l = some (.lst (rs.map V.str)) ∧ H' o = some (.lst (fs.map V.str)) ∧ fs.length = i ∧ List.Perm (fs ++ rs) ss)
        ⟨none, [], ss, rfl, Keep.of_same s0, hb.same s0, (by rw [upd_ne nlo]; exact upd_same), upd_same, rfl, List.Perm.refl _⟩ ?_ ?_⟩
      · rintro i σ H' hi ⟨y5, fs, rs, rfl, k1, b1, eL, eO, hfl, hp⟩
        have hrl : fs.length + rs.length = ss.length := by
          have z := hp.length_eq
          rw [List.length_append] at z
          exact z
        have hil : i < ss.length := by omega
        refine ⟨.ref o, rfl, .inl ⟨rfl, _, SqL.of eO⟩, .ref l, rfl, .inl ⟨rfl, _, SqL.of eL⟩, .ref b, rfl, .ref l, rfl, l, _, rfl, .inl (SqL.of eL), b, n + i, _, rfl, b1, by omega, (by rw [List.length_map]; omega), (by rw [List.length_map]; omega), fun H2 r k2 b2 r0 r1 => ?_⟩
        rw [List.length_map] at r1
        have hlt : r.toNat < rs.length := by omega
        have eL2 : H2 l = some (.lst (rs.map V.str)) := k2 _ _ nbl.symm eL
        have eO2 : H2 o = some (.lst (fs.map V.str)) := k2 _ _ nbo.symm eO
        have hx : (rs.map V.str)[r.toNat]? = some (.str rs[r.toNat]) := by
          rw [List.getElem?_map, List.getElem?_eq_getElem hlt]
          rfl
        refine ⟨l, _, r, r.toNat, _, rfl, rfl, eL2, by omega, by omega, ?_, hx, ?_⟩
        · unfold seqIndex?
          rw [List.length_map, if_neg (show ¬ r < 0 by omega)]
          simp only [Bool.and_eq_true, decide_eq_true_eq]
          rw [if_pos ⟨r0, r1⟩]
        · refine ⟨o, _, _, rfl, rfl, (by rw [upd_ne nlo.symm]; exact eO2), ?_, ?_⟩
          · rw [List.length_map]
            exact Nat.lt_of_le_of_lt (show fs.length ≤ 1000 by omega) (small1000 (Nat.le_refl _))
          · refine ⟨_, fs ++ [rs[r.toNat]], rs.eraseIdx r.toNat, rfl, fun c u nc e => ?_, ?_, ?_, ?_, ?_, ?_⟩
            · have e2 := k2 c u nc (k1 c u nc e)
              have ncl : c ≠ l := ne_of_none e nl
              have nco : c ≠ o := ne_of_none e noH
              rw [upd_ne nco, upd_ne ncl]
              exact e2
            · obtain ⟨A1, B1, C1, eb, rr⟩ := b2
              exact ⟨A1, B1, C1, by rw [upd_ne nbo, upd_ne nbl]; exact eb, rr⟩
            · rw [upd_ne nlo, upd_same, drop_map]
            · rw [upd_same, List.map_append]
              rfl
            · rw [List.length_append, hfl]
              rfl
            · rw [List.append_assoc]
              exact (List.Perm.append_left fs (out_perm hlt)).trans hp
      · rintro σ H' ⟨y5, fs, rs, rfl, k1, b1, eL, eO, hfl, hp⟩
        exact ⟨.ref o, rfl, q H' o fs rs k1 (b1.up (by omega)) noH nbo.symm eO (by rw [hfl]; omega) hp⟩
    · refine ⟨v, rfl, .inr ⟨z, (by rw [hv1]), hz0 z hv2, fun l nl => ?_⟩⟩
      rw [hv2]
      refine ⟨Nat.zero_le _, fun o no => ⟨_, _, rfl, ?_⟩⟩
      have nbl : b ≠ l := fun z => by
        obtain ⟨_, _, _, e, _⟩ := hb
        rw [z, nl] at e
        cases e
      have nlo : l ≠ o := fun z => by
        rw [← z, upd_same] at no
        cases no
      have nbo : b ≠ o := fun z => by
        obtain ⟨_, _, _, e, _⟩ := hb
        rw [← z, upd_ne nbl, e] at no
        cases no
      have hL : SqL K (upd (upd H l (.lst (ss.map V.str))) o (.lst [])) l (ss.map V.str) := by
        refine SqL.of ?_
        rw [upd_ne nlo]
        exact upd_same
      have s0 : Same H (upd (upd H l (.lst (ss.map V.str))) o (.lst [])) := (same_upd nl).trans (same_upd no)
      have noH : H o = none := by
        rw [upd_ne nlo.symm] at no
        exact no
      have hmn : (if (((ss.map V.str).length : Nat) : Int) < m then (((ss.map V.str).length : Nat) : Int) else m) = min m ss.length := by
        rw [List.length_map]
        split <;> omega
      refine ⟨.int m, rfl, .ref l, rfl, l, _, rfl, .inl hL, _, _, rfl, ?_⟩
      rw [hmn]
      refine ⟨_, rfl, by omega, by omega, for_range (fun i σ H' => ∃ (y5 : Option V) (fs rs : List Str), σ = [some (.ref b), some v, some (.int m), some (.ref l), some (.ref o), y5] ∧ Keep b H H' ∧ BoxAt H' b (n + i) ∧ H' l = some (.lst (rs.map V.str)) ∧ H' o = some (.lst (fs.map V.str)) ∧ fs.length = i ∧ List.Perm (fs ++ rs) ss)
        ⟨none, [], ss, rfl, Keep.of_same s0, hb.same s0, (by rw [upd_ne nlo]; exact upd_same), upd_same, rfl, List.Perm.refl _⟩ ?_ ?_⟩
      · rintro i σ H' hi ⟨y5, fs, rs, rfl, k1, b1, eL, eO, hfl, hp⟩
        have hrl : fs.length + rs.length = ss.length := by
          have z := hp.length_eq
          rw [List.length_append] at z
          exact z
        have hil : i < ss.length := by omega
        refine ⟨.ref o, rfl, .inl ⟨rfl, _, SqL.of eO⟩, .ref l, rfl, .inl ⟨rfl, _, SqL.of eL⟩, .ref b, rfl, .ref l, rfl, l, _, rfl, .inl (SqL.of eL), b, n + i, _, rfl, b1, by omega, (by rw [List.length_map]; omega), (by rw [List.length_map]; omega), fun H2 r k2 b2 r0 r1 => ?_⟩
        rw [List.length_map] at r1
        have hlt : r.toNat < rs.length := by omega
        have eL2 : H2 l = some (.lst (rs.map V.str)) := k2 _ _ nbl.symm eL
        have eO2 : H2 o = some (.lst (fs.map V.str)) := k2 _ _ nbo.symm eO
        have hx : (rs.map V.str)[r.toNat]? = some (.str rs[r.toNat]) := by
          rw [List.getElem?_map, List.getElem?_eq_getElem hlt]
          rfl
        refine ⟨l, _, r, r.toNat, _, rfl, rfl, eL2, by omega, by omega, ?_, hx, ?_⟩
        · unfold seqIndex?
          rw [List.length_map, if_neg (show ¬ r < 0 by omega)]
          simp only [Bool.and_eq_true, decide_eq_true_eq]
          rw [if_pos ⟨r0, r1⟩]
        · refine ⟨o, _, _, rfl, rfl, (by rw [upd_ne nlo.symm]; exact eO2), ?_, ?_⟩
          · rw [List.length_map]
            exact Nat.lt_of_le_of_lt (show fs.length ≤ 1000 by omega) (small1000 (Nat.le_refl _))
          · refine ⟨_, fs ++ [rs[r.toNat]], rs.eraseIdx r.toNat, rfl, fun c u nc e => ?_, ?_, ?_, ?_, ?_, ?_⟩
            · have e2 := k2 c u nc (k1 c u nc e)
              have ncl : c ≠ l := ne_of_none e nl
              have nco : c ≠ o := ne_of_none e noH
              rw [upd_ne nco, upd_ne ncl]
              exact e2
            · obtain ⟨A1, B1, C1, eb, rr⟩ := b2
              exact ⟨A1, B1, C1, by rw [upd_ne nbo, upd_ne nbl]; exact eb, rr⟩
            · rw [upd_ne nlo, upd_same, drop_map]
            · rw [upd_same, List.map_append]
              rfl
            · rw [List.length_append, hfl]
              rfl
            · rw [List.append_assoc]
              exact (List.Perm.append_left fs (out_perm hlt)).trans hp
      · rintro σ H' ⟨y5, fs, rs, rfl, k1, b1, eL, eO, hfl, hp⟩
        exact ⟨.ref o, rfl, q H' o fs rs k1 (b1.up (by omega)) noH nbo.symm eO (by rw [hfl]; omega) hp⟩
end
end K02
namespace K02
open PySem PySem.Spec PyProof.Rows L2 CS
theorem Keep.free {b p : Addr} {H H' : Hp} (k : Keep b H H') (n : p ≠ b) (h : H' p = none) : H p = none := by
  cases e : H p with
  | none => rfl
  | some o =>
    rw [k _ _ n e] at h
    cases h
section
variable {P : Program} {w : World} {K : PySem.W.Frag} {mg : Str → Option Value} {base : Heap}
/-! ### tags -/
def letters : List Nat := (Str.ofString "abcdefghijklmnopqrstuvwxyz").cps.toList
/-- a PLACE -/
def isPl (z : Str) : Bool := decide (0 < z.cps.size) && decide (z.cps.size < 9) && z.cps.toList.all fun c => decide (c ∈ letters)
def spTags (K : PySem.W.Frag) : Sp := fun vs H Q _ => ∃ (b : Addr) (m : Int) (n : Nat), vs = [.ref b, .int m] ∧ BoxAt H b n ∧ n ≤ 800000 ∧ 0 ≤ m ∧ m ≤ 8 ∧
  ∀ (H' : Hp) (p : Addr) (fs : List Str), Keep b H H' → BoxAt H' b (n + 101) → H p = none → p ≠ b → H' p = some (.lst (fs.map V.str)) → (fs.length : Int) = m → fs.Nodup → (∀ z ∈ fs, PyData.strOk z = true) → (∀ z ∈ fs, isPl z = true) → (∀ z ∈ fs, z ≠ ("inland" : Str)) → Q (.ref p) H'
def pool0 : List Str := ["a", "b", "c", "d", "e", "f", "g", "h"]
def pool1 : List Str := ["a", "ab", "abc", "b", "ba", "z", "zzzzzzzz", "y"]
def pool2 : List Str := ["hall", "hal", "desk", "shop", "yard", "gate", "inn", "ford"]
theorem part_nodup {fs rs ss : List Str} (h : List.Perm (fs ++ rs) ss) (n : ss.Nodup) : fs.Nodup := by
  have q := h.nodup_iff.mpr n
  exact (List.nodup_append.mp q).1
theorem scTags : FnScope ["_law_box_here", "_law_many_so", "_law_kind_so"] ["_law_box_here", "_law_many_so"] (defScope sTags) := ⟨rfl, rfl, rfl, by decide +kernel, rfl, by decide +kernel, by decide +kernel⟩
theorem ok_tags {f g g2 : Addr} {fd gd gd2 : FuncData} {k : Nat} (F : Fun K "_law_tags" "_law_tags" sTags f fd) (G : FnOk P w K mg base CX0 k g gd ["_law_box_here", "_law_below"] spTake) (bG : Binds K gd ["_law_box_here", "_law_below"] []) (kG : PySem.W.keepIn K (.ref g) = true) (mG : mg "_law_take" = some (.ref g))
    (G2 : FnOk P w K mg base CX0 (k + 1) g2 gd2 ["_law_box_here", "_law_pool_so", "_law_many_so"] (spPick K)) (bG2 : Binds K gd2 ["_law_box_here", "_law_pool_so", "_law_many_so"] []) (kG2 : PySem.W.keepIn K (.ref g2) = true) (mG2 : mg "_law_pick" = some (.ref g2)) :
    FnOk P w K mg base CX0 (k + 2) f fd ["_law_box_here", "_law_many_so"] (spTags K) := by
  refine F.ok scTags (fun vs H Q E h => ?_) (fun cdv A outer s H vs Q E hr h => ?_)
  · obtain ⟨b, m, n, rfl, _⟩ := h
    rfl
  · obtain ⟨b, m, n, rfl, hb, hn, hm, hm2, q⟩ := h
    have hr1 : Room k _ := hr.mono (by omega)
    refine ⟨_, pss_cons (ps_set (i := 2) scTags.nd rfl (.inl rfl) (pe_call G hr1 (by rfl) mG kG bG .nil pass0 (pa_cons (pv 0) (pa_cons pe_int pa_nil))))
      (pss_cons (ps_if (pt_cmpR op_eq (pv 2) pe_int (nomark _)) (pss_one (ps_ret (pe_call G2 hr (by rfl) mG2 kG2 bG2 .nil pass0 (pa_cons (pv 0) (pa_cons pe_str (pa_cons (pv 1) pa_nil)))))) pss_nil)
      (pss_cons (ps_if (pt_cmpR op_eq (pv 2) pe_int (nomark _)) (pss_one (ps_ret (pe_call G2 hr (by rfl) mG2 kG2 bG2 .nil pass0 (pa_cons (pv 0) (pa_cons (pe_lst (pa_cons pe_str (pa_cons pe_str (pa_cons pe_str (pa_cons pe_str (pa_cons pe_str (pa_cons pe_str (pa_cons pe_str (pa_cons pe_str pa_nil))))))))) (pa_cons (pv 1) pa_nil)))))) pss_nil)
      (pss_one (ps_ret (pe_call G2 hr (by rfl) mG2 kG2 bG2 .nil pass0 (pa_cons (pv 0) (pa_cons (pe_lst (pa_cons pe_str (pa_cons pe_str (pa_cons pe_str (pa_cons pe_str (pa_cons pe_str (pa_cons pe_str (pa_cons pe_str (pa_cons pe_str pa_nil))))))))) (pa_cons (pv 1) pa_nil)))))))), ?_⟩
    refine ⟨.ref b, rfl, b, n, 3, rfl, hb, by omega, by decide, by decide, fun H1 r k1 b1 r0 r1 => ?_⟩
    have tail : ∀ (H2 : Hp) (ss : List Str), Keep b H H2 → BoxAt H2 b (n + 1) → ss.length = 8 → ss.Nodup → ss.all PyData.strOk = true → ss.all isPl = true → (ss.all fun z => !decide (z = ("inland" : Str))) = true → ∀ (H' : Hp) (p : Addr) (fs rs : List Str), Keep b H2 H' → BoxAt H' b (n + 1 + 100) → H2 p = none → p ≠ b → H' p = some (.lst (fs.map V.str)) → (fs.length : Int) = min m ss.length → List.Perm (fs ++ rs) ss → Q (.ref p) H' := by
      intro H2 ss k2 b2 hl hnd hok hpl hne H' p fs rs k3 b3 np npb ep el hp
      refine q H' p fs (k2.trans k3) (b3.up (by omega)) (k2.free npb np) npb ep ?_ (part_nodup hp hnd) (fun z hz => List.all_eq_true.mp hok z (hp.mem_iff.mp (List.mem_append_left _ hz))) (fun z hz => List.all_eq_true.mp hpl z (hp.mem_iff.mp (List.mem_append_left _ hz))) fun z hz e => by
        have y := List.all_eq_true.mp hne z (hp.mem_iff.mp (List.mem_append_left _ hz))
        rw [e] at y
        simp at y
      rw [el, hl]
      omega
    refine ⟨.int r, rfl, rfl, _, rfl, ?_⟩
    refine ite2 (fun c => ?_) (fun c => ?_)
    · refine ⟨.ref b, rfl, .int m, rfl, b, _, m, n + 1, pool0, rfl, b1, by omega, hm, by decide, .inr ⟨_, rfl, by decide +kernel⟩, ?_⟩
      exact tail H1 pool0 k1 b1 rfl (by decide +kernel) (by decide +kernel) (by decide +kernel) (by decide +kernel)
    · refine ⟨.int r, rfl, rfl, _, rfl, ?_⟩
      refine ite2 (fun c => ?_) (fun c => ?_)
      · refine ⟨.ref b, rfl, (by show 8 ≤ sizeLine; decide), fun t nt => ?_⟩
        have ntb : t ≠ b := fun z => by
          obtain ⟨_, _, _, e, _⟩ := b1
          rw [← z, nt] at e
          cases e
        refine ⟨.int m, rfl, b, _, m, n + 1, pool1, rfl, b1.same (same_upd nt), by omega, hm, by decide, .inl ⟨t, rfl, ntb, SqL.of upd_same⟩, ?_⟩
        exact tail _ pool1 (k1.trans (Keep.of_same (same_upd nt))) (b1.same (same_upd nt)) rfl (by decide +kernel) (by decide +kernel) (by decide +kernel) (by decide +kernel)
      · refine ⟨.ref b, rfl, (by show 8 ≤ sizeLine; decide), fun t nt => ?_⟩
        have ntb : t ≠ b := fun z => by
          obtain ⟨_, _, _, e, _⟩ := b1
          rw [← z, nt] at e
          cases e
        refine ⟨.int m, rfl, b, _, m, n + 1, pool2, rfl, b1.same (same_upd nt), by omega, hm, by decide, .inl ⟨t, rfl, ntb, SqL.of upd_same⟩, ?_⟩
        exact tail _ pool2 (k1.trans (Keep.of_same (same_upd nt))) (b1.same (same_upd nt)) rfl (by decide +kernel) (by decide +kernel) (by decide +kernel) (by decide +kernel)
end
end K02
namespace K02
open PySem PySem.Spec PyProof.Rows L2 CS
section
variable {P : Program} {w : World} {K : PySem.W.Frag} {mg : Str → Option Value} {base : Heap}
/-! ### walk -/
/-- neighbours are unlike -/
def Alt (rs : List Str) : Prop := ∀ (j : Nat) (x y : Str), rs[j]? = some x → rs[j + 1]? = some y → x ≠ y
def WR (ss rs : List Str) : Prop := (∀ r ∈ rs, r ∈ ss) ∧ Alt rs
theorem alt_one (z : Str) : Alt [z] := fun j x y h1 h2 => by
  cases j with
  | zero => cases h2
  | succ j => cases h2
theorem wr_snoc {ss rs : List Str} {la z : Str} (h : WR ss rs) (hla : rs[rs.length - 1]? = some la) (hz : z ∈ ss) (hne : z ≠ la) : WR ss (rs ++ [z]) := by
  refine ⟨fun r hr => (List.mem_append.mp hr).elim (h.1 r) fun hr => by rw [List.mem_singleton.mp hr]; exact hz, fun j x y h1 h2 => ?_⟩
  by_cases hj : j + 1 < rs.length
  · rw [List.getElem?_append_left (by omega)] at h1 h2
    exact h.2 j x y h1 h2
  · have hl := (List.getElem?_eq_some_iff.mp h2).1
    rw [List.length_append, List.length_singleton] at hl
    have ej : j + 1 = rs.length := by omega
    rw [ej, List.getElem?_append_right (Nat.le_refl _), Nat.sub_self] at h2
    rw [List.getElem?_append_left (by omega), show j = rs.length - 1 by omega, hla] at h1
    rw [← Option.some.inj h1, ← (Option.some.inj h2 : z = y)]
    exact fun q => hne q.symm
def spWalk (K : PySem.W.Frag) : Sp := fun vs H Q _ => ∃ (b t : Addr) (m : Int) (n : Nat) (ss : List Str), vs = [.ref b, .ref t, .int m] ∧ BoxAt H b n ∧ n ≤ 700000 ∧ t ≠ b ∧ SqL K H t (ss.map V.str) ∧ 2 ≤ ss.length ∧ ss.length ≤ 100 ∧ ss.Nodup ∧ 0 ≤ m ∧ m ≤ 100 ∧
  ∀ (H' : Hp) (p : Addr) (rs : List Str), Keep b H H' → BoxAt H' b (n + 1000) → H p = none → p ≠ b → H' p = some (.tup (rs.map V.str)) → 0 < rs.length → (rs.length : Int) ≤ m + 2 → (∀ r ∈ rs, r ∈ ss) → Alt rs → Q (.ref p) H'
abbrev nWalk : List Str := ["_law_box_here", "_law_tags_here", "_law_most_so", "_law_row_so", "_law_turn", "_law_near", "_law_back_so", "_law_tag"]
theorem scWalk : FnScope nWalk ["_law_box_here", "_law_tags_here", "_law_most_so"] (defScope sWalk) := ⟨rfl, rfl, rfl, by decide +kernel, rfl, by decide +kernel, by decide +kernel⟩
theorem some_other {ss : List Str} (h : 2 ≤ ss.length) (n : ss.Nodup) (x : Str) : 0 < (ss.filter fun y => !decide (V.str y = V.str x)).length := by
  match ss, h, n with
  | a :: c :: r, _, n =>
    have hac : a ≠ c := fun e => by
      have q := (List.nodup_cons.mp n).1
      rw [e] at q
      exact q (List.mem_cons_self ..)
    refine List.length_pos_of_mem (a := if a = x then c else a) ?_
    by_cases e : a = x
    · rw [if_pos e]
      refine List.mem_filter.mpr ⟨List.mem_cons_of_mem _ (List.mem_cons_self ..), ?_⟩
      simp only [Bool.not_eq_true', decide_eq_false_iff_not, V.str.injEq]
      exact fun z => hac (e.trans z.symm)
    · rw [if_neg e]
      refine List.mem_filter.mpr ⟨List.mem_cons_self .., ?_⟩
      simp only [Bool.not_eq_true', decide_eq_false_iff_not, V.str.injEq]
      exact e
theorem atI_neg {xs : List V} {x : V} {j : Nat} (h : xs[xs.length - j]? = some x) (h0 : 0 < j) (hj : j ≤ xs.length) : atI xs (-(j : Int)) = some x := by
  have e : ixN xs.length (-(j : Int)) = some (xs.length - j) := by
    unfold ixN
    rw [if_neg (by omega), if_pos (by omega)]
    congr 1
    omega
  unfold atI
  rw [e]
  exact h
theorem ok_walk {f g g2 : Addr} {fd gd gd2 : FuncData} {k : Nat} (F : Fun K "_law_walk" "_law_walk" sWalk f fd) (G : FnOk P w K mg base CX0 k g gd ["_law_box_here", "_law_below"] spTake) (bG : Binds K gd ["_law_box_here", "_law_below"] []) (kG : PySem.W.keepIn K (.ref g) = true) (mG : mg "_law_take" = some (.ref g))
    (G2 : FnOk P w K mg base CX0 (k + 1) g2 gd2 ["_law_box_here", "_law_some"] (spOf K)) (bG2 : Binds K gd2 ["_law_box_here", "_law_some"] []) (kG2 : PySem.W.keepIn K (.ref g2) = true) (mG2 : mg "_law_of" = some (.ref g2)) (mr : mg "range" = none) (ml : mg "len" = none) (mt : mg "tuple" = none) :
    FnOk P w K mg base CX0 (k + 2) f fd ["_law_box_here", "_law_tags_here", "_law_most_so"] (spWalk K) := by
  refine F.ok scWalk (fun vs H Q E h => ?_) (fun cdv A outer s H vs Q E hr h => ?_)
  · obtain ⟨b, t, m, n, ss, rfl, _⟩ := h
    rfl
  · obtain ⟨b, t, m, n, ss, rfl, hb, hn, ntb, hS, hl, hl2, hnd, hm, hm2, q⟩ := h
    have hr1 : Room k _ := hr.mono (by omega)
    refine ⟨_, pss_cons (ps_set (i := 3) scWalk.nd rfl (.inr rfl) (pe_lst (pa_cons (pe_call G2 hr (by rfl) mG2 kG2 bG2 .nil pass0 (pa_cons (pv 0) (pa_cons (pv 1) pa_nil))) pa_nil)))
      (pss_cons (ps_for PassesOwn.never rfl (pi_range1 (by rfl) mr (pa_cons (pe_call G hr1 (by rfl) mG kG bG .nil pass0 (pa_cons (pv 0) (pa_cons (pe_op op_add (pv 2) pe_int) pa_nil))) pa_nil)) (pg_name (i := 4) scWalk.nd rfl (.inl rfl))
        (pss_cons (ps_setLc (i := 5) (own := [("_law_tag", 7)]) (g := gName 7) rfl scWalk.nd rfl rfl (sw_true rfl rfl rfl (by decide +kernel)) (pi_list (pv 1)) (blkOk_by (own := [("_law_tag", 7)]) (N := nWalk) (sc := defScope sWalk) (by decide +kernel))
            (fun _ _ _ _ _ => pg_name (i := 7) scWalk.nd rfl (Or.inl rfl) (.inr rfl)) (fun _ _ _ _ _ => pts_one (pt_cmpR op_ne (pv 7) (pe_ix (r := rIxL K) ix_list (pv 3) (pe_un un_neg pe_int) (fun _ _ => rfl)) (nomark _))) (fun _ _ _ _ _ => pv 7))
        (pss_cons (ps_set (i := 6) scWalk.nd rfl (.inl rfl) (pe_and (pe_cmpR op_gt (pe_callB call_len_seq (by rfl) ml PySem.boot_len (pa_cons (pv 3) pa_nil)) pe_int (nomark _)) (pe_one (pe_cmpR op_eq (pe_call G hr1 (by rfl) mG kG bG .nil pass0 (pa_cons (pv 0) (pa_cons pe_int pa_nil))) pe_int (nomark _)))))
        (pss_one (ps_expr (pe_bm PySem.F.plainAttrs_list PySem.F.slot_list_append PySem.F.type_list_append mt_append (pv 3)
          (pa_cons (pe_ifExp (pt_val (pv 6)) (pe_ix ix_list (pv 3) (pe_un un_neg pe_int) (fun _ _ => rfl)) (pe_call G2 hr (by rfl) mG2 kG2 bG2 .nil pass0 (pa_cons (pv 0) (pa_cons (pv 5) pa_nil)))) pa_nil)))))))
      (pss_cons (ps_if (PW.pt (pw_and (pt_cmpR op_ne (pe_ix ix_list (pv 3) (pe_un un_neg pe_int) (fun _ _ => rfl)) (pe_ix ix_list (pv 3) pe_int (fun _ _ => rfl)) (nomark _))
          (pw_and (pt_cmpR op_le (pe_callB call_len_seq (by rfl) ml PySem.boot_len (pa_cons (pv 3) pa_nil)) (pv 2) (nomark _)) (pw_and1 (pt_cmpR op_eq (pe_call G hr1 (by rfl) mG kG bG .nil pass0 (pa_cons (pv 0) (pa_cons pe_int pa_nil))) pe_int (nomark _))))))
        (pss_one (ps_expr (pe_bm PySem.F.plainAttrs_list PySem.F.slot_list_append PySem.F.type_list_append mt_append (pv 3) (pa_cons (pe_ix ix_list (pv 3) pe_int (fun _ _ => rfl)) pa_nil)))) pss_nil)
      (pss_one (ps_ret (pe_callTy call_tuple_of (by rfl) mt (by decide +kernel) (pa_cons (pv 3) pa_nil)))))), ?_⟩
    have strOf : ∀ (i : Nat) (x : V) (l : List Str), (l.map V.str)[i]? = some x → ∃ z, x = .str z ∧ l[i]? = some z := fun i x l e => by
      rw [List.getElem?_map] at e
      cases e2 : l[i]? with
      | none =>
        rw [e2] at e
        cases e
      | some z =>
        rw [e2] at e
        exact ⟨z, (Option.some.inj e).symm, rfl⟩
    refine ⟨.ref b, rfl, .ref t, rfl, b, t, n, _, rfl, hb, by omega, ntb, hS, (by rw [List.length_map]; omega), (by rw [List.length_map]; omega), fun H1 i0 x0 k1 b1 hx0 => ?_⟩
    obtain ⟨z0, rfl, hz0⟩ := strOf _ _ _ hx0
    refine ⟨(by show 1 ≤ sizeLine; decide), fun l nl => ?_⟩
    have nbl : b ≠ l := fun z => by
      obtain ⟨_, _, _, e, _⟩ := b1
      rw [z, nl] at e
      cases e
    have noH : H l = none := k1.free nbl.symm nl
    -- how many turns
    refine ⟨.ref b, rfl, .int m, rfl, _, _, rfl, rfl, b, n + 1, _, rfl, b1.same (same_upd nl), by omega, by omega, by omega, fun H2 tn k2 b2 t0 t1 => ?_⟩
    have eL2 : H2 l = some (.lst ([z0].map V.str)) := k2 _ _ nbl.symm upd_same
    have k02 : Keep b H H2 := (k1.trans (Keep.of_same (same_upd nl))).trans k2
    refine ⟨tn, rfl, by omega, by omega, for_range (fun i σ H' => ∃ (y4 y5 y6 y7 : Option V) (rs : List Str), σ = [some (.ref b), some (.ref t), some (.int m), some (.ref l), y4, y5, y6, y7] ∧ Keep b H H' ∧ BoxAt H' b (n + 2 + 2 * i) ∧ H' l = some (.lst (rs.map V.str)) ∧ rs.length = i + 1 ∧ WR ss rs)
      ⟨none, none, none, none, [z0], rfl, k02, b2, eL2, rfl, ⟨fun r hr => by rw [List.mem_singleton.mp hr]; exact List.mem_of_getElem? hz0, alt_one z0⟩⟩ ?_ ?_⟩
    · rintro i σ H3 hi ⟨y4, y5, y6, y7, rs, rfl, k3, b3, e3, hrl, hin⟩
      have hil : (i : Int) < tn := by omega
      have hS3 : SqL K H3 t (ss.map V.str) := k3.sqL ntb hS
      obtain ⟨la, hla⟩ : ∃ la, rs[rs.length - 1]? = some la := ⟨rs[rs.length - 1]'(by omega), List.getElem?_eq_getElem (by omega)⟩
      have hlaV : (rs.map V.str)[(rs.map V.str).length - 1]? = some (.str la) := by
        rw [List.length_map, List.getElem?_map, hla]
        rfl
      have atla : atI (rs.map V.str) (-1) = some (.str la) := atI_neg (j := 1) hlaV (by decide) (by rw [List.length_map]; omega)
      refine ⟨.ref t, rfl, t, rfl, ⟨_, hS3⟩, fun D nD => lc_list (K := K) (a := t) (xs := ss.map V.str) (fun j H4 => Same H3 H4 ∧ H4 D = some (.lst (((ss.take j).filter fun y => !decide (V.str y = V.str la)).map V.str))) ⟨same_upd nD, upd_same⟩ (fun j H4 _ z => z.1.seq hS3) ?_ ?_⟩
      · rintro j x H4 hx ⟨s4, eD⟩
        obtain ⟨y, rfl, hy⟩ := strOf _ _ _ hx
        refine ⟨rfl, .str y, rfl, .ref l, rfl, 1, rfl, l, _, -1, .str la, rfl, rfl, SqL.of (s4 _ _ e3), atla, rfl, _, rfl, ?_⟩
        have hj : j < ss.length := (List.getElem?_eq_some_iff.mp hy).1
        rw [take_snoc hy, List.filter_append]
        refine ite2 (fun c => ?_) (fun c => ?_)
        · refine ⟨.str y, rfl, _, eD, ?_, fun c2 o e => ?_, ?_⟩
          · rw [List.length_map]
            refine Nat.lt_of_le_of_lt (Nat.le_trans (List.length_filter_le _ _) ?_) (small1000 (n := 100) (by decide))
            rw [List.length_take]
            omega
          · rw [upd_ne (ne_of_none e nD)]
            exact s4 _ _ e
          · rw [upd_same, List.filter_cons, if_pos c, List.filter_nil, List.map_append]
            rfl
        · rw [List.filter_cons, if_neg c, List.filter_nil, List.append_nil]
          exact ⟨s4, eD⟩
      · rintro H4 ⟨s4, eD⟩
        rw [List.length_map, List.take_length] at eD
        have npos := some_other hl hnd la
        have nle := List.length_filter_le (fun y => !decide (V.str y = V.str la)) ss
        have nin : ∀ y ∈ ss.filter (fun y => !decide (V.str y = V.str la)), y ∈ ss ∧ y ≠ la := fun y hy => ⟨(List.mem_filter.mp hy).1, fun z => by have q := (List.mem_filter.mp hy).2; rw [z] at q; simp at q⟩
        generalize (ss.filter fun y => !decide (V.str y = V.str la)) = near at eD npos nle nin
        have k4 : Keep b H H4 := k3.trans (Keep.of_same s4)
        have b4 := b3.same s4
        have e4 := s4 _ _ e3
        have nDb : D ≠ b := fun z => by
          obtain ⟨_, _, _, e, _⟩ := b3
          rw [← z, nD] at e
          cases e
        have nDl : D ≠ l := fun z => by
          rw [← z, nD] at e3
          cases e3
        have sz : (rs.map V.str).length < sizeLine := by
          rw [List.length_map]
          exact small1000 (n := rs.length) (by omega)
        refine ⟨.ref l, rfl, l, _, rfl, .inl (SqL.of e4), _, _, rfl, rfl, _, rfl, ?_⟩
        refine ite2 (fun c => ?_) (fun c => ?_)
        · have c' : (1 : Int) < ((rs.map V.str).length : Nat) := of_decide_eq_true c
          rw [List.length_map] at c'
          refine ⟨.ref b, rfl, b, _, 3, rfl, b4, by omega, by decide, by decide, fun H5 r k5 b5 r0 r1 => ⟨rfl, ?_⟩⟩
          have e5 := k5 _ _ nbl.symm e4
          refine ⟨.ref l, rfl, .inl ⟨rfl, _, SqL.of e5⟩, .bl _, rfl, _, rfl, ?_⟩
          refine ite2 (fun _ => ?_) (fun _ => ?_)
          · obtain ⟨z, hz2⟩ : ∃ z, rs[rs.length - 2]? = some z := ⟨rs[rs.length - 2]'(by omega), List.getElem?_eq_getElem (by omega)⟩
            have hz : z ∈ ss := hin.1 z (List.mem_of_getElem? hz2)
            have hne : z ≠ la := hin.2 (rs.length - 2) z la hz2 (by rw [show rs.length - 2 + 1 = rs.length - 1 by omega]; exact hla)
            have hzV : (rs.map V.str)[(rs.map V.str).length - 2]? = some (.str z) := by
              rw [List.length_map, List.getElem?_map, hz2]
              rfl
            refine ⟨.ref l, rfl, 2, rfl, l, _, -2, .str z, rfl, rfl, SqL.of e5, atI_neg (j := 2) hzV (by decide) (by rw [List.length_map]; omega), ?_⟩
            refine ⟨l, _, _, rfl, rfl, e5, sz, _, _, _, _, rs ++ [z], rfl, fun c2 o nc e => ?_, ?_, ?_, ?_, wr_snoc hin hla hz hne⟩
            · rw [upd_ne (ne_of_none e noH)]
              exact k5 _ _ nc (k4 _ _ nc e)
            · obtain ⟨A1, B1, C1, eb, q1, q2, q3, q4, q5⟩ := b5
              exact ⟨A1, B1, C1, by rw [upd_ne nbl]; exact eb, q1, q2, q3, q4, by omega⟩
            · rw [upd_same, List.map_append]
              rfl
            · rw [List.length_append, hrl]
              rfl
          · refine ⟨.ref b, rfl, .ref D, rfl, b, D, _, near.map V.str, rfl, b5, by omega, nDb, SqL.of (k5 _ _ nDb eD), (by rw [List.length_map]; omega), (by rw [List.length_map]; omega), fun H6 i6 x6 k6 b6 hx6 => ?_⟩
            obtain ⟨z, rfl, hz6⟩ := strOf _ _ _ hx6
            have hz : z ∈ ss := (nin z (List.mem_of_getElem? hz6)).1
            have hne : z ≠ la := (nin z (List.mem_of_getElem? hz6)).2
            have e6 := k6 _ _ nbl.symm e5
            refine ⟨l, _, _, rfl, rfl, e6, sz, _, _, _, _, rs ++ [z], rfl, fun c2 o nc e => ?_, ?_, ?_, ?_, wr_snoc hin hla hz hne⟩
            · rw [upd_ne (ne_of_none e noH)]
              exact k6 _ _ nc (k5 _ _ nc (k4 _ _ nc e))
            · obtain ⟨A1, B1, C1, eb, q1, q2, q3, q4, q5⟩ := b6
              exact ⟨A1, B1, C1, by rw [upd_ne nbl]; exact eb, q1, q2, q3, q4, by omega⟩
            · rw [upd_same, List.map_append]
              rfl
            · rw [List.length_append, hrl]
              rfl
        · refine ⟨.ref l, rfl, .inl ⟨rfl, _, SqL.of e4⟩, .bl _, rfl, _, rfl, ?_⟩
          refine ite2 (fun z => absurd z Bool.false_ne_true) (fun _ => ?_)
          refine ⟨.ref b, rfl, .ref D, rfl, b, D, _, near.map V.str, rfl, b4, by omega, nDb, SqL.of eD, (by rw [List.length_map]; omega), (by rw [List.length_map]; omega), fun H6 i6 x6 k6 b6 hx6 => ?_⟩
          obtain ⟨z, rfl, hz6⟩ := strOf _ _ _ hx6
          have hz : z ∈ ss := (nin z (List.mem_of_getElem? hz6)).1
          have hne : z ≠ la := (nin z (List.mem_of_getElem? hz6)).2
          have e6 := k6 _ _ nbl.symm e4
          refine ⟨l, _, _, rfl, rfl, e6, sz, _, _, _, _, rs ++ [z], rfl, fun c2 o nc e => ?_, ?_, ?_, ?_, wr_snoc hin hla hz hne⟩
          · rw [upd_ne (ne_of_none e noH)]
            exact k6 _ _ nc (k4 _ _ nc e)
          · obtain ⟨A1, B1, C1, eb, q1, q2, q3, q4, q5⟩ := b6
            exact ⟨A1, B1, C1, by rw [upd_ne nbl]; exact eb, q1, q2, q3, q4, by omega⟩
          · rw [upd_same, List.map_append]
            rfl
          · rw [List.length_append, hrl]
            rfl
    · rintro σ H3 ⟨y4, y5, y6, y7, rs, rfl, k3, b3, e3, hrl, hin⟩
      obtain ⟨la, hla⟩ : ∃ la, rs[rs.length - 1]? = some la := ⟨rs[rs.length - 1]'(by omega), List.getElem?_eq_getElem (by omega)⟩
      have hlaV : (rs.map V.str)[(rs.map V.str).length - 1]? = some (.str la) := by
        rw [List.length_map, List.getElem?_map, hla]
        rfl
      have atla : atI (rs.map V.str) (-1) = some (.str la) := atI_neg (j := 1) hlaV (by decide) (by rw [List.length_map]; omega)
      obtain ⟨fi, hfi⟩ : ∃ fi, rs[0]? = some fi := ⟨rs[0]'(by omega), List.getElem?_eq_getElem (by omega)⟩
      have hfiV : (rs.map V.str)[0]? = some (.str fi) := by
        rw [List.getElem?_map, hfi]
        rfl
      have atfi : atI (rs.map V.str) 0 = some (.str fi) := atI_nat (j := 0) hfiV
      have sz : (rs.map V.str).length < sizeLine := by
        rw [List.length_map]
        exact small1000 (n := rs.length) (by omega)
      refine ⟨.ref l, rfl, 1, rfl, l, _, -1, .str la, rfl, rfl, SqL.of e3, atla, .ref l, rfl, l, _, 0, .str fi, rfl, rfl, SqL.of e3, atfi, rfl, _, rfl, ?_⟩
      refine ite2 (fun c0 => ?_) (fun c => ?_)
      · refine ⟨.ref l, rfl, l, _, rfl, .inl (SqL.of e3), .int m, rfl, _, _, rfl, rfl, _, rfl, ?_⟩
        refine ite2 (fun c => ?_) (fun c => ?_)
        · have c' : (((rs.map V.str).length : Nat) : Int) ≤ m := of_decide_eq_true c
          rw [List.length_map] at c'
          refine ⟨.ref b, rfl, b, _, 3, rfl, b3, by omega, by decide, by decide, fun H5 r k5 b5 r0 r1 => ⟨rfl, _, rfl, ?_⟩⟩
          have e5 := k5 _ _ nbl.symm e3
          refine ite2 (fun c => ?_) (fun c => ?_)
          · refine ⟨.ref l, rfl, .inl ⟨rfl, _, SqL.of e5⟩, .ref l, rfl, l, _, 0, .str fi, rfl, rfl, SqL.of e5, atfi, ?_⟩
            refine ⟨l, _, _, rfl, rfl, e5, sz, ?_⟩
            have kR : Keep b H (upd H5 l (.lst (rs.map V.str ++ [.str fi]))) := fun c2 o nc e => by
              rw [upd_ne (ne_of_none e noH)]
              exact k5 _ _ nc (k3 _ _ nc e)
            have bR : BoxAt (upd H5 l (.lst (rs.map V.str ++ [.str fi]))) b (n + 2 + 2 * tn.toNat + 1) := by
              obtain ⟨A1, B1, C1, eb, q1⟩ := b5
              exact ⟨A1, B1, C1, by rw [upd_ne nbl]; exact eb, q1⟩
            have eR : upd H5 l (.lst (rs.map V.str ++ [.str fi])) l = some (.lst ((rs ++ [fi]).map V.str)) := by
              rw [upd_same, List.map_append]
              rfl
            have hpos : 0 < (rs ++ [fi]).length := by rw [List.length_append, List.length_singleton]; omega
            have hle : (((rs ++ [fi]).length : Nat) : Int) ≤ m + 2 := by rw [List.length_append, List.length_singleton]; omega
            have hne : fi ≠ la := fun z => by rw [z] at c0; simp at c0
            have hmem : WR ss (rs ++ [fi]) := wr_snoc hin hla (hin.1 _ (List.mem_of_getElem? hfi)) hne
            generalize rs ++ [fi] = rr at eR hpos hle hmem
            exact ⟨.ref l, rfl, l, _, rfl, .inl ⟨SqL.of eR, fun p np => q _ p rr (kR.trans (Keep.of_same (same_upd np))) ((bR.up (by omega)).same (same_upd np)) (kR.free (fun z => by rw [z] at np; obtain ⟨_, _, _, e, _⟩ := bR; rw [np] at e; cases e) np) (fun z => by rw [z] at np; obtain ⟨_, _, _, e, _⟩ := bR; rw [np] at e; cases e) upd_same hpos (by omega) hmem.1 hmem.2⟩⟩
          · have kR := k3.trans k5
            have bR := b5
            have eR := e5
            have hpos : 0 < rs.length := by omega
            have hle : ((rs.length : Nat) : Int) ≤ m + 2 := by omega
            have hmem := hin
            generalize rs = rr at eR hpos hle hmem
            exact ⟨.ref l, rfl, l, _, rfl, .inl ⟨SqL.of eR, fun p np => q _ p rr (kR.trans (Keep.of_same (same_upd np))) ((bR.up (by omega)).same (same_upd np)) (kR.free (fun z => by rw [z] at np; obtain ⟨_, _, _, e, _⟩ := bR; rw [np] at e; cases e) np) (fun z => by rw [z] at np; obtain ⟨_, _, _, e, _⟩ := bR; rw [np] at e; cases e) upd_same hpos (by omega) hmem.1 hmem.2⟩⟩
        · have kR := k3
          have bR := b3
          have eR := e3
          have hpos : 0 < rs.length := by omega
          have hle : ((rs.length : Nat) : Int) ≤ m + 2 := by omega
          have hmem := hin
          generalize rs = rr at eR hpos hle hmem
          exact ⟨.ref l, rfl, l, _, rfl, .inl ⟨SqL.of eR, fun p np => q _ p rr (kR.trans (Keep.of_same (same_upd np))) ((bR.up (by omega)).same (same_upd np)) (kR.free (fun z => by rw [z] at np; obtain ⟨_, _, _, e, _⟩ := bR; rw [np] at e; cases e) np) (fun z => by rw [z] at np; obtain ⟨_, _, _, e, _⟩ := bR; rw [np] at e; cases e) upd_same hpos (by omega) hmem.1 hmem.2⟩⟩
      · have kR := k3
        have bR := b3
        have eR := e3
        have hpos : 0 < rs.length := by omega
        have hle : ((rs.length : Nat) : Int) ≤ m + 2 := by omega
        have hmem := hin
        generalize rs = rr at eR hpos hle hmem
        exact ⟨.ref l, rfl, l, _, rfl, .inl ⟨SqL.of eR, fun p np => q _ p rr (kR.trans (Keep.of_same (same_upd np))) ((bR.up (by omega)).same (same_upd np)) (kR.free (fun z => by rw [z] at np; obtain ⟨_, _, _, e, _⟩ := bR; rw [np] at e; cases e) np) (fun z => by rw [z] at np; obtain ⟨_, _, _, e, _⟩ := bR; rw [np] at e; cases e) upd_same hpos (by omega) hmem.1 hmem.2⟩⟩
end
end K02
namespace K02
open PySem PySem.Spec PyProof.Rows L2 CS RZ
/-! ### same -/
def okD : Nat → PyData → Prop
  | 0, _ => False
  | _ + 1, .int _ => True
  | _ + 1, .str _ => True
  | _ + 1, .bool _ => True
  | _ + 1, .none => True
  | n + 1, .list ds => ds.length ≤ 1000 ∧ ∀ d ∈ ds, okD n d
  | n + 1, .tuple ds => ds.length ≤ 1000 ∧ ∀ d ∈ ds, okD n d
  | _ + 1, _ => False
mutual
theorem dp_same {K : PySem.W.Frag} {H H' : Hp} (s : Same H H') : ∀ {v : V} {d : PyData}, Dp K H v d → Dp K H' v d
  | _, _, .non => .non
  | _, _, .bl b => .bl b
  | _, _, .int i => .int i
  | _, _, .str x => .str x
  | _, _, .lst q r => .lst (s.seq q) (dp_sameAll s r)
  | _, _, .tup q r => .tup (sqT_same s q) (dp_sameAll s r)
theorem dp_sameAll {K : PySem.W.Frag} {H H' : Hp} (s : Same H H') : ∀ {vs : List V} {ds : List PyData}, DpAll K H vs ds → DpAll K H' vs ds
  | _, _, .nil => .nil
  | _, _, .cons q r => .cons (dp_same s q) (dp_sameAll s r)
end
theorem dpAll_len {K : PySem.W.Frag} {H : Hp} : ∀ {ds : List PyData} {vs : List V}, DpAll K H vs ds → vs.length = ds.length
  | _, _, .nil => rfl
  | _, _, .cons _ r => congrArg (· + 1) (dpAll_len r)
theorem dpAll_at {K : PySem.W.Frag} {H : Hp} : ∀ {ds : List PyData} {vs : List V}, DpAll K H vs ds → ∀ {i : Nat} {v : V}, vs[i]? = some v → ∃ d, ds[i]? = some d ∧ Dp K H v d
  | _, _, .nil, i, _, h => by cases h
  | _, _, .cons q r, 0, _, h => by cases h; exact ⟨_, rfl, q⟩
  | _, _, .cons q r, i + 1, v, h => dpAll_at r (i := i) h
theorem tyL {K : PySem.W.Frag} {H : Hp} {a : Addr} {xs : List V} (h : SqL K H a xs) : TyX K H (.ref a) (.type "list") := by
  rcases h with (h | ⟨o, h⟩) | ⟨o, its, n, h, c, _⟩
  · exact .base (.lst h)
  · exact .base (.frz h)
  · exact .kList h c
theorem tyT {K : PySem.W.Frag} {H : Hp} {a : Addr} {xs : List V} (h : SqT K H a xs) : TyX K H (.ref a) (.type "tuple") := by
  rcases h with (h | ⟨o, h⟩) | ⟨o, its, n, h, c, _⟩
  · exact .base (.tup h)
  · exact .fTuple h
  · exact .kTuple h c
theorem walk_zipT {K : PySem.W.Frag} {a b : Addr} {xs ys : List V} {n : Nat} (hn : n = min xs.length ys.length) : Walk (ItzT K a b) n (fun H => SqT K H a xs ∧ SqT K H b ys) (YPair (fun i => xs[i]?) (fun i => ys[i]?)) := by
  subst hn
  refine ⟨fun i H hi q => ?_, fun H q => ⟨xs, ys, q.1, q.2, by omega⟩, fun i H v H' hi q y => ?_⟩
  · have l1 : i < xs.length := by omega
    have l2 : i < ys.length := by omega
    exact ⟨xs, ys, xs[i], ys[i], q.1, q.2, by simp [l1], by simp [l2]⟩
  · obtain ⟨T, x, z, e1, e2, e3, e4, e5⟩ := y
    exact ⟨T, x, z, e1, e2, e3, e4 xs q.1, e5 ys q.2⟩
section
variable {P : Program} {w : World} {K : PySem.W.Frag} {mg : Str → Option Value} {base : Heap}
def spSame (K : PySem.W.Frag) (n : Nat) : Sp := fun vs H Q _ => ∃ (x y : V) (d : PyData), vs = [x, y] ∧ Dp K H x d ∧ Dp K H y d ∧ okD n d ∧ ∀ H' : Hp, Same H H' → Q (.bl true) H'
/-- what the top says of the built-ins that same asks -/
structure SmT (mg : Str → Option Value) : Prop where
  is : mg "isinstance" = none
  li : mg "list" = none
  tu : mg "tuple" = none
  le : mg "len" = none
  al : mg "all" = none
  zi : mg "zip" = none
  bo : mg "bool" = none
  st : mg "str" = none
  int : mg "int" = none
abbrev nSame : List Str := ["_law_got", "_law_due", "_law_mine", "_law_its"]
theorem scSame : FnScope nSame ["_law_got", "_law_due"] (defScope sSame) := ⟨rfl, rfl, rfl, by decide +kernel, rfl, by decide +kernel, by decide +kernel⟩
theorem same_none {f : Addr} {fd : FuncData} : FnOk P w K mg base CX0 0 f fd ["_law_got", "_law_due"] (spSame K 0) := by
  have no : ∀ vs H Q E, ¬ spSame K 0 vs H Q E := fun vs H Q E h => by
    obtain ⟨_, _, d, _, _, _, h, _⟩ := h
    cases d <;> exact h
  exact ⟨fun vs H Q E h => absurd h (no vs H Q E), fun A outer s H args us vs Q E _ _ _ _ h => absurd h (no vs H Q E)⟩
theorem isi_one {t c : String} {b : Bool} (h : kitB t c = some b) : PySem.W.kitOne K (.type t) (.type c) = some b := kit_ty h
theorem any_ff {t a b : String} (h1 : kitB t a = some false) (h2 : kitB t b = some false) : PySem.W.kitAny K (.type t) [.type a, .type b] = some false :=
  kitAny_cons (kit_ty h1) (fun _ => kitAny_cons (kit_ty h2) (fun _ => kitAny_nil) fun z => nomatch z) fun z => nomatch z
theorem any_t {t a b : String} (h1 : kitB t a = some true) : PySem.W.kitAny K (.type t) [.type a, .type b] = some true := kitAny_cons (kit_ty h1) (fun z => nomatch z) fun _ => rfl
theorem any_ft {t a b : String} (h1 : kitB t a = some false) (h2 : kitB t b = some true) : PySem.W.kitAny K (.type t) [.type a, .type b] = some true :=
  kitAny_cons (kit_ty h1) (fun _ => kitAny_cons (kit_ty h2) (fun z => nomatch z) fun _ => rfl) fun _ => rfl
theorem all_yes : ∀ n : Nat, (List.replicate n true).all id = true
  | 0 => rfl
  | n + 1 => by
    rw [List.replicate_succ, List.all_cons, all_yes n]
    rfl
theorem ok_same {n : Nat} {f : Addr} {fd : FuncData} (F : Fun K "_law_same" "_law_same" sSame f fd) (G : FnOk P w K mg base CX0 n f fd ["_law_got", "_law_due"] (spSame K n)) (bG : Binds K fd ["_law_got", "_law_due"] []) (mG : mg "_law_same" = some (.ref f)) (T : SmT mg) :
    FnOk P w K mg base CX0 (n + 1) f fd ["_law_got", "_law_due"] (spSame K (n + 1)) := by
  refine F.ok scSame (fun vs H Q E h => ?_) (fun cdv A outer s H vs Q E hr h => ?_)
  · obtain ⟨x, y, d, rfl, _⟩ := h
    rfl
  · obtain ⟨x, y, d, rfl, hx, hy, hd, q⟩ := h
    refine ⟨_, pss_cons (ps_if (pt_val (pe_callB call_isiT (by rfl) T.is (by decide +kernel) (pa_cons (pv 1) (pa_cons (pe_tup (pa_cons (pe_bltn (v := .ty "list") (by rfl) T.li (by decide +kernel) rfl) (pa_cons (pe_bltn (v := .ty "tuple") (by rfl) T.tu (by decide +kernel) rfl) pa_nil))) pa_nil))))
        (pss_cons (ps_if (PW.pt (pw_or (pt_cmpR op_ne (pe_callB call_isi (by rfl) T.is (by decide +kernel) (pa_cons (pv 0) (pa_cons (pe_bltn (v := .ty "list") (by rfl) T.li (by decide +kernel) rfl) pa_nil))) (pe_callB call_isi (by rfl) T.is (by decide +kernel) (pa_cons (pv 1) (pa_cons (pe_bltn (v := .ty "list") (by rfl) T.li (by decide +kernel) rfl) pa_nil))) (nomark _))
            (pw_or1 (pt_cmpR op_ne (pe_callB call_isi (by rfl) T.is (by decide +kernel) (pa_cons (pv 0) (pa_cons (pe_bltn (v := .ty "tuple") (by rfl) T.tu (by decide +kernel) rfl) pa_nil))) (pe_callB call_isi (by rfl) T.is (by decide +kernel) (pa_cons (pv 1) (pa_cons (pe_bltn (v := .ty "tuple") (by rfl) T.tu (by decide +kernel) rfl) pa_nil))) (nomark _)))))
          (pss_one (ps_ret (pe_bl))) pss_nil)
        (pss_one (ps_ret (pe_and (pe_cmpR op_eq (pe_callB call_len_seq (by rfl) T.le PySem.boot_len (pa_cons (pv 0) pa_nil)) (pe_callB call_len_seq (by rfl) T.le PySem.boot_len (pa_cons (pv 1) pa_nil)) (nomark _))
          (pe_one (pe_callB (cr_all rfl) (by rfl) T.al (by decide +kernel) (pa_cons (pe_lc (own := [("_law_mine", 2), ("_law_its", 3)]) (g := gTup K 2 (gCons (gName 2) (gCons (gName 3) gNil))) (by rfl) scSame.nd (pi_zipA (by rfl) T.zi (pa_cons (pv 0) (pa_cons (pv 1) pa_nil)))
            (blkOk_by (own := [("_law_mine", 2), ("_law_its", 3)]) (N := nSame) (sc := defScope sSame) (by decide +kernel))
            (fun _ _ _ _ _ => pg_tup rfl (pgs_cons (pg_name (i := 2) scSame.nd rfl (Or.inl rfl) (.inr rfl)) (pgs_cons (pg_name (i := 3) scSame.nd rfl (Or.inl rfl) (.inr rfl)) pgs_nil))) (fun _ _ _ _ _ => pts_nil)
            (fun _ _ _ _ _ => pe_call G hr (by rfl) mG F.kp bG .nil pass0 (pa_cons (pv 2) (pa_cons (pv 3) pa_nil)))) pa_nil))))))) pss_nil)
      (pss_cons (ps_if (PW.pt (pw_or (pt_cmpR op_isN (pv 1) pe_non (nomark _)) (pw_or1 (pt_val (pe_callB call_isiT (by rfl) T.is (by decide +kernel) (pa_cons (pv 1) (pa_cons (pe_tup (pa_cons (pe_bltn (v := .ty "bool") (by rfl) T.bo (by decide +kernel) rfl) (pa_cons (pe_bltn (v := .ty "str") (by rfl) T.st (by decide +kernel) rfl) pa_nil))) pa_nil)))))))
        (pss_one (ps_ret (pe_and (pe_cmpR op_eq (pv 0) (pv 1) (nomark _)) (pe_and (pe_cmpR op_eq (pe_callB call_isi (by rfl) T.is (by decide +kernel) (pa_cons (pv 0) (pa_cons (pe_bltn (v := .ty "bool") (by rfl) T.bo (by decide +kernel) rfl) pa_nil))) (pe_callB call_isi (by rfl) T.is (by decide +kernel) (pa_cons (pv 1) (pa_cons (pe_bltn (v := .ty "bool") (by rfl) T.bo (by decide +kernel) rfl) pa_nil))) (nomark _))
          (pe_one (pe_cmpR op_eq (pe_cmpR op_isN (pv 0) pe_non (nomark _)) (pe_cmpR op_isN (pv 1) pe_non (nomark _)) (nomark _))))))) pss_nil)
      (pss_one (ps_ret (pe_and (pe_callB call_isi (by rfl) T.is (by decide +kernel) (pa_cons (pv 0) (pa_cons (pe_bltn (v := .ty "int") (by rfl) T.int (by decide +kernel) rfl) pa_nil)))
        (pe_and (pe_not (pe_callB call_isi (by rfl) T.is (by decide +kernel) (pa_cons (pv 0) (pa_cons (pe_bltn (v := .ty "bool") (by rfl) T.bo (by decide +kernel) rfl) pa_nil)))) (pe_one (pe_cmpR op_eq (pv 0) (pv 1) (nomark _)))))))), ?_⟩
    have two : 2 ≤ sizeLine := by decide
    cases d with
    | int i =>
      cases hx
      cases hy
      refine ⟨.int i, rfl, two, fun p np => ⟨_, p, _, _, _, false, rfl, upd_same, .cons (.ty _) (.cons (.ty _) .nil), .base (.int i), any_ff (by decide +kernel) (by decide +kernel), _, rfl, ?_⟩⟩
      refine ite2 (fun z => absurd z Bool.false_ne_true) (fun _ => ?_)
      refine ⟨.int i, rfl, rfl, _, rfl, ?_⟩
      refine ite2 (fun z => absurd (of_decide_eq_true z) (fun e => by cases e)) (fun _ => ?_)
      refine ⟨.int i, rfl, two, fun p2 np2 => ⟨_, p2, _, _, _, false, rfl, upd_same, .cons (.ty _) (.cons (.ty _) .nil), .base (.int i), any_ff (by decide +kernel) (by decide +kernel), _, rfl, ?_⟩⟩
      refine ite2 (fun z => absurd z Bool.false_ne_true) (fun _ => ?_)
      refine ⟨.int i, rfl, _, _, _, _, true, rfl, .ty _, .base (.int i), isi_one (by decide +kernel), _, rfl, ?_⟩
      refine ite2 (fun _ => ?_) (fun z => absurd rfl z)
      refine ⟨.int i, rfl, _, _, _, _, false, rfl, .ty _, .base (.int i), isi_one (by decide +kernel), _, rfl, _, rfl, ?_⟩
      refine ite2 (fun _ => ?_) (fun z => absurd rfl z)
      refine ⟨.int i, rfl, .int i, rfl, rfl, ?_⟩
      have e : decide (V.int i = V.int i) = true := decide_eq_true rfl
      rw [e]
      exact q _ ((same_upd np).trans (same_upd np2))
    | str z =>
      cases hx
      cases hy
      refine ⟨.str z, rfl, two, fun p np => ⟨_, p, _, _, _, false, rfl, upd_same, .cons (.ty _) (.cons (.ty _) .nil), .base (.str z), any_ff (by decide +kernel) (by decide +kernel), _, rfl, ?_⟩⟩
      refine ite2 (fun z => absurd z Bool.false_ne_true) (fun _ => ?_)
      refine ⟨.str z, rfl, rfl, _, rfl, ?_⟩
      refine ite2 (fun z => absurd (of_decide_eq_true z) (fun e => by cases e)) (fun _ => ?_)
      refine ⟨.str z, rfl, two, fun p2 np2 => ⟨_, p2, _, _, _, true, rfl, upd_same, .cons (.ty _) (.cons (.ty _) .nil), .base (.str z), any_ft (by decide +kernel) (by decide +kernel), _, rfl, ?_⟩⟩
      refine ite2 (fun _ => ?_) (fun z => absurd rfl z)
      refine ⟨.str z, rfl, .str z, rfl, rfl, _, rfl, ?_⟩
      refine ite2 (fun _ => ?_) (fun e => absurd (decide_eq_true rfl) e)
      refine ⟨.str z, rfl, _, _, _, _, false, rfl, .ty _, .base (.str z), isi_one (by decide +kernel), .str z, rfl, _, _, _, _, false, rfl, .ty _, .base (.str z), isi_one (by decide +kernel), rfl, _, rfl, ?_⟩
      refine ite2 (fun _ => ?_) (fun e => absurd rfl e)
      refine ⟨.str z, rfl, rfl, .str z, rfl, rfl, rfl, ?_⟩
      have e : decide (V.bl (decide (V.str z = V.non)) = V.bl (decide (V.str z = V.non))) = true := decide_eq_true rfl
      rw [e]
      exact q _ ((same_upd np).trans (same_upd np2))
    | bool z =>
      cases hx
      cases hy
      refine ⟨.bl z, rfl, two, fun p np => ⟨_, p, _, _, _, false, rfl, upd_same, .cons (.ty _) (.cons (.ty _) .nil), .base (.bl z), any_ff (by decide +kernel) (by decide +kernel), _, rfl, ?_⟩⟩
      refine ite2 (fun z => absurd z Bool.false_ne_true) (fun _ => ?_)
      refine ⟨.bl z, rfl, rfl, _, rfl, ?_⟩
      refine ite2 (fun z => absurd (of_decide_eq_true z) (fun e => by cases e)) (fun _ => ?_)
      refine ⟨.bl z, rfl, two, fun p2 np2 => ⟨_, p2, _, _, _, true, rfl, upd_same, .cons (.ty _) (.cons (.ty _) .nil), .base (.bl z), any_t (by decide +kernel), _, rfl, ?_⟩⟩
      refine ite2 (fun _ => ?_) (fun z => absurd rfl z)
      refine ⟨.bl z, rfl, .bl z, rfl, rfl, _, rfl, ?_⟩
      refine ite2 (fun _ => ?_) (fun e => absurd (decide_eq_true rfl) e)
      refine ⟨.bl z, rfl, _, _, _, _, true, rfl, .ty _, .base (.bl z), isi_one (by decide +kernel), .bl z, rfl, _, _, _, _, true, rfl, .ty _, .base (.bl z), isi_one (by decide +kernel), rfl, _, rfl, ?_⟩
      refine ite2 (fun _ => ?_) (fun e => absurd rfl e)
      refine ⟨.bl z, rfl, rfl, .bl z, rfl, rfl, rfl, ?_⟩
      have e : decide (V.bl (decide (V.bl z = V.non)) = V.bl (decide (V.bl z = V.non))) = true := decide_eq_true rfl
      rw [e]
      exact q _ ((same_upd np).trans (same_upd np2))
    | none =>
      cases hx
      cases hy
      refine ⟨.non, rfl, two, fun p np => ⟨_, p, _, _, _, false, rfl, upd_same, .cons (.ty _) (.cons (.ty _) .nil), .base .non, any_ff (by decide +kernel) (by decide +kernel), _, rfl, ?_⟩⟩
      refine ite2 (fun z => absurd z Bool.false_ne_true) (fun _ => ?_)
      refine ⟨.non, rfl, rfl, _, rfl, ?_⟩
      refine ite2 (fun _ => ?_) (fun z => absurd (decide_eq_true rfl) z)
      refine ⟨.non, rfl, .non, rfl, rfl, _, rfl, ?_⟩
      refine ite2 (fun _ => ?_) (fun e => absurd (decide_eq_true rfl) e)
      refine ⟨.non, rfl, _, _, _, _, false, rfl, .ty _, .base .non, isi_one (by decide +kernel), .non, rfl, _, _, _, _, false, rfl, .ty _, .base .non, isi_one (by decide +kernel), rfl, _, rfl, ?_⟩
      refine ite2 (fun _ => ?_) (fun e => absurd rfl e)
      refine ⟨.non, rfl, rfl, .non, rfl, rfl, rfl, ?_⟩
      have e : decide (V.bl (decide (V.non = V.non)) = V.bl (decide (V.non = V.non))) = true := decide_eq_true rfl
      rw [e]
      exact q _ (same_upd np)
    | list ds =>
      obtain ⟨hlen, hds⟩ := hd
      cases hx with
      | lst hxs hxa =>
      cases hy with
      | lst hys hya =>
      rename_i a xs b ys
      have lx := dpAll_len hxa
      have ly := dpAll_len hya
      refine ⟨.ref b, rfl, two, fun p np => ⟨_, p, _, _, _, true, rfl, upd_same, .cons (.ty _) (.cons (.ty _) .nil), tyL ((same_upd np).seq hys), any_t (by decide +kernel), _, rfl, ?_⟩⟩
      refine ite2 (fun _ => ?_) (fun z => absurd rfl z)
      have s1 : Same H (upd H p (.tup [.ty "list", .ty "tuple"])) := same_upd np
      have hxs1 := (s1).seq hxs
      have hys1 := (s1).seq hys
      refine ⟨.ref a, rfl, _, _, _, _, true, rfl, .ty _, tyL hxs1, isi_one (by decide +kernel), .ref b, rfl, _, _, _, _, true, rfl, .ty _, tyL hys1, isi_one (by decide +kernel), rfl, _, rfl, ?_⟩
      refine ite2 (fun c => by rw [decide_eq_true rfl] at c; cases c) (fun _ => ?_)
      refine ⟨.ref a, rfl, _, _, _, _, false, rfl, .ty _, tyL hxs1, isi_one (by decide +kernel), .ref b, rfl, _, _, _, _, false, rfl, .ty _, tyL hys1, isi_one (by decide +kernel), rfl, _, rfl, ?_⟩
      refine ite2 (fun c => by rw [decide_eq_true rfl] at c; cases c) (fun _ => ?_)
      refine ⟨.ref a, rfl, a, _, rfl, .inl hxs1, .ref b, rfl, b, _, rfl, .inl hys1, rfl, _, rfl, ?_⟩
      refine ite2 (fun _ => ?_) (fun z => absurd (decide_eq_true (congrArg V.int (by rw [lx, ly]))) z)
      refine ⟨.ref a, rfl, .ref b, rfl, a, b, xs, ys, rfl, .inl ⟨hxs1, hys1, fun D nD => lc_it (walk_zip (K := K) (a := a) (b := b) (xs := xs) (ys := ys) rfl)
        (fun i H' => Same (upd H p (.tup [.ty "list", .ty "tuple"])) H' ∧ H' D = some (.lst ((List.replicate i true).map V.bl))) ⟨same_upd nD, upd_same⟩ (fun i H' _ z => ⟨(z.1).seq hxs1, (z.1).seq hys1⟩) ?_ ?_⟩⟩
      · rintro i v H2 H3 hi ⟨s2, eD⟩ ⟨T1, x1, y1, rfl, nT, rfl, hx1, hy1⟩
        obtain ⟨d1, e1, r1⟩ := dpAll_at hxa hx1
        obtain ⟨d2, e2, r2⟩ := dpAll_at hya hy1
        have ed : d1 = d2 := by
          rw [e1] at e2
          exact Option.some.inj e2
        subst ed
        have s3 : Same (upd H p (.tup [.ty "list", .ty "tuple"])) (upd H2 T1 (.tup [x1, y1])) := s2.trans (same_upd nT)
        have hi' : i < 1000 := by omega
        refine ⟨T1, [x1, y1], rfl, SqT.of upd_same, rfl, x1, [y1], rfl, y1, [], rfl, rfl, ?_⟩
        refine ⟨rfl, ?_⟩
        unfold tYes
        refine ite2 (fun _ => ?_) (fun z => absurd rfl z)
        refine ⟨x1, rfl, y1, rfl, x1, y1, d1, rfl, dp_same (s1.trans s3) r1, dp_same (s1.trans s3) r2, hds d1 (List.mem_of_getElem? e1), fun H4 s4 => ?_⟩
        have eD4 : H4 D = some (.lst ((List.replicate i true).map V.bl)) := s4 _ _ (by rw [upd_ne (ne_of_none eD nT)]; exact eD)
        refine ⟨_, eD4, ?_, fun c o e => ?_, ?_⟩
        · rw [List.length_map, List.length_replicate]
          exact small1000 (Nat.le_of_lt hi')
        · rw [upd_ne (ne_of_none e nD)]
          exact s4 _ _ (s3 _ _ e)
        · rw [upd_same, List.replicate_succ', List.map_append]
          rfl
      · rintro H2 ⟨s2, eD⟩
        refine ⟨D, _, rfl, SqL.of eD, ?_⟩
        rw [all_yes]
        exact q _ (s1.trans s2)
    | tuple ds =>
      obtain ⟨hlen, hds⟩ := hd
      cases hx with
      | tup hxs hxa =>
      cases hy with
      | tup hys hya =>
      rename_i a xs b ys
      have lx := dpAll_len hxa
      have ly := dpAll_len hya
      refine ⟨.ref b, rfl, two, fun p np => ⟨_, p, _, _, _, true, rfl, upd_same, .cons (.ty _) (.cons (.ty _) .nil), tyT (sqT_same (same_upd np) hys), any_ft (by decide +kernel) (by decide +kernel), _, rfl, ?_⟩⟩
      refine ite2 (fun _ => ?_) (fun z => absurd rfl z)
      have s1 : Same H (upd H p (.tup [.ty "list", .ty "tuple"])) := same_upd np
      have hxs1 := sqT_same (s1) hxs
      have hys1 := sqT_same (s1) hys
      refine ⟨.ref a, rfl, _, _, _, _, false, rfl, .ty _, tyT hxs1, isi_one (by decide +kernel), .ref b, rfl, _, _, _, _, false, rfl, .ty _, tyT hys1, isi_one (by decide +kernel), rfl, _, rfl, ?_⟩
      refine ite2 (fun c => by rw [decide_eq_true rfl] at c; cases c) (fun _ => ?_)
      refine ⟨.ref a, rfl, _, _, _, _, true, rfl, .ty _, tyT hxs1, isi_one (by decide +kernel), .ref b, rfl, _, _, _, _, true, rfl, .ty _, tyT hys1, isi_one (by decide +kernel), rfl, _, rfl, ?_⟩
      refine ite2 (fun c => by rw [decide_eq_true rfl] at c; cases c) (fun _ => ?_)
      refine ⟨.ref a, rfl, a, _, rfl, .inr hxs1, .ref b, rfl, b, _, rfl, .inr hys1, rfl, _, rfl, ?_⟩
      refine ite2 (fun _ => ?_) (fun z => absurd (decide_eq_true (congrArg V.int (by rw [lx, ly]))) z)
      refine ⟨.ref a, rfl, .ref b, rfl, a, b, xs, ys, rfl, .inr ⟨hxs1, hys1, fun D nD => lc_it (walk_zipT (K := K) (a := a) (b := b) (xs := xs) (ys := ys) rfl)
        (fun i H' => Same (upd H p (.tup [.ty "list", .ty "tuple"])) H' ∧ H' D = some (.lst ((List.replicate i true).map V.bl))) ⟨same_upd nD, upd_same⟩ (fun i H' _ z => ⟨sqT_same (z.1) hxs1, sqT_same (z.1) hys1⟩) ?_ ?_⟩⟩
      · rintro i v H2 H3 hi ⟨s2, eD⟩ ⟨T1, x1, y1, rfl, nT, rfl, hx1, hy1⟩
        obtain ⟨d1, e1, r1⟩ := dpAll_at hxa hx1
        obtain ⟨d2, e2, r2⟩ := dpAll_at hya hy1
        have ed : d1 = d2 := by
          rw [e1] at e2
          exact Option.some.inj e2
        subst ed
        have s3 : Same (upd H p (.tup [.ty "list", .ty "tuple"])) (upd H2 T1 (.tup [x1, y1])) := s2.trans (same_upd nT)
        have hi' : i < 1000 := by omega
        refine ⟨T1, [x1, y1], rfl, SqT.of upd_same, rfl, x1, [y1], rfl, y1, [], rfl, rfl, ?_⟩
        refine ⟨rfl, ?_⟩
        unfold tYes
        refine ite2 (fun _ => ?_) (fun z => absurd rfl z)
        refine ⟨x1, rfl, y1, rfl, x1, y1, d1, rfl, dp_same (s1.trans s3) r1, dp_same (s1.trans s3) r2, hds d1 (List.mem_of_getElem? e1), fun H4 s4 => ?_⟩
        have eD4 : H4 D = some (.lst ((List.replicate i true).map V.bl)) := s4 _ _ (by rw [upd_ne (ne_of_none eD nT)]; exact eD)
        refine ⟨_, eD4, ?_, fun c o e => ?_, ?_⟩
        · rw [List.length_map, List.length_replicate]
          exact small1000 (Nat.le_of_lt hi')
        · rw [upd_ne (ne_of_none e nD)]
          exact s4 _ _ (s3 _ _ e)
        · rw [upd_same, List.replicate_succ', List.map_append]
          rfl
      · rintro H2 ⟨s2, eD⟩
        refine ⟨D, _, rfl, SqL.of eD, ?_⟩
        rw [all_yes]
        exact q _ (s1.trans s2)
    | _ => exact absurd hd id
end
end K02
namespace K02
open PySem PySem.Spec PyProof.Rows L2 CS
/-- what stood at first stands, and all of H2 but l -/
def KeepTo (H H2 : Hp) (l : Addr) (H' : Hp) : Prop := Same H H' ∧ Keep l H2 H'
theorem cut3 (ns : List Int) : cutV (ns.map V.int) (some 3) (some 63) = ((ns.drop (min 3 ns.length)).take (min 63 ns.length - min 3 ns.length)).map V.int := by
  unfold cutV
  rw [show HT.sIx (ns.map V.int).length 0 (some 3) = min 3 (ns.map V.int).length from HT.sIx_nat _ 0 3, show HT.sIx (ns.map V.int).length (ns.map V.int).length (some 63) = min 63 (ns.map V.int).length from HT.sIx_nat _ _ 63, List.length_map, List.map_take, List.map_drop]
theorem cut0 (ns : List Int) : cutV (ns.map V.int) none (some 3) = (ns.take (min 3 ns.length)).map V.int := by
  unfold cutV
  rw [show HT.sIx (ns.map V.int).length 0 none = 0 from HT.sIx_none _ _, show HT.sIx (ns.map V.int).length (ns.map V.int).length (some 3) = min 3 (ns.map V.int).length from HT.sIx_nat _ _ 3, List.length_map, List.map_take]
  rfl
section
variable {P : Program} {w : World} {K : PySem.W.Frag} {mg : Str → Option Value} {base : Heap}
def spCells (K : PySem.W.Frag) : Sp := fun vs H Q _ => ∃ (a : Addr) (ns : List Int), vs = [.ref a, .int 3] ∧ SqL K H a (ns.map V.int) ∧ ns.length ≤ 63 ∧
  ∀ (H' : Hp) (p : Addr) (ms : List Int), Same H H' → H p = none → H' p = some (.lst (ms.map V.int)) → 1 ≤ ms.length → ms.length ≤ 3 → Q (.ref p) H'
theorem scCells : FnScope ["_law_script", "_law_most_so", "_law_cells_here", "_law_k", "_law_cell", "_law_at_so"] ["_law_script", "_law_most_so"] (defScope sCells) := ⟨rfl, rfl, rfl, by decide +kernel, rfl, by decide +kernel, by decide +kernel⟩
theorem ok_cells {f : Addr} {fd : FuncData} {k : Nat} (F : Fun K "_law_cells" "_law_cells" sCells f fd) (mL : mg "list" = none) (mE : mg "enumerate" = none) (mi : mg "int" = none) : FnOk P w K mg base CX0 (k + 1) f fd ["_law_script", "_law_most_so"] (spCells K) := by
  refine F.ok scCells (fun vs H Q E h => ?_) (fun cdv A outer s H vs Q E hr h => ?_)
  · obtain ⟨a, ns, rfl, _⟩ := h
    rfl
  · obtain ⟨a, ns, rfl, hS, hn, q⟩ := h
    refine ⟨_, pss_cons (ps_set (i := 2) scCells.nd rfl (.inl rfl) (pe_orT (pe_callTy call_list_of (by rfl) mL (by decide +kernel) (pa_cons (pe_slice sl_list (pv 0) po_none (po_some (pv 1))) pa_nil)) (pe_one (pe_lst (pa_cons pe_int pa_nil)))))
      (pss_cons (ps_for PassesOwn.never rfl (pi_enum (by rfl) mE (pa_cons (pe_slice sl_list (pv 0) (po_some (pv 1)) (po_some pe_int)) pa_nil))
          (pg_tup rfl (pgs_cons (pg_name (i := 3) scCells.nd rfl (.inl rfl)) (pgs_cons (pg_name (i := 4) scCells.nd rfl (.inl rfl)) pgs_nil)))
        (pss_cons (ps_set (i := 5) scCells.nd rfl (.inl rfl) (pe_op op_modN (pe_callTy call_int1 (by rfl) mi (by decide +kernel) (pa_cons (pv 3) pa_nil)) (pv 1)))
          (pss_one (ps_asg (pe_op op_add (pe_ix ix_list (pv 2) (pv 5) (fun _ _ => rfl)) (pe_op op_mul (pv 4) (pe_op op_add (pv 3) pe_int))) (pg_sub (pv 2) (pv 5) set_list)))))
      (pss_one (ps_ret (pv 2)))), ?_⟩
    refine ⟨.ref a, rfl, .int 3, rfl, 3, rfl, a, ns.map V.int, rfl, hS, fun c nc => ?_⟩
    rw [cut0]
    refine ⟨c, _, rfl, .inl (SqL.of upd_same), fun l nl0 => ?_⟩
    have s0 : Same H (upd (upd H c (.lst ((ns.take (min 3 ns.length)).map V.int))) l (.lst ((ns.take (min 3 ns.length)).map V.int))) := (same_upd nc).trans (same_upd nl0)
    have nlH : H l = none := (same_upd nc).free nl0
    have hl1 : (ns.take (min 3 ns.length)).length = min 3 ns.length := by
      rw [List.length_take]
      omega
    refine ⟨_, .inl ⟨_, SqL.of upd_same, rfl⟩, ?_⟩
    refine ite2 (fun c1 => ?_) (fun c1 => ?_)
    · have hpos : 0 < ns.length := by
        cases ns with
        | nil => cases c1
        | cons x r => exact Nat.succ_pos _
      have e1 : (upd (upd H c (.lst ((ns.take (min 3 ns.length)).map V.int))) l (.lst ((ns.take (min 3 ns.length)).map V.int))) l = some (.lst ((ns.take (min 3 ns.length)).map V.int)) := upd_same
      generalize upd (upd H c (.lst ((ns.take (min 3 ns.length)).map V.int))) l (.lst ((ns.take (min 3 ns.length)).map V.int)) = H1 at s0 e1
      generalize ns.take (min 3 ns.length) = ms at e1 hl1
      have s1 := s0
      have nl := nlH
      have m1 : 1 ≤ ms.length := by omega
      have m3 : ms.length ≤ 3 := by omega
      have h3 : 3 < ns.length → ms.length = 3 := fun _ => by omega
      refine ⟨.ref a, rfl, .int 3, rfl, 3, rfl, 63, rfl, a, ns.map V.int, rfl, s1.seq hS, fun c2 nc2 => ?_⟩
      rw [cut3]
      have s2 : Same H (upd H1 c2 (.lst (((ns.drop (min 3 ns.length)).take (min 63 ns.length - min 3 ns.length)).map V.int))) := s1.trans (same_upd nc2)
      have ncl : c2 ≠ l := fun z => by
        rw [z, e1] at nc2
        cases nc2
      have hC : SqL K (upd H1 c2 (.lst (((ns.drop (min 3 ns.length)).take (min 63 ns.length - min 3 ns.length)).map V.int))) c2 (((ns.drop (min 3 ns.length)).take (min 63 ns.length - min 3 ns.length)).map V.int) := SqL.of upd_same
      have eL : (upd H1 c2 (.lst (((ns.drop (min 3 ns.length)).take (min 63 ns.length - min 3 ns.length)).map V.int))) l = some (.lst (ms.map V.int)) := by
        rw [upd_ne ncl.symm]
        exact e1
      have hlenr : ((ns.drop (min 3 ns.length)).take (min 63 ns.length - min 3 ns.length)).length = min 63 ns.length - min 3 ns.length := by
        rw [List.length_take, List.length_drop]
        omega
      generalize ((ns.drop (min 3 ns.length)).take (min 63 ns.length - min 3 ns.length)) = rest at s2 hC eL hlenr
      generalize upd H1 c2 (.lst (rest.map V.int)) = H2 at s2 hC eL
      refine ⟨c2, rest.map V.int, rfl, hC, for_it (walk_enum (K := K) (a := c2) (xs := rest.map V.int)) (fun i σ H' => ∃ (y3 y4 y5 : Option V) (zs : List Int), σ = [some (.ref a), some (.int 3), some (.ref l), y3, y4, y5] ∧ KeepTo H H2 l H' ∧ H' l = some (.lst (zs.map V.int)) ∧ zs.length = ms.length)
        ⟨none, none, none, ms, rfl, ⟨s2, fun _ _ _ e => e⟩, eL, rfl⟩ (fun i σ H' _ z => by
          obtain ⟨_, _, _, _, _, kk, _, _⟩ := z
          exact Keep.sqL (b := l) kk.2 ncl hC) ?_ ?_⟩
      · rintro i v σ H3 H4 hi ⟨y3, y4, y5, zs, rfl, kk, e3, hzl⟩ ⟨T, x, y, rfl, nT, rfl, hx, hy⟩
        cases hx
        replace hy : (rest.map V.int)[i]? = some y := hy
        rw [List.getElem?_map] at hy
        rw [List.length_map, hlenr] at hi
        cases e : rest[i]? with
        | none =>
          rw [e] at hy
          cases hy
        | some u =>
          rw [e] at hy
          cases hy
          have hz3 : zs.length = 3 := by rw [hzl]; exact h3 (by omega)
          have f0 := Int.fmod_nonneg_of_pos (i : Int) (b := 3) (by decide)
          have f1 := Int.fmod_lt_of_pos (i : Int) (b := 3) (by decide)
          have nlT : l ≠ T := ne_of_none e3 nT
          have e3T : (upd H3 T (.tup [.int (i : Nat), .int u])) l = some (.lst (zs.map V.int)) := by
            rw [upd_ne nlT]
            exact e3
          refine ⟨T, [.int (i : Nat), .int u], rfl, SqT.of upd_same, rfl, .int (i : Nat), [.int u], rfl, .int u, [], rfl, rfl, ?_⟩
          refine ⟨.int (i : Nat), rfl, .inl ⟨_, rfl, .int 3, rfl, _, _, rfl, rfl, (by show (3 : Int) ≠ 0; decide), ?_⟩⟩
          have hj : (Int.fmod (i : Int) 3).toNat < zs.length := by omega
          have hat : atI (zs.map V.int) (Int.fmod (i : Int) 3) = some (.int zs[(Int.fmod (i : Int) 3).toNat]) := by
            have za := atI_nat (j := (Int.fmod (i : Int) 3).toNat) (xs := zs.map V.int) (v := .int zs[(Int.fmod (i : Int) 3).toNat]) (by rw [List.getElem?_map, List.getElem?_eq_getElem hj]; rfl)
            rw [show (((Int.fmod (i : Int) 3).toNat : Nat) : Int) = Int.fmod (i : Int) 3 by omega] at za
            exact za
          refine ⟨.ref l, rfl, .int _, rfl, l, _, _, _, rfl, rfl, SqL.of e3T, hat, .int u, rfl, .int (i : Nat), rfl, _, _, rfl, rfl, _, _, rfl, rfl, .inr (by omega), _, _, rfl, rfl, ?_⟩
          refine ⟨.ref l, rfl, .int _, rfl, l, _, _, (Int.fmod (i : Int) 3).toNat, rfl, rfl, e3T, ?_, ?_⟩
          · unfold ixN
            rw [List.length_map, if_pos f0, if_pos (by omega)]
          · refine ⟨_, _, _, zs.set (Int.fmod (i : Int) 3).toNat (zs[(Int.fmod (i : Int) 3).toNat] + u * ((i : Int) + 2)), rfl, ⟨fun c o ec => ?_, fun c o nc ec => ?_⟩, ?_, ?_⟩
            · have q3 := kk.1 _ _ ec
              have ncl3 : c ≠ l := ne_of_none ec nl
              rw [upd_ne ncl3, upd_ne (ne_of_none q3 nT)]
              exact q3
            · have q3 := kk.2 _ _ nc ec
              rw [upd_ne nc, upd_ne (ne_of_none q3 nT)]
              exact q3
            · rw [upd_same, List.map_set]
            · rw [List.length_set]
              exact hzl
      · rintro σ H3 ⟨y3, y4, y5, zs, rfl, kk, e3, hzl⟩
        exact ⟨.ref l, rfl, q H3 l zs kk.1 nl e3 (by omega) (by omega)⟩
    · have hnil : ns.length = 0 := by
        cases ns with
        | nil => rfl
        | cons x r =>
          exfalso
          apply c1
          show (!(((x :: r).take (min 3 (r.length + 1))).map V.int).isEmpty) = true
          rw [show min 3 (r.length + 1) = (min 2 r.length) + 1 by omega]
          rfl
      refine ⟨(by show 1 ≤ sizeLine; decide), fun l2 nl2 => ?_⟩
      have s1 := s0.trans (same_upd (o := .lst [.int 0]) nl2)
      have nl : H l2 = none := s0.free nl2
      have e1 : (upd (upd (upd H c (.lst ((ns.take (min 3 ns.length)).map V.int))) l (.lst ((ns.take (min 3 ns.length)).map V.int))) l2 (.lst [.int 0])) l2 = some (.lst (([0] : List Int).map V.int)) := upd_same
      generalize upd (upd (upd H c (.lst ((ns.take (min 3 ns.length)).map V.int))) l (.lst ((ns.take (min 3 ns.length)).map V.int))) l2 (.lst [.int 0]) = H1 at s1 e1
      generalize l2 = l at nl e1
      generalize ems : ([0] : List Int) = ms at e1
      have m1 : 1 ≤ ms.length := by rw [← ems]; decide
      have m3 : ms.length ≤ 3 := by rw [← ems]; decide
      have h3 : 3 < ns.length → ms.length = 3 := fun z => by omega
      refine ⟨.ref a, rfl, .int 3, rfl, 3, rfl, 63, rfl, a, ns.map V.int, rfl, s1.seq hS, fun c2 nc2 => ?_⟩
      rw [cut3]
      have s2 : Same H (upd H1 c2 (.lst (((ns.drop (min 3 ns.length)).take (min 63 ns.length - min 3 ns.length)).map V.int))) := s1.trans (same_upd nc2)
      have ncl : c2 ≠ l := fun z => by
        rw [z, e1] at nc2
        cases nc2
      have hC : SqL K (upd H1 c2 (.lst (((ns.drop (min 3 ns.length)).take (min 63 ns.length - min 3 ns.length)).map V.int))) c2 (((ns.drop (min 3 ns.length)).take (min 63 ns.length - min 3 ns.length)).map V.int) := SqL.of upd_same
      have eL : (upd H1 c2 (.lst (((ns.drop (min 3 ns.length)).take (min 63 ns.length - min 3 ns.length)).map V.int))) l = some (.lst (ms.map V.int)) := by
        rw [upd_ne ncl.symm]
        exact e1
      have hlenr : ((ns.drop (min 3 ns.length)).take (min 63 ns.length - min 3 ns.length)).length = min 63 ns.length - min 3 ns.length := by
        rw [List.length_take, List.length_drop]
        omega
      generalize ((ns.drop (min 3 ns.length)).take (min 63 ns.length - min 3 ns.length)) = rest at s2 hC eL hlenr
      generalize upd H1 c2 (.lst (rest.map V.int)) = H2 at s2 hC eL
      refine ⟨c2, rest.map V.int, rfl, hC, for_it (walk_enum (K := K) (a := c2) (xs := rest.map V.int)) (fun i σ H' => ∃ (y3 y4 y5 : Option V) (zs : List Int), σ = [some (.ref a), some (.int 3), some (.ref l), y3, y4, y5] ∧ KeepTo H H2 l H' ∧ H' l = some (.lst (zs.map V.int)) ∧ zs.length = ms.length)
        ⟨none, none, none, ms, rfl, ⟨s2, fun _ _ _ e => e⟩, eL, rfl⟩ (fun i σ H' _ z => by
          obtain ⟨_, _, _, _, _, kk, _, _⟩ := z
          exact Keep.sqL (b := l) kk.2 ncl hC) ?_ ?_⟩
      · rintro i v σ H3 H4 hi ⟨y3, y4, y5, zs, rfl, kk, e3, hzl⟩ ⟨T, x, y, rfl, nT, rfl, hx, hy⟩
        cases hx
        replace hy : (rest.map V.int)[i]? = some y := hy
        rw [List.getElem?_map] at hy
        rw [List.length_map, hlenr] at hi
        cases e : rest[i]? with
        | none =>
          rw [e] at hy
          cases hy
        | some u =>
          rw [e] at hy
          cases hy
          have hz3 : zs.length = 3 := by rw [hzl]; exact h3 (by omega)
          have f0 := Int.fmod_nonneg_of_pos (i : Int) (b := 3) (by decide)
          have f1 := Int.fmod_lt_of_pos (i : Int) (b := 3) (by decide)
          have nlT : l ≠ T := ne_of_none e3 nT
          have e3T : (upd H3 T (.tup [.int (i : Nat), .int u])) l = some (.lst (zs.map V.int)) := by
            rw [upd_ne nlT]
            exact e3
          refine ⟨T, [.int (i : Nat), .int u], rfl, SqT.of upd_same, rfl, .int (i : Nat), [.int u], rfl, .int u, [], rfl, rfl, ?_⟩
          refine ⟨.int (i : Nat), rfl, .inl ⟨_, rfl, .int 3, rfl, _, _, rfl, rfl, (by show (3 : Int) ≠ 0; decide), ?_⟩⟩
          have hj : (Int.fmod (i : Int) 3).toNat < zs.length := by omega
          have hat : atI (zs.map V.int) (Int.fmod (i : Int) 3) = some (.int zs[(Int.fmod (i : Int) 3).toNat]) := by
            have za := atI_nat (j := (Int.fmod (i : Int) 3).toNat) (xs := zs.map V.int) (v := .int zs[(Int.fmod (i : Int) 3).toNat]) (by rw [List.getElem?_map, List.getElem?_eq_getElem hj]; rfl)
            rw [show (((Int.fmod (i : Int) 3).toNat : Nat) : Int) = Int.fmod (i : Int) 3 by omega] at za
            exact za
          refine ⟨.ref l, rfl, .int _, rfl, l, _, _, _, rfl, rfl, SqL.of e3T, hat, .int u, rfl, .int (i : Nat), rfl, _, _, rfl, rfl, _, _, rfl, rfl, .inr (by omega), _, _, rfl, rfl, ?_⟩
          refine ⟨.ref l, rfl, .int _, rfl, l, _, _, (Int.fmod (i : Int) 3).toNat, rfl, rfl, e3T, ?_, ?_⟩
          · unfold ixN
            rw [List.length_map, if_pos f0, if_pos (by omega)]
          · refine ⟨_, _, _, zs.set (Int.fmod (i : Int) 3).toNat (zs[(Int.fmod (i : Int) 3).toNat] + u * ((i : Int) + 2)), rfl, ⟨fun c o ec => ?_, fun c o nc ec => ?_⟩, ?_, ?_⟩
            · have q3 := kk.1 _ _ ec
              have ncl3 : c ≠ l := ne_of_none ec nl
              rw [upd_ne ncl3, upd_ne (ne_of_none q3 nT)]
              exact q3
            · have q3 := kk.2 _ _ nc ec
              rw [upd_ne nc, upd_ne (ne_of_none q3 nT)]
              exact q3
            · rw [upd_same, List.map_set]
            · rw [List.length_set]
              exact hzl
      · rintro σ H3 ⟨y3, y4, y5, zs, rfl, kk, e3, hzl⟩
        exact ⟨.ref l, rfl, q H3 l zs kk.1 nl e3 (by omega) (by omega)⟩
end
end K02
namespace K02
open PySem PySem.Spec PyProof.Rows L2 CS RZ
/-! ### places, journeys, as data -/
def isPlD : PyData → Bool
  | .str z => isPl z
  | _ => false
def strOf : PyData → Option Str
  | .str z => some z
  | _ => none
def sgs (ds : List PyData) : List Str := ds.filterMap strOf
def altB (ss : List Str) : Bool := (prs ss).all fun p => !decide (p.1 = p.2)
def isJ : PyData → Bool
  | .tuple ds => !ds.isEmpty && (ds.all isPlD && altB (sgs ds))
  | _ => false
def isS : PyData → Bool
  | .tuple ds => decide (ds.length = 2) && isJ (.tuple ds)
  | _ => false
/-- texts of moderate length at the top -/
def small1 : PyData → Prop
  | .str z => z.cps.size ≤ 1000
  | _ => True
def small2 : PyData → Prop
  | .str z => z.cps.size ≤ 1000
  | .tuple ds => ds.length ≤ 900 ∧ ∀ d ∈ ds, small1 d
  | _ => True
def tyN : PyData → String
  | .none => "NoneType"
  | .bool _ => "bool"
  | .int _ => "int"
  | .str _ => "str"
  | .list _ => "list"
  | .tuple _ => "tuple"
  | .dict _ => "dict"
def isStr : PyData → Bool
  | .str _ => true
  | _ => false
def isTup : PyData → Bool
  | .tuple _ => true
  | _ => false
theorem dTy {K : PySem.W.Frag} {H : Hp} {x : V} {d : PyData} (h : Dp K H x d) : TyX K H x (.type (tyN d)) := by
  cases h with
  | non => exact .base .non
  | bl b => exact .base (.bl b)
  | int i => exact .base (.int i)
  | str z => exact .base (.str z)
  | lst q r => exact tyL q
  | tup q r => exact tyT q
theorem kStr : ∀ d : PyData, kitB (tyN d) "str" = some (isStr d)
  | .none => (by decide +kernel : kitB "NoneType" "str" = some false)
  | .bool _ => (by decide +kernel : kitB "bool" "str" = some false)
  | .int _ => (by decide +kernel : kitB "int" "str" = some false)
  | .str _ => (by decide +kernel : kitB "str" "str" = some true)
  | .list _ => (by decide +kernel : kitB "list" "str" = some false)
  | .tuple _ => (by decide +kernel : kitB "tuple" "str" = some false)
  | .dict _ => (by decide +kernel : kitB "dict" "str" = some false)
theorem kTup : ∀ d : PyData, kitB (tyN d) "tuple" = some (isTup d)
  | .none => (by decide +kernel : kitB "NoneType" "tuple" = some false)
  | .bool _ => (by decide +kernel : kitB "bool" "tuple" = some false)
  | .int _ => (by decide +kernel : kitB "int" "tuple" = some false)
  | .str _ => (by decide +kernel : kitB "str" "tuple" = some false)
  | .list _ => (by decide +kernel : kitB "list" "tuple" = some false)
  | .tuple _ => (by decide +kernel : kitB "tuple" "tuple" = some true)
  | .dict _ => (by decide +kernel : kitB "dict" "tuple" = some false)
theorem sgs_of {K : PySem.W.Frag} {H : Hp} : ∀ {ds : List PyData} {xs : List V}, DpAll K H xs ds → ds.all isPlD = true → xs = (sgs ds).map V.str ∧ (sgs ds).length = ds.length
  | [], _, .nil, _ => ⟨rfl, rfl⟩
  | d :: ds, _, .cons q r, h => by
    rw [List.all_cons, Bool.and_eq_true] at h
    obtain ⟨e1, e2⟩ := sgs_of r h.2
    cases d with
    | str z =>
      cases q
      refine ⟨?_, ?_⟩
      · rw [e1]
        rfl
      · show (sgs ds).length + 1 = _
        rw [e2]
        rfl
    | _ => exact absurd h.1 (by simp [isPlD])
theorem isPl_not {d : PyData} (h : isStr d = false) : isPlD d = false := by
  cases d <;> first | rfl | (cases h)
section
variable {P : Program} {w : World} {K : PySem.W.Frag} {mg : Str → Option Value} {base : Heap}
def spPlace (K : PySem.W.Frag) : Sp := fun vs H Q _ => ∃ (x : V) (d : PyData), vs = [x] ∧ Dp K H x d ∧ small1 d ∧ ∀ H' : Hp, Same H H' → Q (.bl (isPlD d)) H'
abbrev nPlace : List Str := ["thing", "letter"]
theorem scPlace : FnScope nPlace ["thing"] (defScope sPlace) := ⟨rfl, rfl, rfl, by decide +kernel, rfl, by decide +kernel, by decide +kernel⟩
theorem ok_place {f : Addr} {fd : FuncData} {k : Nat} {uL uM : Value} (F : Fun K "is_place" "is_place" sPlace f fd) (T : SmT mg) (mL : mg "LETTERS" = some uL) (rL : RelV (.str "abcdefghijklmnopqrstuvwxyz") uL) (mM : mg "LONGEST" = some uM) (rM : RelV (.int 8) uM) :
    FnOk P w K mg base CX0 (k + 1) f fd ["thing"] (spPlace K) := by
  refine F.ok scPlace (fun vs H Q E h => ?_) (fun cdv A outer s H vs Q E hr h => ?_)
  · obtain ⟨x, d, rfl, _⟩ := h
    rfl
  · obtain ⟨x, d, rfl, hx, hd, q⟩ := h
    refine ⟨_, pss_one (ps_ret (pe_and (pe_callB call_isi (by rfl) T.is (by decide +kernel) (pa_cons (pv 0) (pa_cons (pe_bltn (v := .ty "str") (by rfl) T.st (by decide +kernel) rfl) pa_nil)))
      (pe_and (pe_chain op_le op_le pe_int (pe_callB call_len_str (by rfl) T.le PySem.boot_len (pa_cons (pv 0) pa_nil)) (pe_glob (by rfl) mM rM))
      (pe_one (pe_callB (cr_all rfl) (by rfl) T.al (by decide +kernel) (pa_cons (pe_lc (own := [("letter", 1)]) (g := gName 1) (by rfl) scPlace.nd (pi_str (pv 0)) (blkOk_by (own := [("letter", 1)]) (N := nPlace) (sc := defScope sPlace) (by decide +kernel))
        (fun _ _ _ _ _ => pg_name (i := 1) scPlace.nd rfl (Or.inl rfl) (.inr rfl)) (fun _ _ _ _ _ => pts_nil) (fun _ _ _ _ _ => pe_cmpR op_in_sign (pv 1) (pe_glob (by rfl) mL rL) rfl)) pa_nil)))))), ?_⟩
    refine ⟨x, rfl, _, _, _, _, isStr d, rfl, .ty _, dTy hx, isi_one (kStr d), _, rfl, ?_⟩
    refine ite2 (fun c => ?_) (fun c => ?_)
    · cases hx with
      | str z =>
        have hz : z.cps.size ≤ 1000 := hd
        refine ⟨.str z, rfl, z, rfl, Nat.le_of_lt (small1000 hz), _, _, rfl, rfl, _, rfl, ?_⟩
        have hl : z.length = z.cps.size := rfl
        refine ite2 (fun c1 => ?_) (fun c1 => ?_)
        · refine ⟨_, _, rfl, rfl, _, rfl, ?_⟩
          refine ite2 (fun c2 => ?_) (fun c2 => ?_)
          · have g1 : (1 : Int) ≤ (z.length : Nat) := of_decide_eq_true c1
            have g2 : ((z.length : Nat) : Int) ≤ 8 := of_decide_eq_true c2
            refine ⟨.str z, rfl, z, rfl, fun D nD => lc_it (walk_str (z := z)) (fun i H' => Same H H' ∧ H' D = some (.lst (((z.cps.toList.take i).map fun c => decide (c ∈ letters)).map V.bl))) ⟨same_upd nD, upd_same⟩ (fun _ _ _ _ => trivial) ?_ ?_⟩
            · rintro i v H2 H3 hi ⟨s2, eD⟩ ⟨rfl, c, hc, rfl⟩
              have hc' : z.cps.toList[i]? = some c := by
                rw [Array.getElem?_toList]
                exact hc
              refine ⟨rfl, ?_⟩
              unfold tYes
              refine ite2 (fun _ => ?_) (fun z => absurd rfl z)
              refine ⟨.str ⟨#[c]⟩, rfl, c, _, rfl, rfl, _, eD, ?_, fun b o e => ?_, ?_⟩
              · rw [List.length_map, List.length_map, List.length_take]
                exact small1000 (by omega)
              · rw [upd_ne (ne_of_none e nD)]
                exact s2 _ _ e
              · rw [upd_same, take_snoc hc', List.map_append, List.map_append]
                rfl
            · rintro H2 ⟨s2, eD⟩
              have el : z.cps.toList.take z.cps.size = z.cps.toList := List.take_of_length_le (by rw [Array.length_toList]; exact Nat.le_refl _)
              rw [el] at eD
              refine ⟨D, _, rfl, SqL.of eD, ?_⟩
              have e : isPlD (.str z) = (z.cps.toList.map fun c => decide (c ∈ letters)).all id := by
                show (decide (0 < z.cps.size) && decide (z.cps.size < 9) && z.cps.toList.all fun c => decide (c ∈ letters)) = _
                rw [decide_eq_true (show 0 < z.cps.size by omega), decide_eq_true (show z.cps.size < 9 by omega), List.all_map]
                rfl
              rw [← e]
              exact q _ s2
          · have g2 : ¬ ((z.length : Nat) : Int) ≤ 8 := fun y => c2 (decide_eq_true y)
            have e : isPlD (.str z) = false := by
              show (decide (0 < z.cps.size) && decide (z.cps.size < 9) && z.cps.toList.all fun c => decide (c ∈ letters)) = false
              rw [decide_eq_false (show ¬ z.cps.size < 9 by omega), Bool.and_false, Bool.false_and]
            have z2 := q H fun _ _ e => e
            rw [e] at z2
            exact z2
        · have g1 : ¬ (1 : Int) ≤ (z.length : Nat) := fun y => c1 (decide_eq_true y)
          have e : isPlD (.str z) = false := by
            show (decide (0 < z.cps.size) && decide (z.cps.size < 9) && z.cps.toList.all fun c => decide (c ∈ letters)) = false
            rw [decide_eq_false (show ¬ 0 < z.cps.size by omega), Bool.false_and, Bool.false_and]
          have z2 := q H fun _ _ e => e
          rw [e] at z2
          exact ⟨_, rfl, iteF z2⟩
      | _ => cases c
    · have e : isStr d = false := by simpa using c
      rw [← isPl_not e]
      exact q H fun _ _ e => e
def spJour (K : PySem.W.Frag) : Sp := fun vs H Q _ => ∃ (x : V) (d : PyData), vs = [x] ∧ Dp K H x d ∧ small2 d ∧ ∀ H' : Hp, Same H H' → Q (.bl (isJ d)) H'
abbrev nJour : List Str := ["thing", "member", "one", "other"]
theorem scJour : FnScope nJour ["thing"] (defScope sJour) := ⟨rfl, rfl, rfl, by decide +kernel, rfl, by decide +kernel, by decide +kernel⟩
theorem ok_jour {f g g2 : Addr} {fd gd gd2 : FuncData} {k : Nat} (F : Fun K "is_journey" "is_journey" sJour f fd) (T : SmT mg)
    (Gp : FnOk P w K mg base CX0 k g gd ["thing"] (spPlace K)) (bp : Binds K gd ["thing"] []) (kp : PySem.W.keepIn K (.ref g) = true) (mp : mg "is_place" = some (.ref g))
    (Gs : FnOk P w K mg base CX0 k g2 gd2 ["journey"] (spSteps K)) (bs : Binds K gd2 ["journey"] []) (ks : PySem.W.keepIn K (.ref g2) = true) (ms : mg "steps_of" = some (.ref g2)) :
    FnOk P w K mg base CX0 (k + 1) f fd ["thing"] (spJour K) := by
  refine F.ok scJour (fun vs H Q E h => ?_) (fun cdv A outer s H vs Q E hr h => ?_)
  · obtain ⟨x, d, rfl, _⟩ := h
    rfl
  · obtain ⟨x, d, rfl, hx, hd, q⟩ := h
    refine ⟨_, pss_cons (ps_if (PW.pt (pw_or (pt_not (pt_val (pe_callB call_isi (by rfl) T.is (by decide +kernel) (pa_cons (pv 0) (pa_cons (pe_bltn (v := .ty "tuple") (by rfl) T.tu (by decide +kernel) rfl) pa_nil)))))
          (pw_or1 (pt_cmpR op_eq (pe_callB call_len_seq (by rfl) T.le PySem.boot_len (pa_cons (pv 0) pa_nil)) pe_int (nomark _))))) (pss_one (ps_ret pe_bl)) pss_nil)
      (pss_cons (ps_if (pt_not (pt_val (pe_callB (cr_all rfl) (by rfl) T.al (by decide +kernel) (pa_cons (pe_lc (own := [("member", 1)]) (g := gName 1) (by rfl) scJour.nd (pi_tup (pv 0)) (blkOk_by (own := [("member", 1)]) (N := nJour) (sc := defScope sJour) (by decide +kernel))
          (fun _ _ _ _ _ => pg_name (i := 1) scJour.nd rfl (Or.inl rfl) (.inr rfl)) (fun _ _ _ _ _ => pts_nil) (fun _ _ _ _ _ => pe_call Gp hr (by rfl) mp kp bp .nil pass0 (pa_cons (pv 1) pa_nil))) pa_nil)))) (pss_one (ps_ret pe_bl)) pss_nil)
      (pss_one (ps_ret (pe_callB (cr_all rfl) (by rfl) T.al (by decide +kernel) (pa_cons (pe_lc (own := [("one", 2), ("other", 3)]) (g := gTup K 2 (gCons (gName 2) (gCons (gName 3) gNil))) (by rfl) scJour.nd (pi_tup (pe_call Gs hr (by rfl) ms ks bs .nil pass0 (pa_cons (pv 0) pa_nil)))
          (blkOk_by (own := [("one", 2), ("other", 3)]) (N := nJour) (sc := defScope sJour) (by decide +kernel)) (fun _ _ _ _ _ => pg_tup rfl (pgs_cons (pg_name (i := 2) scJour.nd rfl (Or.inl rfl) (.inr rfl)) (pgs_cons (pg_name (i := 3) scJour.nd rfl (Or.inl rfl) (.inr rfl)) pgs_nil)))
          (fun _ _ _ _ _ => pts_nil) (fun _ _ _ _ _ => pe_cmpR op_ne (pv 2) (pv 3) (nomark _))) pa_nil))))), ?_⟩
    refine ⟨x, rfl, _, _, _, _, isTup d, rfl, .ty _, dTy hx, isi_one (kTup d), _, rfl, ?_⟩
    cases hx with
    | tup hS hA =>
      rename_i a xs ds
      obtain ⟨hl, hsm⟩ := hd
      have lx := dpAll_len hA
      refine ite2 (fun c => by cases c) (fun _ => ?_)
      refine ⟨.ref a, rfl, a, xs, rfl, .inr hS, rfl, _, rfl, ?_⟩
      refine ite2 (fun c => ?_) (fun c => ?_)
      · have e0 : xs.length = 0 := by
          have := V.int.inj (of_decide_eq_true c)
          omega
        have e1 : ds = [] := List.length_eq_zero_iff.mp (by omega)
        subst e1
        exact q H fun _ _ e => e
      · have hne : ds ≠ [] := fun e => c (decide_eq_true (by rw [lx, e]; rfl))
        refine ⟨.ref a, rfl, a, rfl, ⟨_, hS⟩, fun D nD => lc_tup (K := K) (a := a) (xs := xs) (fun i H' => Same H H' ∧ H' D = some (.lst (((ds.take i).map isPlD).map V.bl))) ⟨same_upd nD, upd_same⟩ (fun i H' _ z => sqT_same z.1 hS) ?_ ?_⟩
        · rintro i v H2 hv ⟨s2, eD⟩
          obtain ⟨d1, e1, r1⟩ := dpAll_at hA hv
          have hi := (List.getElem?_eq_some_iff.mp e1).1
          refine ⟨rfl, ?_⟩
          unfold tYes
          refine ite2 (fun _ => ?_) (fun z => absurd rfl z)
          refine ⟨v, rfl, v, d1, rfl, dp_same s2 r1, hsm d1 (List.mem_of_getElem? e1), fun H3 s3 => ⟨_, s3 _ _ eD, ?_, fun b o e => ?_, ?_⟩⟩
          · rw [List.length_map, List.length_map, List.length_take]
            exact small1000 (by omega)
          · rw [upd_ne (ne_of_none e nD)]
            exact s3 _ _ (s2 _ _ e)
          · rw [upd_same, take_snoc e1, List.map_append, List.map_append]
            rfl
        · rintro H2 ⟨s2, eD⟩
          rw [lx, List.take_length] at eD
          refine ⟨D, _, rfl, SqL.of eD, _, rfl, ?_⟩
          have eall : (ds.map isPlD).all id = ds.all isPlD := by
            rw [List.all_map]
            rfl
          have eJ : isJ (.tuple ds) = (ds.all isPlD && altB (sgs ds)) := by
            show (!ds.isEmpty && (ds.all isPlD && altB (sgs ds))) = _
            cases ds with
            | nil => exact absurd rfl hne
            | cons _ _ => rfl
          rw [eall]
          refine ite2 (fun c1 => ?_) (fun c1 => ?_)
          · have ea : ds.all isPlD = false := by simpa using c1
            have z2 := q H2 s2
            rw [eJ, ea, Bool.false_and] at z2
            exact z2
          · have ea : ds.all isPlD = true := by
              cases z : ds.all isPlD with
              | true => rfl
              | false => exact absurd (by rw [z]; rfl) c1
            obtain ⟨exs, lsg⟩ := sgs_of hA ea
            have hS2 : SqT K H2 a ((sgs ds).map V.str) := by
              rw [← exs]
              exact sqT_same s2 hS
            have hpos : 0 < (sgs ds).length := by
              rw [lsg]
              exact List.length_pos_iff.mpr hne
            refine ⟨.ref a, rfl, a, sgs ds, rfl, .inl hS2, hpos, fun H3 p0 as s3 n0 e0 hla hp => ?_⟩
            have hT : SqT K H3 p0 (as.map V.ref) := SqT.of e0
            refine ⟨p0, rfl, ⟨_, hT⟩, fun D2 nD2 => lc_tup (K := K) (a := p0) (xs := as.map V.ref) (fun i H' => Same H3 H' ∧ H' D2 = some (.lst ((((prs (sgs ds)).take i).map fun p => !decide (p.1 = p.2)).map V.bl))) ⟨same_upd nD2, upd_same⟩ (fun i H' _ z => sqT_same z.1 hT) ?_ ?_⟩
            · rintro i v H4 hv ⟨s4, eD4⟩
              obtain ⟨T1, x1, y1, rfl, hij, hT2⟩ := prs_at hp hla hv
              have hi := (List.getElem?_eq_some_iff.mp hij).1
              have lp := prs_len (sgs ds)
              refine ⟨T1, [.str x1, .str y1], rfl, SqT.of (s4 _ _ hT2), rfl, .str x1, [.str y1], rfl, .str y1, [], rfl, rfl, rfl, ?_⟩
              unfold tYes
              refine ite2 (fun _ => ?_) (fun z => absurd rfl z)
              refine ⟨.str x1, rfl, .str y1, rfl, rfl, _, eD4, ?_, fun b o e => ?_, ?_⟩
              · rw [List.length_map, List.length_map, List.length_take]
                exact small1000 (by omega)
              · rw [upd_ne (ne_of_none e nD2)]
                exact s4 _ _ e
              · rw [upd_same, take_snoc hij, List.map_append, List.map_append]
                have e5 : decide (V.str x1 = V.str y1) = decide (x1 = y1) := by
                  by_cases c : x1 = y1
                  · rw [c, decide_eq_true rfl, decide_eq_true rfl]
                  · rw [decide_eq_false c, decide_eq_false (fun z => c (V.str.inj z))]
                rw [e5]
                rfl
            · rintro H4 ⟨s4, eD4⟩
              rw [List.length_map, hla, ← prs_len, List.take_length] at eD4
              refine ⟨D2, _, rfl, SqL.of eD4, ?_⟩
              have z2 := q H4 (s2.trans (s3.trans s4))
              rw [eJ, ea, Bool.true_and] at z2
              rw [List.all_map]
              exact z2
    | _ =>
      refine ite2 (fun _ => ?_) (fun c => absurd rfl c)
      exact q H fun _ _ e => e
end
end K02
namespace K02
open PySem PySem.Spec PyProof.Rows L2 CS RZ
/-! ### the error Apart -/
structure ApC (K : PySem.W.Frag) (C fI : Addr) : Prop where
  o : OexC K C
  nE : PySem.W.findIn K (.ref C) "end" = some none
  nB : PySem.W.findIn K (.ref C) "begin" = some none
  iC : PySem.W.findIn K (.ref C) "__init__" = some (some (.ref fI))
  tI : PySem.W.typeIn K (.ref fI) = some (.type "function")
  f : XfC K C
  x : PySem.W.CsxC K C
  e : PySem.W.exmOne K (.ref C) (.ref C) = some true
  v : PySem.W.kitOne K (.ref C) (.type "ValueError") = some true
section
variable {P : Program} {w : World} {K : PySem.W.Frag} {mg : Str → Option Value} {base : Heap}
def apD (x y : V) : List (Str × V) := [("begin", y), ("end", x)]
def spApI (K : PySem.W.Frag) (C : Addr) : Sp := fun vs H Q _ => ∃ (a : Addr) (x y : V), vs = [.ref a, x, y] ∧ OexC K C ∧ PySem.W.findIn K (.ref C) "end" = some none ∧ PySem.W.findIn K (.ref C) "begin" = some none ∧ H a = some (exo a C none) ∧
  ∀ (dx : Addr) (H' : Hp), H dx = none → dx ≠ a → H' a = some (exo a C (some dx)) → H' dx = some (exd dx (apD x y)) → (∀ b, b ≠ a → b ≠ dx → H' b = H b) → Q .non H'
theorem scApI : FnScope ["self", "end", "begin"] ["self", "end", "begin"] (defScope sApI) := ⟨rfl, rfl, rfl, by decide +kernel, rfl, by decide +kernel, by decide +kernel⟩
theorem ok_apI {f C : Addr} {fd : FuncData} {k : Nat} (F : Fun K "__init__" "Apart.__init__" sApI f fd) : FnOk P w K mg base CX0 (k + 1) f fd ["self", "end", "begin"] (spApI K C) := by
  refine F.ok scApI (fun vs H Q E h => ?_) (fun cdv A outer s H vs Q E hr h => ?_)
  · obtain ⟨a, x, y, rfl, _⟩ := h
    rfl
  · obtain ⟨a, x, y, rfl, T, n1, n2, ea, q⟩ := h
    refine ⟨_, pss_cons (ps_ost (pv 0) (pv 1)) (pss_one (ps_ost (pv 0) (pv 2))), ?_⟩
    refine ⟨x, rfl, .ref a, rfl, a, C, rfl, T, n1, .inl ⟨ea, fun dx nd ne => ?_⟩⟩
    have e1 : (upd (upd H dx (exd dx [("end", x)])) a (exo a C (some dx))) a = some (exo a C (some dx)) := upd_same
    have e2 : (upd (upd H dx (exd dx [("end", x)])) a (exo a C (some dx))) dx = some (exd dx [("end", x)]) := by
      rw [upd_ne ne, upd_same]
    refine ⟨y, rfl, .ref a, rfl, a, C, rfl, T, n2, .inr ⟨dx, _, e1, e2, (by show 1 ≤ 900; decide), ?_⟩⟩
    refine q dx _ nd ne ?_ upd_same ?_
    · rw [upd_ne (Ne.symm ne), upd_same]
    · intro b h1 h2
      rw [upd_ne h2, upd_ne h1, upd_ne h2]
/-! ### joined -/
theorem jr_ix {H : Hp} {a : Addr} {ss : List Str} {i : Int} {z : Str} {Q : VK} (h : Jr K H a ss) (e : atI (ss.map V.str) i = some (.str z)) (q : Q (.str z) H) : rIx K (.ref a) (.int i) H Q := by
  rcases h with h | h
  · exact .inr (.inl ⟨a, _, i, _, rfl, rfl, h, e, q⟩)
  · exact .inl ⟨a, _, i, _, rfl, rfl, h, e, q⟩
theorem jr_tup {H : Hp} {a : Addr} {ss : List Str} {Q : VK} (h : Jr K H a ss) (q : ∀ (H' : Hp) (p : Addr), Same H H' → SqT K H' p (ss.map V.str) → Q (.ref p) H') : L2.kTup K (.ref a) H Q := by
  rcases h with h | h
  · exact .inr ⟨a, _, rfl, h, q H a (fun _ _ e => e) h⟩
  · exact .inl ⟨a, _, rfl, h, fun p np => q _ p (same_upd np) (SqT.of upd_same)⟩
theorem at_neg1 {xs : List Str} {x : Str} (h : xs[xs.length - 1]? = some x) : atI (xs.map V.str) (-1) = some (.str x) := by
  have hl := (List.getElem?_eq_some_iff.mp h).1
  refine atI_neg (j := 1) (x := .str x) ?_ (by decide) (by rw [List.length_map]; omega)
  rw [List.length_map, List.getElem?_map, h]
  rfl
theorem sl_use {a : Addr} {xs : List V} {H : Hp} {Q : VK} {lo hi : Option Int} (h : SqT K H a xs) (k : ∀ (H' : Hp) (p : Addr), Same H H' → SqT K H' p (cutV xs lo hi) → Q (.ref p) H') : rSlA K (.ref a) lo hi H Q := by
  refine ⟨a, xs, rfl, h, fun z => ?_, fun _ p np => k _ p (same_upd np) (SqT.of upd_same)⟩
  have e : cutV xs lo hi = xs := by
    unfold cutV
    rw [z.1, z.2, Nat.sub_zero]
    exact List.take_length
  have q := k H a (fun _ _ y => y)
  rw [e] at q
  exact q h
theorem cat_tup {H : Hp} {a b : Addr} {xs ys : List V} {Q : VK} (ha : SqT K H a xs) (hb : SqT K H b ys) (hl : xs.length + ys.length ≤ sizeLine) (k : ∀ (H' : Hp) (p : Addr), Same H H' → SqT K H' p (xs ++ ys) → Q (.ref p) H') : rCatA K (.ref a) (.ref b) H Q := by
  refine ⟨a, b, xs, ys, rfl, rfl, ha, hb, hl, fun e => ?_, fun _ e => ?_, fun _ _ p np => k _ p (same_upd np) (SqT.of upd_same)⟩
  · subst e
    exact k H b (fun _ _ y => y) hb
  · subst e
    refine k H a (fun _ _ y => y) ?_
    rw [List.append_nil]
    exact ha
def spJoin (K : PySem.W.Frag) (C : Addr) : Sp := fun vs H Q E => ∃ (a b : Addr) (ss rs : List Str) (la hd : Str), vs = [.ref a, .ref b] ∧ Jr K H a ss ∧ Jr K H b rs ∧ ss.length ≤ 1000 ∧ rs.length ≤ 1000 ∧ ss[ss.length - 1]? = some la ∧ rs[0]? = some hd ∧
  (la = hd → ∀ (H' : Hp) (p : Addr), Same H H' → SqT K H' p ((ss ++ rs.tail).map V.str) → Q (.ref p) H') ∧
  (la ≠ hd → ∀ (H' : Hp) (d : Addr), Same H H' → H' d = some (.xd (apD (.str la) (.str hd))) → E (.ref C) (some d) H')
theorem scJoin : FnScope ["one", "other"] ["one", "other"] (defScope sJoin) := ⟨rfl, rfl, rfl, by decide +kernel, rfl, by decide +kernel, by decide +kernel⟩
theorem ok_join {f C fI : Addr} {fd dI : FuncData} {k : Nat} (F : Fun K "joined" "joined" sJoin f fd) (T : ApC K C fI) (I1 : FnOk P w K mg base CX0 k fI dI ["self", "end", "begin"] (spApI K C)) (bI : Binds K dI ["self", "end", "begin"] []) (mA : mg "Apart" = some (.ref C)) (mt : mg "tuple" = none) :
    FnOk P w K mg base (L2.CX P w) (k + 2) f fd ["one", "other"] (spJoin K C) := by
  refine F.okX scJoin (fun vs H Q E h => ?_) (fun cdv A outer s H vs Q E hr h => ?_)
  · obtain ⟨a, b, ss, rs, la, hd, rfl, _⟩ := h
    rfl
  · obtain ⟨a, b, ss, rs, la, hd, rfl, hA, hB, l1, l2, el, eh, q1, q2⟩ := h
    refine ⟨_, pss_cons (ps_if (pt_cmpR op_ne (pe_ix ix_seq (pv 0) (pe_un un_neg pe_int) (fun _ _ => rfl)) (pe_ix ix_seq (pv 1) pe_int (fun _ _ => rfl)) (nomark _))
        (pss_one (ps_raise rfl (takes_of rfl rfl rfl rfl) (pmk_oex (dvs := []) T.o T.iC T.tI I1 hr bI .nil pass0 (by rfl) mA (pa_cons (pe_ix ix_seq (pv 0) (pe_un un_neg pe_int) (fun _ _ => rfl)) (pa_cons (pe_ix ix_seq (pv 1) pe_int (fun _ _ => rfl)) pa_nil))))) pss_nil)
      (pss_one (ps_ret (pe_op op_catA (pe_tupleOf (by rfl) mt (pv 0)) (pe_tupleOf (by rfl) mt (pe_slice (SlR.or sl_tupA sl_list) (pv 1) (po_some pe_int) po_none))))), ?_⟩
    have aL := at_neg1 el
    have aH : atI (rs.map V.str) 0 = some (.str hd) := atI_nat (j := 0) (by rw [List.getElem?_map, eh]; rfl)
    refine ⟨.ref a, rfl, 1, rfl, jr_ix hA aL ⟨.ref b, rfl, jr_ix hB aH ⟨rfl, _, rfl, ?_⟩⟩⟩
    refine ite2 (fun c => ?_) (fun c => ?_)
    · have c' : la ≠ hd := fun z => by
        subst z
        simp at c
      refine ⟨.ref a, rfl, 1, rfl, jr_ix hA aL ⟨.ref b, rfl, jr_ix hB aH ⟨(by show 2 ≤ 1000; decide), fun x nx => ⟨x, _, _, rfl, T.o, T.nE, T.nB, upd_same, fun dx H' nd ne e1 e2 rest => ⟨rfl, dx, _, e1, e2, ?_, ?_⟩⟩⟩⟩⟩
      · rw [upd_ne ne] at nd
        exact nd
      · refine q2 c' _ dx (fun b o hb => ?_) upd_same
        have h1 : b ≠ x := ne_of_none hb nx
        rw [upd_ne ne] at nd
        have h2 : b ≠ dx := ne_of_none hb nd
        rw [upd_ne h2, del_ne h1, rest b h1 h2, upd_ne h1]
        exact hb
    · have c' : la = hd := by
        refine Classical.byContradiction fun z => c ?_
        simp [z]
      refine ⟨.ref a, rfl, jr_tup hA fun H1 p1 s1 t1 => ?_⟩
      have cont : ∀ (H2 : Hp) (c2 : Addr), Same H1 H2 → Jr K H2 c2 rs.tail → L2.kTup K (.ref c2) H2 fun y H3 => rCatA K (.ref p1) y H3 Q := fun H2 c2 s2 j2 => jr_tup j2 fun H3 p3 s3 t3 => cat_tup (sqT_same (s2.trans s3) t1) t3 (by
          rw [List.length_map, List.length_map, List.length_tail, sizeLine_eq]
          omega) fun H4 p4 s4 t4 => q1 c' H4 p4 (((s1.trans s2).trans s3).trans s4) (by rw [List.map_append]; exact t4)
      refine ⟨.ref b, rfl, 1, rfl, ?_⟩
      have ct : cutV (rs.map V.str) (some 1) none = rs.tail.map V.str := by
        rw [cut1, ← List.map_drop, List.drop_one]
      rcases hB.keep s1 with hB | hB
      · refine .inl (sl_use hB fun H2 p2 s2 t2 => cont H2 p2 s2 (.inl ?_))
        rw [ct] at t2
        exact t2
      · refine .inr ⟨b, _, rfl, hB, fun c nc => cont _ c (same_upd nc) (.inr (SqL.of ?_))⟩
        rw [upd_same, ct]
end
end K02
namespace K02
open PySem PySem.Spec PyProof.Rows L2 CS RZ
/-! ### other names -/
def ren (ps : List (Str × Str)) (x : Str) : Str := (ps.lookup x).getD x
def kvOf (ps : List (Str × Str)) : List (Key × V) := ps.map fun p => ((.inr p.1 : Key), V.str p.2)
theorem kvOf_fst (ps : List (Str × Str)) : (kvOf ps).map Prod.fst = (ps.map Prod.fst).map Sum.inr := by
  unfold kvOf
  rw [List.map_map, List.map_map]
  rfl
theorem kvOf_val (x : Str) : ∀ ps : List (Str × Str), valV (kvOf ps) (.inr x) = (ps.lookup x).map V.str
  | [] => rfl
  | (a, b) :: ps => by
    have ih := kvOf_val x ps
    by_cases h : a = x
    · subst h
      rw [show kvOf ((a, b) :: ps) = ((.inr a : Key), V.str b) :: kvOf ps from rfl, valV_pos rfl]
      simp [List.lookup]
    · have h2 : (x == a) = false := by simpa using fun e : x = a => h e.symm
      rw [show kvOf ((a, b) :: ps) = ((.inr a : Key), V.str b) :: kvOf ps from rfl, valV_neg (fun e => h (Sum.inr.inj e)), ih]
      simp [List.lookup, h2]
theorem kvOf_new {ps : List (Str × Str)} {x : Str} (h : x ∉ ps.map Prod.fst) : valV (kvOf ps) (.inr x) = none := by
  rw [kvOf_val]
  cases e : ps.lookup x with
  | none => rfl
  | some y =>
    refine absurd ?_ h
    clear h
    induction ps with
    | nil => cases e
    | cons p ps ih =>
      obtain ⟨a, b⟩ := p
      rw [List.map_cons]
      by_cases c : x = a
      · rw [c]
        exact List.mem_cons_self
      · have c2 : (x == a) = false := by simpa using c
        simp [List.lookup, c2] at e
        exact List.mem_cons_of_mem _ (ih e)
theorem kvOf_put {ps : List (Str × Str)} {x y : Str} (h : x ∉ ps.map Prod.fst) : putK (kvOf ps) (.inr x) (.str y) = kvOf (ps ++ [(x, y)]) := by
  rw [putK_new _ (kvOf_new h)]
  unfold kvOf
  rw [List.map_append]
  rfl
/-! ### rows without neighbours that are alike -/
def dL : List Str → List Str
  | [] => []
  | z :: r => z :: ((prs (z :: r)).filter fun p => !decide (p.1 = p.2)).map (·.2)
theorem prs_snoc (z : Str) (r : List Str) (w la : Str) (h : (z :: r)[(z :: r).length - 1]? = some la) : prs (z :: r ++ [w]) = prs (z :: r) ++ [(la, w)] := by
  have hl : (z :: r).length = r.length + 1 := rfl
  unfold prs
  refine List.ext_getElem? fun i => ?_
  by_cases hi : i < r.length
  · have h1 : i < ((z :: r).zip (z :: r).tail).length := by
      rw [List.length_zip, List.length_tail]
      simp
      omega
    rw [List.getElem?_append_left h1]
    simp only [List.tail_cons, List.cons_append, List.zip_eq_zipWith, List.getElem?_zipWith]
    have e1 : (z :: (r ++ [w]))[i]? = (z :: r)[i]? := by
      rw [← List.cons_append, List.getElem?_append_left (by simp; omega)]
    have e2 : (r ++ [w])[i]? = r[i]? := List.getElem?_append_left hi
    rw [e1, e2]
  · have h1 : ((z :: r).zip (z :: r).tail).length = r.length := by
      rw [List.length_zip, List.length_tail]
      simp
    rw [List.getElem?_append_right (by omega), h1]
    simp only [List.tail_cons, List.cons_append, List.zip_eq_zipWith, List.getElem?_zipWith]
    by_cases hj : i = r.length
    · subst hj
      have e1 : (z :: (r ++ [w]))[r.length]? = some la := by
        rw [← List.cons_append, List.getElem?_append_left (by simp)]
        exact h
      have e2 : (r ++ [w])[r.length]? = some w := by simp
      rw [e1, e2]
      simp
    · have e2 : (r ++ [w])[i]? = none := List.getElem?_eq_none (by simp; omega)
      rw [e2]
      have e3 : ([(la, w)] : List (Str × Str))[i - r.length]? = none := List.getElem?_eq_none (by simp; omega)
      rw [e3]
      cases (z :: (r ++ [w]))[i]? <;> rfl
theorem dL_snoc {l : List Str} {w la : Str} (h : l[l.length - 1]? = some la) : dL (l ++ [w]) = dL l ++ if la = w then [] else [w] := by
  cases l with
  | nil => cases h
  | cons z r =>
    show z :: ((prs (z :: r ++ [w])).filter _).map _ = z :: ((prs (z :: r)).filter _).map _ ++ _
    rw [prs_snoc z r w la h, List.filter_append, List.map_append, List.cons_append]
    by_cases c : la = w
    · simp [c]
    · simp [c]
theorem dL_ne {l : List Str} (h : 0 < l.length) : dL l ≠ [] := by
  cases l with
  | nil => cases h
  | cons z r => exact fun e => by cases e
theorem dL_len (l : List Str) : (dL l).length ≤ l.length := by
  cases l with
  | nil => exact Nat.le_refl _
  | cons z r =>
    show (List.map _ _).length + 1 ≤ r.length + 1
    rw [List.length_map]
    have h1 := List.length_filter_le (fun p : Str × Str => !decide (p.1 = p.2)) (prs (z :: r))
    rw [prs_len] at h1
    have h2 : (z :: r).length - 1 = r.length := rfl
    omega
def seenL (ps : List (Str × Str)) (ss : List Str) : List Str := dL (ss.map (ren ps))
/-- pairs of names: a tuple of tuples, or a list of lists -/
def Ps (K : PySem.W.Frag) (H : Hp) (t : Addr) (ps : List (Str × Str)) : Prop := ∃ as : List Addr, (SqT K H t (as.map V.ref) ∨ SqL K H t (as.map V.ref)) ∧ as.length = ps.length ∧
  ∀ (j : Nat) (a : Addr) (x y : Str), as[j]? = some a → ps[j]? = some (x, y) → SqT K H a [.str x, .str y] ∨ SqL K H a [.str x, .str y]
theorem Ps.keep {K : PySem.W.Frag} {H H' : Hp} {t : Addr} {ps : List (Str × Str)} (h : Ps K H t ps) (s : Same H H') : Ps K H' t ps := by
  obtain ⟨as, h1, h2, h3⟩ := h
  refine ⟨as, ?_, h2, fun j a x y e1 e2 => ?_⟩
  · rcases h1 with h1 | h1
    · exact .inl (sqT_same s h1)
    · exact .inr (s.seq h1)
  · rcases h3 j a x y e1 e2 with q | q
    · exact .inl (sqT_same s q)
    · exact .inr (s.seq q)
section
variable {X : Cx}
theorem pg_or {e : Expr} {t t' : TG} (h : PG X e t) (h' : PG X e t') : PG X e (fun v σ H Q => t v σ H Q ∨ t' v σ H Q) := ⟨fun pins s σ H v u Q I r q => q.elim (h.run pins s σ H v u Q I r) (h'.run pins s σ H v u Q I r)⟩
theorem pi_or {tg it : Expr} {t t' : TI} (h : PI X tg it t) (h' : PI X tg it t') : PI X tg it (fun σ H R => t σ H R ∨ t' σ H R) := ⟨fun pins s σ H R I q => q.elim (h.run pins s σ H R I) (h'.run pins s σ H R I)⟩
/-- over a list that stays -/
theorem dc_lst {K : PySem.W.Frag} {a : Addr} {xs : List V} {g : TG} {tt : TT} {tk tv : TE} {vs : List Nat} {σ : L2.St} {H1 : Hp} {D : Addr} {Qd : Hp → Prop} (Pv : Nat → Hp → Prop) (h0 : Pv 0 (upd H1 D (.dK []))) (hl : ∀ i H, i ≤ xs.length → Pv i H → SqL K H a xs)
    (hs : ∀ i x H, xs[i]? = some x → Pv i H → g x (wipe σ vs) H fun σ2 H2 => wipe σ2 vs = wipe σ vs ∧ tt σ2 H2 fun b H3 =>
      if b = true then tk σ2 H3 fun y H4 => tv σ2 H4 fun z H5 => ∃ kvs k, y = kV k ∧ H5 D = some (.dK kvs) ∧ kvs.length < sizeLine ∧ Pv (i + 1) (upd H5 D (.dK (putK kvs k z))) else Pv (i + 1) H3) (hd : ∀ H, Pv xs.length H → Qd H) :
    ∃ W : Nat → Nat → Hp → Prop, (∃ m, W 0 m (upd H1 D (.dK []))) ∧ ∀ i m H, W i m H →
      ((Itl K a).stop i H ∧ Qd H) ∨ ((Itl K a).go i H ∧ ∃ Nx : Hp → Prop, (∀ H', Nx H' → ∃ m', m' < m ∧ W (i + 1) m' H') ∧ ∀ x H', (Itl K a).yld i H x H' → g x (wipe σ vs) H' fun σ2 H2 => wipe σ2 vs = wipe σ vs ∧ tt σ2 H2 fun b H3 =>
        if b = true then tk σ2 H3 fun y H4 => tv σ2 H4 fun z H5 => ∃ kvs k, y = kV k ∧ H5 D = some (.dK kvs) ∧ kvs.length < sizeLine ∧ Nx (upd H5 D (.dK (putK kvs k z))) else Nx H3) := by
  refine ⟨fun i m H => m + i = xs.length ∧ Pv i H, ⟨xs.length, rfl, h0⟩, fun i m H ⟨em, p⟩ => ?_⟩
  have st := hl i H (by omega) p
  cases m with
  | zero =>
    have ei : i = xs.length := by omega
    rw [ei] at p ⊢
    exact .inl ⟨⟨xs, st, Nat.le_refl _⟩, hd H p⟩
  | succ m =>
    have lt : i < xs.length := by omega
    refine .inr ⟨⟨xs, xs[i], st, by simp [lt]⟩, Pv (i + 1), fun H' p' => ⟨m, Nat.lt_succ_self _, by omega, p'⟩, fun x H' y => ?_⟩
    obtain ⟨e, y⟩ := y
    subst e
    exact hs i x _ (y xs st) p
end
end K02
namespace K02
open PySem PySem.Spec PyProof.Rows L2 CS RZ
section
variable {P : Program} {w : World} {K : PySem.W.Frag} {mg : Str → Option Value} {base : Heap}
def gPair (K : PySem.W.Frag) : TG := fun v σ H Q => gTup K 2 (gCons (gName 4) (gCons (gName 5) gNil)) v σ H Q ∨ gLst K 2 (gCons (gName 4) (gCons (gName 5) gNil)) v σ H Q
def iSeq (K : PySem.W.Frag) (te : TE) : TI := fun σ H R => iTup K te σ H R ∨ iList K te σ H R
theorem seen_dict {H : Hp} {a t : Addr} {ps : List (Str × Str)} {R : VK} (hP : Ps K H t ps) (nd : (ps.map Prod.fst).Nodup) (hl : ps.length ≤ 100) (k : ∀ (H3 : Hp) (D : Addr), Same H H3 → H3 D = some (.dK (kvOf ps)) → R (.ref D) H3) :
    tDc (iSeq K (tVar 1)) (gPair K) tYes (tVar 4) (tVar 5) [4, 5] [some (.ref a), some (.ref t), none, none, none, none, none, none] H R := by
  obtain ⟨as, hT, la, hp⟩ := hP
  have goD : ∀ (H2 : Hp) (D : Addr), (Same H H2 ∧ H2 D = some (.dK (kvOf (ps.take (as.map V.ref).length)))) → R (.ref D) H2 := fun H2 D z => k H2 D z.1 (by
    have e := z.2
    rw [List.length_map, la, List.take_length] at e
    exact e)
  have turn : ∀ (D : Addr) (i : Nat) (x : V) (H2 : Hp), H D = none → (as.map V.ref)[i]? = some x → (Same H H2 ∧ H2 D = some (.dK (kvOf (ps.take i)))) →
      gPair K x (wipe [some (.ref a), some (.ref t), none, none, none, none, none, none] [4, 5]) H2 fun σ2 H2 => wipe σ2 [4, 5] = wipe [some (.ref a), some (.ref t), none, none, none, none, none, none] [4, 5] ∧ tYes σ2 H2 fun b H3 =>
        if b = true then tVar 4 σ2 H3 fun y H4 => tVar 5 σ2 H4 fun z H5 => ∃ kvs k, y = kV k ∧ H5 D = some (.dK kvs) ∧ kvs.length < sizeLine ∧ (Same H (upd H5 D (.dK (putK kvs k z))) ∧ (upd H5 D (.dK (putK kvs k z))) D = some (.dK (kvOf (ps.take (i + 1))))) else (Same H H3 ∧ H3 D = some (.dK (kvOf (ps.take (i + 1))))) := by
    rintro D i x H2 nD hx ⟨s2, eD⟩
    rw [List.getElem?_map] at hx
    have hi : i < as.length := by
      refine Classical.byContradiction fun z => ?_
      rw [List.getElem?_eq_none (by omega)] at hx
      cases hx
    rw [List.getElem?_eq_getElem hi] at hx
    have hi2 : i < ps.length := by omega
    have hp2 := List.getElem?_eq_getElem hi2
    have ex : x = .ref as[i] := (Option.some.inj hx).symm
    subst ex
    have nw : ps[i].1 ∉ (ps.take i).map Prod.fst := fun hm => by
      have e : (ps.take (i + 1)).map Prod.fst = (ps.take i).map Prod.fst ++ [ps[i].1] := by
        rw [take_snoc hp2, List.map_append]
        rfl
      have nd2 : ((ps.take (i + 1)).map Prod.fst).Nodup := by
        rw [List.map_take]
        exact List.Sublist.nodup (List.take_sublist _ _) nd
      rw [e] at nd2
      exact (List.nodup_append.mp nd2).2.2 _ hm _ (List.mem_singleton.mpr rfl) rfl
    have lk : (kvOf (ps.take i)).length < sizeLine := by
      unfold kvOf
      rw [List.length_map, List.length_take, sizeLine_eq]
      omega
    have sE : Same H (upd H2 D (.dK (putK (kvOf (ps.take i)) (.inr ps[i].1) (.str ps[i].2)))) := fun b o e => by
      rw [upd_ne (ne_of_none e nD)]
      exact s2 _ _ e
    have eE : (upd H2 D (.dK (putK (kvOf (ps.take i)) (.inr ps[i].1) (.str ps[i].2)))) D = some (.dK (kvOf (ps.take (i + 1)))) := by
      rw [upd_same, kvOf_put nw, take_snoc hp2]
    rcases hp i as[i] _ _ (List.getElem?_eq_getElem hi) hp2 with z | z
    · refine .inl ⟨as[i], [.str ps[i].1, .str ps[i].2], rfl, sqT_same s2 z, rfl, .str ps[i].1, [.str ps[i].2], rfl, .str ps[i].2, [], rfl, rfl, rfl, ?_⟩
      unfold tYes
      refine ite2 (fun _ => ?_) (fun z => absurd rfl z)
      exact ⟨.str ps[i].1, rfl, .str ps[i].2, rfl, kvOf (ps.take i), .inr ps[i].1, rfl, eD, lk, sE, eE⟩
    · refine .inr ⟨as[i], [.str ps[i].1, .str ps[i].2], rfl, s2.seq z, rfl, .str ps[i].1, [.str ps[i].2], rfl, .str ps[i].2, [], rfl, rfl, rfl, ?_⟩
      unfold tYes
      refine ite2 (fun _ => ?_) (fun z => absurd rfl z)
      exact ⟨.str ps[i].1, rfl, .str ps[i].2, rfl, kvOf (ps.take i), .inr ps[i].1, rfl, eD, lk, sE, eE⟩
  rcases hT with hT | hT
  · exact .inl ⟨.ref t, rfl, t, rfl, ⟨_, hT⟩, fun D nD => dc_tup (K := K) (a := t) (xs := as.map V.ref) (fun i H' => Same H H' ∧ H' D = some (.dK (kvOf (ps.take i)))) ⟨same_upd nD, upd_same⟩ (fun i H' _ z => sqT_same z.1 hT) (fun i x H2 hx z => turn D i x H2 nD hx z) fun H2 z => goD H2 D z⟩
  · exact .inr ⟨.ref t, rfl, t, rfl, ⟨_, hT⟩, fun D nD => dc_lst (K := K) (a := t) (xs := as.map V.ref) (fun i H' => Same H H' ∧ H' D = some (.dK (kvOf (ps.take i)))) ⟨same_upd nD, upd_same⟩ (fun i H' _ z => z.1.seq hT) (fun i x H2 hx z => turn D i x H2 nD hx z) fun H2 z => goD H2 D z⟩
theorem seen_row {H : Hp} {a t D : Addr} {ss : List Str} {ps : List (Str × Str)} {R : VK} (hJ : Jr K H a ss) (h9 : ss.length ≤ 900) (eD : H D = some (.dK (kvOf ps))) (k : ∀ (H3 : Hp) (L : Addr), Same H H3 → H3 L = some (.lst ((ss.map (ren ps)).map V.str)) → R (.ref L) H3) :
    tLc (iSeq K (tVar 0)) (gName 4) tYes (tDGet2 (tVar 2) (tVar 4) (tVar 4)) [4] [some (.ref a), some (.ref t), some (.ref D), none, none, none, none, none] H R := by
  have turn : ∀ (L : Addr) (i : Nat) (x : V) (H2 : Hp), H L = none → (ss.map V.str)[i]? = some x → (Same H H2 ∧ H2 L = some (.lst (((ss.take i).map (ren ps)).map V.str))) →
      gName 4 x (wipe [some (.ref a), some (.ref t), some (.ref D), none, none, none, none, none] [4]) H2 fun σ2 H2 => wipe σ2 [4] = wipe [some (.ref a), some (.ref t), some (.ref D), none, none, none, none, none] [4] ∧ tYes σ2 H2 fun b H3 =>
        if b = true then tDGet2 (tVar 2) (tVar 4) (tVar 4) σ2 H3 fun y H4 => ∃ ys, H4 L = some (.lst ys) ∧ ys.length < sizeLine ∧ (Same H (upd H4 L (.lst (ys ++ [y]))) ∧ (upd H4 L (.lst (ys ++ [y]))) L = some (.lst (((ss.take (i + 1)).map (ren ps)).map V.str))) else (Same H H3 ∧ H3 L = some (.lst (((ss.take (i + 1)).map (ren ps)).map V.str))) := by
    rintro L i x H2 nL hx ⟨s2, eL⟩
    rw [List.getElem?_map] at hx
    cases e : ss[i]? with
    | none =>
      rw [e] at hx
      cases hx
    | some z =>
      rw [e] at hx
      cases hx
      refine ⟨rfl, ?_⟩
      unfold tYes
      refine ite2 (fun _ => ?_) (fun z => absurd rfl z)
      have eD2 := s2 _ _ eD
      refine ⟨.ref D, rfl, D, rfl, .inl ⟨_, .inl eD2⟩, .str z, rfl, .str z, rfl, _, DGet.k (k := (.inr z : Key)) eD2, _, eL, ?_, fun b o e2 => ?_, ?_⟩
      · rw [List.length_map, List.length_map]
        exact small1000 (by rw [List.length_take]; omega)
      · rw [upd_ne (ne_of_none e2 nL)]
        exact s2 _ _ e2
      · rw [upd_same, take_snoc e, List.map_append, List.map_append, kvOf_val]
        have e3 : ((List.lookup z ps).map V.str).getD (V.str z) = V.str (ren ps z) := by
          unfold ren
          cases List.lookup z ps <;> rfl
        rw [e3]
        rfl
  have fin : ∀ (H2 : Hp) (L : Addr), (Same H H2 ∧ H2 L = some (.lst (((ss.take (ss.map V.str).length).map (ren ps)).map V.str))) → R (.ref L) H2 := fun H2 L z => k H2 L z.1 (by
    have e := z.2
    rw [List.length_map, List.take_length] at e
    exact e)
  rcases hJ with hJ | hJ
  · exact .inl ⟨.ref a, rfl, a, rfl, ⟨_, hJ⟩, fun L nL => lc_tup (K := K) (a := a) (xs := ss.map V.str) (fun i H' => Same H H' ∧ H' L = some (.lst (((ss.take i).map (ren ps)).map V.str))) ⟨same_upd nL, upd_same⟩ (fun i H' _ z => sqT_same z.1 hJ) (fun i x H2 hx z => turn L i x H2 nL hx z) fun H2 z => fin H2 L z⟩
  · exact .inr ⟨.ref a, rfl, a, rfl, ⟨_, hJ⟩, fun L nL => lc_list (K := K) (a := a) (xs := ss.map V.str) (fun i H' => Same H H' ∧ H' L = some (.lst (((ss.take i).map (ren ps)).map V.str))) ⟨same_upd nL, upd_same⟩ (fun i H' _ z => z.1.seq hJ) (fun i x H2 hx z => turn L i x H2 nL hx z) fun H2 z => fin H2 L z⟩
def spSeen (K : PySem.W.Frag) : Sp := fun vs H Q _ => ∃ (a t : Addr) (ss : List Str) (ps : List (Str × Str)), vs = [.ref a, .ref t] ∧ Jr K H a ss ∧ 0 < ss.length ∧ ss.length ≤ 900 ∧ Ps K H t ps ∧ (ps.map Prod.fst).Nodup ∧ ps.length ≤ 100 ∧
  ∀ (H' : Hp) (p : Addr), Same H H' → SqT K H' p ((seenL ps ss).map V.str) → Q (.ref p) H'
abbrev nSeen : List Str := ["journey", "names", "called", "row", "place", "name", "one", "other"]
theorem scSeen : FnScope nSeen ["journey", "names"] (defScope sSeen) := ⟨rfl, rfl, rfl, by decide +kernel, rfl, by decide +kernel, by decide +kernel⟩
/-- the neighbours of a row that are unlike -/
def unL (l : List (Str × Str)) : List Str := (l.filter fun p => !decide (p.1 = p.2)).map (·.2)
theorem unL_snoc (l : List (Str × Str)) (x y : Str) : unL (l ++ [(x, y)]) = unL l ++ if x = y then [] else [y] := by
  unfold unL
  rw [List.filter_append, List.map_append]
  by_cases h : x = y
  · simp [h]
  · simp [h]
theorem unL_len (l : List (Str × Str)) : (unL l).length ≤ l.length := by
  unfold unL
  rw [List.length_map]
  exact List.length_filter_le _ _
theorem ok_seen {f g : Addr} {fd gd : FuncData} {k : Nat} (F : Fun K "seen" "seen" sSeen f fd) (G : FnOk P w K mg base CX0 k g gd ["journey"] (spSteps K)) (bG : Binds K gd ["journey"] []) (kG : PySem.W.keepIn K (.ref g) = true) (mG : mg "steps_of" = some (.ref g)) (mt : mg "tuple" = none) :
    FnOk P w K mg base CX0 (k + 1) f fd ["journey", "names"] (spSeen K) := by
  refine F.ok scSeen (fun vs H Q E h => ?_) (fun cdv A outer s H vs Q E hr h => ?_)
  · obtain ⟨a, t, ss, ps, rfl, _⟩ := h
    rfl
  · obtain ⟨a, t, ss, ps, rfl, hJ, h0, h9, hP, nd, hl, q⟩ := h
    have hu := hu_of hr
    refine ⟨_, pss_cons (ps_set (i := 2) scSeen.nd rfl (.inr rfl) (pe_dc (own := [("place", 4), ("name", 5)]) (g := gPair K) (by rfl) scSeen.nd (pi_or (pi_tup (pv 1)) (pi_list (pv 1)))
        (blkOk_by (own := [("place", 4), ("name", 5)]) (N := nSeen) (sc := defScope sSeen) (by decide +kernel))
        (fun _ _ _ _ _ => pg_or (pg_tup rfl (pgs_cons (pg_name (i := 4) scSeen.nd rfl (Or.inl rfl) (.inr rfl)) (pgs_cons (pg_name (i := 5) scSeen.nd rfl (Or.inl rfl) (.inr rfl)) pgs_nil))) (pg_lst rfl (pgs_cons (pg_name (i := 4) scSeen.nd rfl (Or.inl rfl) (.inr rfl)) (pgs_cons (pg_name (i := 5) scSeen.nd rfl (Or.inl rfl) (.inr rfl)) pgs_nil))))
        (fun _ _ _ _ _ => pts_nil) (fun _ _ _ _ _ => pv 4) (fun _ _ _ _ _ => pv 5)))
      (pss_cons (ps_setLc (i := 3) (own := [("place", 4)]) (g := gName 4) rfl scSeen.nd rfl rfl (sw_true rfl rfl rfl (by decide +kernel)) (pi_or (pi_tup (pv 0)) (pi_list (pv 0))) (blkOk_by (own := [("place", 4)]) (N := nSeen) (sc := defScope sSeen) (by decide +kernel))
        (fun _ _ _ _ _ => pg_name (i := 4) scSeen.nd rfl (Or.inl rfl) (.inr rfl)) (fun _ _ _ _ _ => pts_nil) (fun _ _ _ _ _ => pe_dget2 hu (pv 2) (pv 4) (pv 4) ⟨rfl, rfl, rfl, rfl⟩))
      (pss_one (ps_ret (pe_tupleOf (by rfl) mt (pe_op op_cat (pe_lst (pa_cons (pe_ix (r := rIxL K) ix_list (pv 3) pe_int (fun _ _ => rfl)) pa_nil))
        (pe_lc (own := [("one", 6), ("other", 7)]) (g := gTup K 2 (gCons (gName 6) (gCons (gName 7) gNil))) (by rfl) scSeen.nd (pi_tup (pe_call G hr (by rfl) mG kG bG .nil pass0 (pa_cons (pv 3) pa_nil)))
          (blkOk_by (own := [("one", 6), ("other", 7)]) (N := nSeen) (sc := defScope sSeen) (by decide +kernel))
          (fun _ _ _ _ _ => pg_tup rfl (pgs_cons (pg_name (i := 6) scSeen.nd rfl (Or.inl rfl) (.inr rfl)) (pgs_cons (pg_name (i := 7) scSeen.nd rfl (Or.inl rfl) (.inr rfl)) pgs_nil)))
          (fun _ _ _ _ _ => pts_one (pt_cmpR op_ne (pv 6) (pv 7) (nomark _))) (fun _ _ _ _ _ => pv 7))))))), ?_⟩
    unfold tSeq tAsg
    refine seen_dict (a := a) hP nd hl fun H1 D s1 eD => ?_
    have gn : ∀ (i : Nat) (v : V) (σ : L2.St) (H5 : Hp) (R : L2.St → Hp → Prop), R (σ.set i (some v)) H5 → gName i v σ H5 R := fun _ _ _ _ _ r => r
    refine gn _ _ _ _ _ ?_
    dsimp only
    refine seen_row (a := a) (t := t) (D := D) (hJ.keep s1) h9 eD fun H2 L s2 eL => ?_
    refine gn _ _ _ _ _ ?_
    have s12 := s1.trans s2
    obtain ⟨row, er⟩ : ∃ row, row = ss.map (ren ps) := ⟨_, rfl⟩
    have lr : row.length = ss.length := by rw [er, List.length_map]
    rw [← er] at eL
    have hr0 : row[0]? = some (row[0]'(by omega)) := List.getElem?_eq_getElem (by omega)
    refine ⟨.ref L, rfl, L, _, 0, .str (row[0]'(by omega)), rfl, rfl, SqL.of eL, atI_nat (j := 0) (by rw [List.getElem?_map, hr0]; rfl), (by show 1 ≤ sizeLine; decide), fun l0 n0 => ?_⟩
    have s3 := s12.trans (same_upd (o := .lst [.str (row[0]'(by omega))]) n0)
    have eL3 : (upd H2 l0 (.lst [.str (row[0]'(by omega))])) L = some (.lst (row.map V.str)) := same_upd n0 _ _ eL
    have el3 : (upd H2 l0 (.lst [.str (row[0]'(by omega))])) l0 = some (.lst [.str (row[0]'(by omega))]) := upd_same
    generalize upd H2 l0 (.lst [.str (row[0]'(by omega))]) = H3 at s3 eL3 el3
    refine ⟨.ref L, rfl, L, row, rfl, .inr (SqL.of eL3), by omega, fun H4 p0 as s4 n4 e4 hl4 hp4 => ?_⟩
    have hT : SqT K H4 p0 (as.map V.ref) := SqT.of e4
    refine ⟨p0, rfl, ⟨_, hT⟩, fun D2 nD2 => lc_tup (K := K) (a := p0) (xs := as.map V.ref) (fun i H' => Same H4 H' ∧ H' D2 = some (.lst ((unL ((prs row).take i)).map V.str))) ⟨same_upd nD2, upd_same⟩ (fun i H' _ z => sqT_same z.1 hT) ?_ ?_⟩
    · rintro i x H5 hx ⟨s5, eD5⟩
      obtain ⟨T, x1, y1, rfl, hij, hT2⟩ := prs_at hp4 hl4 hx
      refine ⟨T, [.str x1, .str y1], rfl, SqT.of (s5 _ _ hT2), rfl, .str x1, [.str y1], rfl, .str y1, [], rfl, rfl, ?_⟩
      refine ⟨rfl, .str x1, rfl, .str y1, rfl, rfl, _, rfl, ?_⟩
      rw [take_snoc hij, unL_snoc]
      refine ite2 (fun c => ?_) (fun c => ?_)
      · have c' : ¬ x1 = y1 := fun z => by
          subst z
          simp at c
        rw [if_neg c', List.map_append]
        refine ⟨.str y1, rfl, _, eD5, ?_, fun b o e => ?_, upd_same⟩
        · rw [List.length_map]
          exact Nat.lt_of_le_of_lt (Nat.le_trans (unL_len _) (by rw [List.length_take, prs_len]; omega)) (show ss.length < sizeLine from small1000 (by omega))
        · rw [upd_ne (ne_of_none e nD2)]
          exact s5 _ _ e
      · have c' : x1 = y1 := by
          refine Classical.byContradiction fun z => c ?_
          simp [z]
        rw [if_pos c', List.append_nil]
        exact ⟨s5, eD5⟩
    · rintro H5 ⟨s5, eD5⟩
      have e3 : (as.map V.ref).length = (prs row).length := by rw [List.length_map, hl4, prs_len]
      rw [e3, List.take_length] at eD5
      have ul := unL_len (prs row)
      rw [prs_len] at ul
      refine ⟨l0, D2, _, _, rfl, rfl, s5 _ _ (s4 _ _ el3), eD5, ?_, fun p5 n5 => ?_⟩
      · rw [List.length_map, sizeLine_eq]
        show 1 + _ ≤ _
        omega
      · refine .inl ⟨p5, _, rfl, SqL.of upd_same, fun p6 n6 => ?_⟩
        refine q _ p6 (((s3.trans (s4.trans s5)).trans (same_upd n5)).trans (same_upd n6)) (SqT.of ?_)
        rw [upd_same]
        have es : seenL ps ss = row[0]'(by omega) :: unL (prs row) := by
          unfold seenL
          rw [← er]
          cases row with
          | nil => simp at lr; omega
          | cons z r => rfl
        rw [es]
        rfl
end
end K02
namespace K02
open PySem PySem.Spec PyProof.Rows L2 CS RZ
def dS (ss : List Str) : List PyData := ss.map PyData.str
theorem dpS {K : PySem.W.Frag} {H : Hp} : ∀ ss : List Str, DpAll K H (ss.map V.str) (dS ss)
  | [] => .nil
  | z :: r => .cons (.str z) (dpS r)
theorem pass_no {X : Cx} : Passes (L2.CX X.prog X.w) X (fun _ _ _ => False) := passes_call (W := fun _ _ _ _ => False) takes0 fun _ _ _ _ h => h.elim
section
variable {P : Program} {w : World} {K : PySem.W.Frag} {mg : Str → Option Value} {base : Heap}
/-- what joined tells, or the error's values -/
def dHeard (la hd : Str) (ss rs : List Str) : PyData := if la = hd then .tuple (dS (ss ++ rs.tail)) else .list [.str la, .str hd, .bool true, .bool false]
def spHeard (K : PySem.W.Frag) : Sp := fun vs H Q _ => ∃ (a b : Addr) (ss rs : List Str) (la hd : Str), vs = [.ref a, .ref b] ∧ Jr K H a ss ∧ Jr K H b rs ∧ ss.length ≤ 1000 ∧ rs.length ≤ 1000 ∧ ss[ss.length - 1]? = some la ∧ rs[0]? = some hd ∧
  ∀ (H' : Hp) (v : V), Same H H' → Dp K H' v (dHeard la hd ss rs) → Q v H'
abbrev nHeard : List Str := ["_law_one_so", "_law_far_so", "_law_told", "_law_caught", "error_so"]
theorem scHeard : FnScope nHeard ["_law_one_so", "_law_far_so"] (defScope sHeard) := ⟨rfl, rfl, rfl, by decide +kernel, rfl, by decide +kernel, by decide +kernel⟩
theorem ok_heard {f g C fI cS : Addr} {fd gd : FuncData} {k : Nat} (F : Fun K "_law_heard" "_law_heard" sHeard f fd) (TC : ApC K C fI) (mA : mg "Apart" = some (.ref C)) (mS : mg "Still" = some (.ref cS)) (kS : PySem.W.kitOne K (.ref C) (.ref cS) = some false)
    (GJ : FnOk P w K mg base (L2.CX P w) k g gd ["one", "other"] (spJoin K C)) (bJ : Binds K gd ["one", "other"] []) (kJ : PySem.W.keepIn K (.ref g) = true) (mJ : mg "joined" = some (.ref g)) (mV : mg "ValueError" = none) (mI : mg "isinstance" = none) :
    FnOk P w K mg base CX0 (k + 1) f fd ["_law_one_so", "_law_far_so"] (spHeard K) := by
  refine F.ok scHeard (fun vs H Q E h => ?_) (fun cdv A outer s H vs Q E hr h => ?_)
  · obtain ⟨a, b, ss, rs, la, hd, rfl, _⟩ := h
    rfl
  · obtain ⟨a, b, ss, rs, la, hd, rfl, hA, hB, l1, l2, el, eh, q⟩ := h
    refine ⟨_, pss_cons (ps_asg (g := gTup K 2 (gCons (gName 2) (gCons (gName 3) gNil))) (pe_tup (pa_cons pe_non (pa_cons pe_non pa_nil))) (pg_tup rfl (pgs_cons (pg_name (i := 2) scHeard.nd rfl (.inl rfl)) (pgs_cons (pg_name (i := 3) scHeard.nd rfl (.inl rfl)) pgs_nil))))
      (pss_cons (ps_try_hold (i := 4) (tb := fun W => tAsg (tCallS (spJoin K C) (WE W) (tCons (tVar 0) (tCons (tVar 1) tNil))) (gName 2)) (ts := tAsg (tVar 4) (gName 3)) (Wout := fun _ _ _ _ => False) rfl rfl rfl scHeard.nd rfl rfl ⟨rfl, by decide, Or.inl mA⟩ takes0
          (fun W pn xe tk _ => pss_one (ps_set (i := 2) scHeard.nd rfl (Or.inl rfl) (by exact (pe_callS GJ hr rfl mJ kJ bJ (fun σ => passAt tk σ) (by exact (pa_cons (pv 0) (pa_cons (pv 1) pa_nil)))))))
          (fun a pn => pss_one (ps_set (i := 3) scHeard.nd rfl (Or.inl rfl) (by exact (pv 4)))))
      (pss_cons (ps_if (pt_cmpR op_isN (pv 3) pe_non (nomark _)) (pss_one (ps_ret (pv 2))) pss_nil)
      (pss_one (ps_ret (pe_lst (pa_cons (pe_xof (pv 3)) (pa_cons (pe_xof (pv 3)) (pa_cons (pe_callB call_isX (by rfl) mI (by decide +kernel) (pa_cons (pv 3) (pa_cons (pe_bltn (v := .ty "ValueError") (by rfl) mV (by decide +kernel) rfl) pa_nil)))
        (pa_cons (pe_callB call_isX (by rfl) mI (by decide +kernel) (pa_cons (pv 3) (pa_cons (pe_glob (v := .ref cS) (by rfl) mS rfl) pa_nil))) pa_nil))))))))), ?_⟩
    refine ⟨(by show 2 ≤ sizeLine; decide), fun T0 n0 => ⟨T0, [.non, .non], rfl, SqT.of upd_same, rfl, .non, [.non], rfl, .non, [], rfl, rfl, ?_⟩⟩
    have s0 := same_upd (o := .tup [.non, .non]) n0
    generalize upd H T0 (.tup [.non, .non]) = H0 at s0
    refine ⟨.ref a, rfl, .ref b, rfl, a, b, ss, rs, la, hd, rfl, hA.keep s0, hB.keep s0, l1, l2, el, eh, fun c H1 p s1' t1 => ?_, fun c H1 d s1' ed => ?_⟩
    all_goals have s1 := s0.trans s1'
    · refine ⟨.non, rfl, rfl, _, rfl, ?_⟩
      refine ite2 (fun _ => ?_) (fun z => absurd rfl z)
      refine ⟨.ref p, rfl, q H1 _ s1 ?_⟩
      unfold dHeard
      rw [if_pos c]
      exact .tup t1 (dpS _)
    · refine ⟨true, TC.e, fun _ x nx => ?_, fun z => nomatch z⟩
      have sX : Same H (upd H1 x (XO (.ref C) (some d) x)) := s1.trans (same_upd nx)
      have ne : d ≠ x := ne_of_none ed nx
      have eX : (upd H1 x (XO (.ref C) (some d) x)) x = some (XO (.ref C) (some d) x) := upd_same
      have eD : (upd H1 x (XO (.ref C) (some d) x)) d = some (.xd (apD (.str la) (.str hd))) := by
        rw [upd_ne ne]
        exact ed
      generalize upd H1 x (XO (.ref C) (some d) x) = H2 at sX eX eD
      refine ⟨.ref x, rfl, ?_⟩
      refine ⟨.ref x, rfl, rfl, _, rfl, ?_⟩
      refine ite2 (fun z => by cases of_decide_eq_true z) (fun _ => ?_)
      have xd : XD H2 (some d) := .inr ⟨d, _, rfl, eD⟩
      refine ⟨.ref x, rfl, x, C, d, _, .str la, rfl, eX, eD, TC.f, TC.nE, rfl, .ref x, rfl, x, C, d, _, .str hd, rfl, eX, eD, TC.f, TC.nB, rfl, .ref x, rfl, x, C, some d, _, _, true, rfl, eX, xd, TC.x, fun _ h => h, TC.v, .ref x, rfl, x, C, some d, _, _, false, rfl, eX, xd, TC.x, fun _ h => h, kS, (by show 4 ≤ sizeLine; decide), fun p np => ?_⟩
      refine q _ (.ref p) (sX.trans (same_upd np)) ?_
      unfold dHeard
      rw [if_neg c]
      exact .lst (SqL.of upd_same) (.cons (.str _) (.cons (.str _) (.cons (.bl _) (.cons (.bl _) .nil))))
end
end K02
namespace K02
open PySem PySem.Spec PyProof.Rows L2 CS RZ
theorem layS : ∀ ss : List Str, (∀ z ∈ ss, PyData.strOk z = true) → PyData.canLayAll0 (dS ss) = true
  | [], _ => rfl
  | z :: r, h => by
    show (PyData.canLay0 (.str z) && PyData.canLayAll0 (dS r)) = true
    rw [layS r fun y hy => h y (List.mem_cons_of_mem _ hy), Bool.and_true]
    exact h z (List.mem_cons_self ..)
theorem depS : ∀ ss : List Str, PyData.depthAll (dS ss) = 0
  | [] => rfl
  | z :: r => by
    show max (PyData.depth (.str z)) (PyData.depthAll (dS r)) = 0
    rw [depS r]
    rfl
theorem shS (ss : List Str) (h : ∀ z ∈ ss, PyData.strOk z = true) : SeqAt.shaped (.list (dS ss)) = true := by
  unfold SeqAt.shaped
  rw [Bool.and_eq_true]
  refine ⟨layS ss h, decide_eq_true ?_⟩
  show PyData.depthAll (dS ss) + 1 ≤ 64
  rw [depS]
  decide
theorem shT (ss : List Str) (h : ∀ z ∈ ss, PyData.strOk z = true) : SeqAt.shaped (.tuple (dS ss)) = true := by
  unfold SeqAt.shaped
  rw [Bool.and_eq_true]
  refine ⟨layS ss h, decide_eq_true ?_⟩
  show PyData.depthAll (dS ss) + 1 ≤ 64
  rw [depS]
  decide
theorem dL_mem {l : List Str} {z : Str} (h : z ∈ dL l) : z ∈ l := by
  cases l with
  | nil => exact h
  | cons x r =>
    rcases List.mem_cons.mp h with h | h
    · rw [h]
      exact List.mem_cons_self
    · obtain ⟨p, hp, rfl⟩ := List.mem_map.mp h
      have q := (List.mem_filter.mp hp).1
      unfold prs at q
      exact List.mem_of_mem_tail (List.of_mem_zip (a := p.1) (b := p.2) q).2
/-- pairs of names, a tuple that is known to the object -/
def Pf (K : PySem.W.Frag) (H : Hp) (t : Addr) (ps : List (Str × Str)) : Prop := ∃ (as : List Addr) (o : Obj), H t = some (.frz o (.tup (as.map V.ref))) ∧ o.dict = none ∧ as.length = ps.length ∧ ∀ (j : Nat) (a : Addr) (x y : Str), as[j]? = some a → ps[j]? = some (x, y) → SqT K H a [.str x, .str y]
theorem pf_pairs {K : PySem.W.Frag} {H : Hp} : ∀ {as : List Addr} {ps : List (Str × Str)}, as.length = ps.length → (∀ (j : Nat) (a : Addr) (x y : Str), as[j]? = some a → ps[j]? = some (x, y) → SqT K H a [.str x, .str y]) → Paired (fun p (kv : Key × V) => SqT K H p [kV kv.1, kv.2]) as (kvOf ps)
  | [], [], _, _ => .nil
  | a :: as, (x, y) :: ps, hl, h => .cons (h 0 a x y rfl rfl) (pf_pairs (Nat.succ.inj hl) fun j b u v e1 e2 => h (j + 1) b u v e1 e2)
theorem mergeK_nd : ∀ (more kvs : List (Key × V)), ((kvs ++ more).map Prod.fst).Nodup → mergeK kvs more = kvs ++ more
  | [], kvs, _ => by simp [mergeK]
  | m :: more, kvs, h => by
    have hn : valV kvs m.1 = none := by
      have e := valV_any m.1 kvs
      have f : (kvs.any fun kv => decide (kv.1 = m.1)) = false := by
        rw [List.any_eq_false]
        intro kv hkv c
        rw [List.map_append, List.map_cons] at h
        exact (List.nodup_append.mp h).2.2 kv.1 (List.mem_map_of_mem hkv) m.1 List.mem_cons_self (of_decide_eq_true c)
      rw [f] at e
      cases z : valV kvs m.1 with
      | none => rfl
      | some x =>
        rw [z] at e
        cases e
    show mergeK (putK kvs m.1 m.2) more = _
    rw [putK_new m.2 hn, mergeK_nd more (kvs ++ [(m.1, m.2)]) (by simpa using h)]
    simp
section
variable {P : Program} {w : World} {K : PySem.W.Frag} {mg : Str → Option Value} {base : Heap}
def spCalled (K : PySem.W.Frag) : Sp := fun vs H Q _ => ∃ (a t : Addr) (ss : List Str) (ps : List (Str × Str)), vs = [.ref a, .ref t] ∧ SqT K H a (ss.map V.str) ∧ ss.length ≤ 900 ∧ Pf K H t ps ∧ (ps.map Prod.fst).Nodup ∧ ps.length ≤ 100 ∧
  (∀ z ∈ ss, PyData.strOk (ren ps z) = true) ∧ ∀ (H' : Hp) (p : Addr), Same H H' → SqT K H' p ((seenL ps ss).map V.str) → Q (.ref p) H'
/-- one place more, if it is unlike the last one -/
def more (l : List Str) (wd : Str) : List Str := if l = [] then [wd] else if l[l.length - 1]? = some wd then l else l ++ [wd]
theorem called_if {H2 : Hp} {a t L D : Addr} {z wd : Str} {l : List Str} {D0 : Ends} (eL : H2 L = some (.lst (l.map V.str))) (ok : ∀ y ∈ l, PyData.strOk y = true) (ln : l.length ≤ 900)
    (q : ∀ (H' : Hp) (L' : Addr), Same H2 H' → H' L' = some (.lst ((more l wd).map V.str)) → D0.nx [some (.ref a), some (.ref t), some (.ref L'), some (.ref D), some (.str z), some (.str wd)] H') :
    tIfS (tOr (tTest (tOp (rEqD K) (tVar 2) (tLst tNil))) (tTest (tOp rNe (tOp (rIxL K) (tVar 2) (tUn (rU fun i => V.int (-i)) (tC (V.int 1)))) (tVar 5)))) (tAsg (tOp rCat (tVar 2) (tLst (tCons (tVar 5) tNil))) (gName 2)) tNext D0
      [some (.ref a), some (.ref t), some (.ref L), some (.ref D), some (.str z), some (.str wd)] H2 := by
  have grow : ∀ H3 : Hp, Same H2 H3 → more l wd = l ++ [wd] → tAsg (tOp rCat (tVar 2) (tLst (tCons (tVar 5) tNil))) (gName 2) D0 [some (.ref a), some (.ref t), some (.ref L), some (.ref D), some (.str z), some (.str wd)] H3 := by
    intro H3 s3 em
    refine ⟨.ref L, rfl, .str wd, rfl, (by show 1 ≤ sizeLine; decide), fun l2 n2 => ⟨L, l2, l.map V.str, [.str wd], rfl, rfl, same_upd n2 _ _ (s3 _ _ eL), upd_same, ?_, fun p np => ?_⟩⟩
    · rw [List.length_map, List.length_singleton, sizeLine_eq]
      omega
    · refine q _ p ((s3.trans (same_upd n2)).trans (same_upd np)) ?_
      rw [upd_same, em, List.map_append]
      rfl
  refine ⟨.ref L, rfl, Nat.zero_le _, fun e ne => ⟨.list (dS l), .list [], .lst (SqL.of (same_upd ne _ _ eL)) (dpS l), .lst (SqL.of upd_same) .nil, shS l ok, by decide, _, rfl, ?_⟩⟩
  cases l with
  | nil =>
    refine ite2 (fun _ => grow _ (same_upd ne) ?_) (fun z => absurd rfl z)
    rfl
  | cons u r =>
    refine ite2 (fun z => by cases z) (fun _ => ?_)
    have hl : (u :: r)[(u :: r).length - 1]? = some ((u :: r)[(u :: r).length - 1]'(by simp)) := List.getElem?_eq_getElem _
    refine ⟨.ref L, rfl, 1, rfl, L, _, -1, .str _, rfl, rfl, SqL.of (same_upd ne _ _ eL), at_neg1 hl, .str wd, rfl, rfl, _, rfl, ?_⟩
    refine ite2 (fun c => grow _ (same_upd ne) ?_) (fun c => ?_)
    · unfold more
      rw [if_neg (by simp), if_neg fun e => ?_]
      rw [hl] at e
      rw [Option.some.inj e] at c
      simp at c
    · refine q _ L (same_upd ne) ?_
      unfold more
      rw [if_neg (by simp), if_pos, same_upd ne _ _ eL]
      rw [hl]
      refine Classical.byContradiction fun z => c ?_
      have z' : ¬ (u :: r)[(u :: r).length - 1]'(by simp) = wd := fun y => z (by rw [y])
      simpa using z'
theorem more_dL {row : List Str} {i : Nat} {wd : Str} (hw : row[i]? = some wd) (h : 0 < i → (dL (row.take i))[(dL (row.take i)).length - 1]? = row[i - 1]?) :
    more (dL (row.take i)) wd = dL (row.take (i + 1)) ∧ (dL (row.take (i + 1)))[(dL (row.take (i + 1))).length - 1]? = row[i]? := by
  have hi : i < row.length := (List.getElem?_eq_some_iff.mp hw).1
  rw [take_snoc hw]
  cases i with
  | zero =>
    refine ⟨rfl, ?_⟩
    rw [hw]
    rfl
  | succ j =>
    have hj : row[j]? = some row[j] := List.getElem?_eq_getElem (by omega)
    have lt : (row.take (j + 1)).length = j + 1 := by
      rw [List.length_take]
      omega
    have h1 := h (Nat.succ_pos _)
    rw [Nat.add_sub_cancel, hj] at h1
    have h2 : (row.take (j + 1))[(row.take (j + 1)).length - 1]? = some row[j] := by
      rw [lt, Nat.add_sub_cancel, List.getElem?_take, if_pos (by omega), hj]
    have ne : dL (row.take (j + 1)) ≠ [] := dL_ne (by omega)
    rw [dL_snoc h2]
    unfold more
    rw [if_neg ne, h1]
    by_cases c : row[j] = wd
    · rw [if_pos (by rw [c]), if_pos c, List.append_nil]
      exact ⟨rfl, by rw [h1, hw, c]⟩
    · rw [if_neg (fun e => c (Option.some.inj e)), if_neg c]
      refine ⟨rfl, ?_⟩
      rw [List.length_append, List.length_singleton, Nat.add_sub_cancel, List.getElem?_append_right (Nat.le_refl _), Nat.sub_self, hw]
      rfl
abbrev nCalled : List Str := ["_law_row_so", "_law_pairs_so", "_law_found", "_law_table", "_law_tag", "_law_word"]
theorem scCalled : FnScope nCalled ["_law_row_so", "_law_pairs_so"] (defScope sCalled) := ⟨rfl, rfl, rfl, by decide +kernel, rfl, by decide +kernel, by decide +kernel⟩
theorem ok_called {f : Addr} {fd : FuncData} {k : Nat} (F : Fun K "_law_called" "_law_called" sCalled f fd) (md : mg "dict" = none) (mt : mg "tuple" = none) : FnOk P w K mg base CX0 (k + 1) f fd ["_law_row_so", "_law_pairs_so"] (spCalled K) := by
  refine F.ok scCalled (fun vs H Q E h => ?_) (fun cdv A outer s H vs Q E hr h => ?_)
  · obtain ⟨a, t, ss, ps, rfl, _⟩ := h
    rfl
  · obtain ⟨a, t, ss, ps, rfl, hA, h9, ⟨as, o, et, od, la, hp⟩, nd, hl, hok, q⟩ := h
    have hu := hu_of hr
    refine ⟨_, pss_cons (ps_par (i := 2) (j := 3) (by rfl) scCalled.nd rfl rfl (by decide) rfl rfl (pa_cons (pe_lst pa_nil) (pa_cons (pe_callTy (call_dictT (by rfl)) (by rfl) md (by decide +kernel) (pa_cons (pv 1) pa_nil)) pa_nil)) (by rfl))
      (pss_cons (ps_for PassesOwn.never rfl (pi_tup (pv 0)) (pg_name (i := 4) scCalled.nd rfl (.inl rfl))
        (pss_cons (ps_set (i := 5) scCalled.nd rfl (.inl rfl) (pe_ifExp (pt_cmp (pc_din hu (pv 4) (pv 3)) rfl) (pe_dget hu (pv 3) (pv 4) (fun _ _ => rfl)) (pv 4)))
        (pss_one (ps_if (PW.pt (pw_or (pt_cmpR (op_eqD hr.units) (pv 2) (pe_lst pa_nil) (nomark _)) (pw_or1 (pt_cmpR op_ne (pe_ix (r := rIxL K) ix_list (pv 2) (pe_un un_neg pe_int) (fun _ _ => rfl)) (pv 5) (nomark _)))))
          (pss_one (ps_set (i := 2) scCalled.nd rfl (.inl rfl) (pe_op op_cat (pv 2) (pe_lst (pa_cons (pv 5) pa_nil))))) pss_nil))))
      (pss_one (ps_ret (pe_callTy call_tuple_of (by rfl) mt (by decide +kernel) (pa_cons (pv 2) pa_nil))))), ?_⟩
    refine ⟨Nat.zero_le _, fun L0 nL0 => ?_⟩
    have s0 := same_upd (o := .lst []) nL0
    have eL0 : (upd H L0 (.lst [])) L0 = some (.lst []) := upd_same
    generalize upd H L0 (.lst []) = H0 at s0 eL0
    refine ⟨.ref t, rfl, t, o, as, kvOf ps, rfl, s0 _ _ et, od, pf_pairs la fun j b x y e1 e2 => sqT_same s0 (hp j b x y e1 e2), fun D nD => ⟨_, _, rfl, ?_⟩⟩
    rw [mergeK_nd (kvOf ps) [] (by
      rw [List.nil_append, kvOf_fst]
      exact List.Pairwise.map _ (fun a b (h : a ≠ b) => fun e => h (Sum.inr.inj e)) nd), List.nil_append]
    have s1 := s0.trans (same_upd (o := .dK (kvOf ps)) nD)
    have eL1 : (upd H0 D (.dK (kvOf ps))) L0 = some (.lst []) := same_upd nD _ _ eL0
    have eD : (upd H0 D (.dK (kvOf ps))) D = some (.dK (kvOf ps)) := upd_same
    generalize upd H0 D (.dK (kvOf ps)) = H1 at s1 eL1 eD
    obtain ⟨row, er⟩ : ∃ row, row = ss.map (ren ps) := ⟨_, rfl⟩
    have lr : row.length = ss.length := by rw [er, List.length_map]
    have hA1 := sqT_same s1 hA
    refine ⟨.ref a, rfl, a, rfl, ⟨_, hA1⟩, for_tup (K := K) (a := a) (xs := ss.map V.str) (fun i σ H' => ∃ (L : Addr) (y4 y5 : Option V), σ = [some (.ref a), some (.ref t), some (.ref L), some (.ref D), y4, y5] ∧ Same H1 H' ∧ H' L = some (.lst ((dL (row.take i)).map V.str)) ∧ (0 < i → (dL (row.take i))[(dL (row.take i)).length - 1]? = row[i - 1]?))
      ⟨L0, none, none, rfl, fun _ _ e => e, eL1, fun z => absurd z (Nat.lt_irrefl _)⟩ (fun i σ H' _ z => by
        obtain ⟨_, _, _, _, s2, _⟩ := z
        exact sqT_same s2 hA1) ?_ ?_⟩
    · rintro i x σ H2 hx ⟨L, y4, y5, rfl, s2, eL, lastI⟩
      rw [List.getElem?_map] at hx
      cases ez : ss[i]? with
      | none =>
        rw [ez] at hx
        cases hx
      | some z =>
        rw [ez] at hx
        cases hx
        have hi : i < ss.length := (List.getElem?_eq_some_iff.mp ez).1
        have eW : row[i]? = some (ren ps z) := by rw [er, List.getElem?_map, ez]; rfl
        have eD2 := s2 _ _ eD
        have g : DGet H2 D (.str z) ((ps.lookup z).map V.str) := by
          have y := DGet.k (k := (.inr z : Key)) eD2
          rw [kvOf_val] at y
          exact y
        refine ⟨.str z, rfl, .ref D, rfl, D, _, rfl, g, _, rfl, ?_⟩
        have hle : i ≤ row.length := by omega
        have lz : ren ps z = ((ps.lookup z).getD z) := rfl
        have okl : ∀ y ∈ dL (row.take i), PyData.strOk y = true := fun y hy => by
          have m1 := List.mem_of_mem_take (dL_mem hy)
          rw [er] at m1
          obtain ⟨u, hu1, rfl⟩ := List.mem_map.mp m1
          exact hok u hu1
        have ln : (dL (row.take i)).length ≤ 900 := by
          have z1 := dL_len (row.take i)
          rw [List.length_take] at z1
          omega
        refine ite2 (fun c => ?_) (fun c => ?_)
        · obtain ⟨y, ey⟩ : ∃ y, ps.lookup z = some y := by
            cases e : ps.lookup z with
            | none =>
              rw [e] at c
              cases c
            | some y => exact ⟨y, rfl⟩
          have ew : ren ps z = y := by rw [lz, ey]; rfl
          rw [ey] at g
          refine ⟨.ref D, rfl, .str z, rfl, D, .str y, rfl, g, ?_⟩
          rw [← ew]
          refine called_if eL okl ln fun H3 L3 s3 e3 => ?_
          rw [(more_dL eW lastI).1] at e3
          exact ⟨L3, _, _, rfl, s2.trans s3, e3, fun _ => (more_dL eW lastI).2⟩
        · have en : ps.lookup z = none := by
            cases e : ps.lookup z with
            | none => rfl
            | some y =>
              rw [e] at c
              exact absurd rfl c
          have ew : ren ps z = z := by rw [lz, en]; rfl
          refine ⟨.str z, rfl, ?_⟩
          rw [← ew]
          refine called_if eL okl ln fun H3 L3 s3 e3 => ?_
          rw [(more_dL eW lastI).1] at e3
          exact ⟨L3, _, _, by rw [ew], s2.trans s3, e3, fun _ => (more_dL eW lastI).2⟩
    · rintro σ H2 ⟨L, y4, y5, rfl, s2, eL, _⟩
      rw [List.length_map, ← lr, List.take_length] at eL
      refine ⟨.ref L, rfl, L, _, rfl, .inl ⟨SqL.of eL, fun p np => q _ p ((s1.trans s2).trans (same_upd np)) (SqT.of ?_)⟩⟩
      rw [upd_same]
      unfold seenL
      rw [er]
end
end K02
namespace K02
open PySem PySem.Spec PyProof.Rows L2 CS RZ
/-! ### lists for tuples -/
section
variable {P : Program} {w : World} {K : PySem.W.Frag} {mg : Str → Option Value} {base : Heap}
abbrev nLists : List Str := ["_law_matter", "_law_bit"]
theorem scLists : FnScope nLists ["_law_matter"] (defScope sLists) := ⟨rfl, rfl, rfl, by decide +kernel, rfl, by decide +kernel, by decide +kernel⟩
/-- a text stays -/
def spLs0 : Sp := fun vs H Q _ => ∃ z : Str, vs = [.str z] ∧ ∀ H' : Hp, Same H H' → Q (.str z) H'
/-- a tuple of texts -/
def spLs1 (K : PySem.W.Frag) : Sp := fun vs H Q _ => ∃ (a : Addr) (ss : List Str), vs = [.ref a] ∧ SqT K H a (ss.map V.str) ∧ ss.length ≤ 1000 ∧ ∀ (H' : Hp) (p : Addr), Same H H' → H p = none → H' p = some (.lst (ss.map V.str)) → Q (.ref p) H'
/-- a tuple of pairs -/
def spLs2 (K : PySem.W.Frag) : Sp := fun vs H Q _ => ∃ (a : Addr) (as : List Addr) (ps : List (Str × Str)), vs = [.ref a] ∧ SqT K H a (as.map V.ref) ∧ as.length = ps.length ∧ ps.length ≤ 1000 ∧ (∀ (j : Nat) (b : Addr) (x y : Str), as[j]? = some b → ps[j]? = some (x, y) → SqT K H b [.str x, .str y]) ∧
  ∀ (H' : Hp) (p : Addr), Same H H' → Ps K H' p ps → Q (.ref p) H'
theorem sp_none {f : Addr} {fd : FuncData} {ps : List Str} {sp : Sp} : FnOk P w K mg base CX0 0 f fd ps (fun _ _ _ _ => False) := ⟨fun _ _ _ _ h => h.elim, fun _ _ _ _ _ _ _ _ _ _ _ _ _ h => h.elim⟩
/-- the body, whatever the inner call keeps -/
theorem ok_ls0 {n : Nat} {f : Addr} {fd : FuncData} (F : Fun K "_law_lists" "_law_lists" sLists f fd) (G : FnOk P w K mg base CX0 n f fd ["_law_matter"] (fun _ _ _ _ => False)) (bG : Binds K fd ["_law_matter"] []) (mG : mg "_law_lists" = some (.ref f)) (T : SmT mg) :
    FnOk P w K mg base CX0 (n + 1) f fd ["_law_matter"] spLs0 := by
  refine F.ok scLists (fun vs H Q E h => ?_) (fun cdv A outer s H vs Q E hr h => ?_)
  · obtain ⟨z, rfl, _⟩ := h
    rfl
  · obtain ⟨z, rfl, q⟩ := h
    refine ⟨_, pss_one (ps_ret (pe_ifExp (pt_val (pe_callB call_isiT (by rfl) T.is (by decide +kernel) (pa_cons (pv 0) (pa_cons (pe_tup (pa_cons (pe_bltn (v := .ty "list") (by rfl) T.li (by decide +kernel) rfl) (pa_cons (pe_bltn (v := .ty "tuple") (by rfl) T.tu (by decide +kernel) rfl) pa_nil))) pa_nil))))
      (pe_lc (own := [("_law_bit", 1)]) (g := gName 1) (by rfl) scLists.nd (pi_tup (pv 0)) (blkOk_by (own := [("_law_bit", 1)]) (N := nLists) (sc := defScope sLists) (by decide +kernel))
        (fun _ _ _ _ _ => pg_name (i := 1) scLists.nd rfl (Or.inl rfl) (.inr rfl)) (fun _ _ _ _ _ => pts_nil) (fun _ _ _ _ _ => pe_call G hr (by rfl) mG F.kp bG .nil pass0 (pa_cons (pv 1) pa_nil)))
      (pv 0))), ?_⟩
    refine ⟨.str z, rfl, (by show 2 ≤ sizeLine; decide), fun p np => ⟨_, p, _, _, _, false, rfl, upd_same, .cons (.ty _) (.cons (.ty _) .nil), .base (.str z), any_ff (by decide +kernel) (by decide +kernel), _, rfl, ?_⟩⟩
    refine ite2 (fun z => absurd z Bool.false_ne_true) (fun _ => ⟨.str z, rfl, q _ (same_upd np)⟩)
theorem ok_ls1 {n : Nat} {f : Addr} {fd : FuncData} (F : Fun K "_law_lists" "_law_lists" sLists f fd) (G : FnOk P w K mg base CX0 n f fd ["_law_matter"] spLs0) (bG : Binds K fd ["_law_matter"] []) (mG : mg "_law_lists" = some (.ref f)) (T : SmT mg) :
    FnOk P w K mg base CX0 (n + 1) f fd ["_law_matter"] (spLs1 K) := by
  refine F.ok scLists (fun vs H Q E h => ?_) (fun cdv A outer s H vs Q E hr h => ?_)
  · obtain ⟨a, ss, rfl, _⟩ := h
    rfl
  · obtain ⟨a, ss, rfl, hA, hl, q⟩ := h
    refine ⟨_, pss_one (ps_ret (pe_ifExp (pt_val (pe_callB call_isiT (by rfl) T.is (by decide +kernel) (pa_cons (pv 0) (pa_cons (pe_tup (pa_cons (pe_bltn (v := .ty "list") (by rfl) T.li (by decide +kernel) rfl) (pa_cons (pe_bltn (v := .ty "tuple") (by rfl) T.tu (by decide +kernel) rfl) pa_nil))) pa_nil))))
      (pe_lc (own := [("_law_bit", 1)]) (g := gName 1) (by rfl) scLists.nd (pi_tup (pv 0)) (blkOk_by (own := [("_law_bit", 1)]) (N := nLists) (sc := defScope sLists) (by decide +kernel))
        (fun _ _ _ _ _ => pg_name (i := 1) scLists.nd rfl (Or.inl rfl) (.inr rfl)) (fun _ _ _ _ _ => pts_nil) (fun _ _ _ _ _ => pe_call G hr (by rfl) mG F.kp bG .nil pass0 (pa_cons (pv 1) pa_nil)))
      (pv 0))), ?_⟩
    refine ⟨.ref a, rfl, (by show 2 ≤ sizeLine; decide), fun p np => ⟨_, p, _, _, _, true, rfl, upd_same, .cons (.ty _) (.cons (.ty _) .nil), tyT (sqT_same (same_upd np) hA), any_ft (by decide +kernel) (by decide +kernel), _, rfl, ?_⟩⟩
    refine ite2 (fun _ => ?_) (fun z => absurd rfl z)
    have s1 := same_upd (o := .tup [.ty "list", .ty "tuple"]) np
    generalize upd H p (.tup [.ty "list", .ty "tuple"]) = H1 at s1
    have hA1 := sqT_same s1 hA
    refine ⟨.ref a, rfl, a, rfl, ⟨_, hA1⟩, fun D nD => lc_tup (K := K) (a := a) (xs := ss.map V.str) (fun i H' => Same H1 H' ∧ H' D = some (.lst ((ss.take i).map V.str))) ⟨same_upd nD, upd_same⟩ (fun i H' _ z => sqT_same z.1 hA1) ?_ ?_⟩
    · rintro i x H2 hx ⟨s2, eD⟩
      rw [List.getElem?_map] at hx
      cases e : ss[i]? with
      | none =>
        rw [e] at hx
        cases hx
      | some z =>
        rw [e] at hx
        cases hx
        refine ⟨rfl, ?_⟩
        unfold tYes
        refine ite2 (fun _ => ?_) (fun z => absurd rfl z)
        refine ⟨.str z, rfl, z, rfl, fun H3 s3 => ⟨_, s3 _ _ eD, ?_, fun b o e2 => ?_, ?_⟩⟩
        · rw [List.length_map]
          exact small1000 (by rw [List.length_take]; omega)
        · rw [upd_ne (ne_of_none e2 nD)]
          exact s3 _ _ (s2 _ _ e2)
        · rw [upd_same, take_snoc e, List.map_append]
          rfl
    · rintro H2 ⟨s2, eD⟩
      rw [List.length_map, List.take_length] at eD
      exact q H2 D (s1.trans s2) (s1.free nD) eD
theorem ok_ls2 {n : Nat} {f : Addr} {fd : FuncData} (F : Fun K "_law_lists" "_law_lists" sLists f fd) (G : FnOk P w K mg base CX0 n f fd ["_law_matter"] (spLs1 K)) (bG : Binds K fd ["_law_matter"] []) (mG : mg "_law_lists" = some (.ref f)) (T : SmT mg) :
    FnOk P w K mg base CX0 (n + 1) f fd ["_law_matter"] (spLs2 K) := by
  refine F.ok scLists (fun vs H Q E h => ?_) (fun cdv A outer s H vs Q E hr h => ?_)
  · obtain ⟨a, as, ps, rfl, _⟩ := h
    rfl
  · obtain ⟨a, as, ps, rfl, hA, la, hl, hp, q⟩ := h
    refine ⟨_, pss_one (ps_ret (pe_ifExp (pt_val (pe_callB call_isiT (by rfl) T.is (by decide +kernel) (pa_cons (pv 0) (pa_cons (pe_tup (pa_cons (pe_bltn (v := .ty "list") (by rfl) T.li (by decide +kernel) rfl) (pa_cons (pe_bltn (v := .ty "tuple") (by rfl) T.tu (by decide +kernel) rfl) pa_nil))) pa_nil))))
      (pe_lc (own := [("_law_bit", 1)]) (g := gName 1) (by rfl) scLists.nd (pi_tup (pv 0)) (blkOk_by (own := [("_law_bit", 1)]) (N := nLists) (sc := defScope sLists) (by decide +kernel))
        (fun _ _ _ _ _ => pg_name (i := 1) scLists.nd rfl (Or.inl rfl) (.inr rfl)) (fun _ _ _ _ _ => pts_nil) (fun _ _ _ _ _ => pe_call G hr (by rfl) mG F.kp bG .nil pass0 (pa_cons (pv 1) pa_nil)))
      (pv 0))), ?_⟩
    refine ⟨.ref a, rfl, (by show 2 ≤ sizeLine; decide), fun p np => ⟨_, p, _, _, _, true, rfl, upd_same, .cons (.ty _) (.cons (.ty _) .nil), tyT (sqT_same (same_upd np) hA), any_ft (by decide +kernel) (by decide +kernel), _, rfl, ?_⟩⟩
    refine ite2 (fun _ => ?_) (fun z => absurd rfl z)
    have s1 := same_upd (o := .tup [.ty "list", .ty "tuple"]) np
    generalize upd H p (.tup [.ty "list", .ty "tuple"]) = H1 at s1
    have hA1 := sqT_same s1 hA
    refine ⟨.ref a, rfl, a, rfl, ⟨_, hA1⟩, fun D nD => lc_tup (K := K) (a := a) (xs := as.map V.ref) (fun i H' => Same H1 H' ∧ ∃ bs : List Addr, bs.length = i ∧ H' D = some (.lst (bs.map V.ref)) ∧ ∀ (j : Nat) (b : Addr) (x y : Str), bs[j]? = some b → ps[j]? = some (x, y) → b ≠ D ∧ H' b = some (.lst [.str x, .str y]))
      ⟨same_upd nD, [], rfl, upd_same, fun j b x y e => by simp at e⟩ (fun i H' _ z => sqT_same z.1 hA1) ?_ ?_⟩
    · rintro i x H2 hx ⟨s2, bs, lb, eD, hb⟩
      rw [List.getElem?_map] at hx
      have hi : i < as.length := by
        refine Classical.byContradiction fun z => ?_
        rw [List.getElem?_eq_none (by omega)] at hx
        cases hx
      rw [List.getElem?_eq_getElem hi] at hx
      have ex : x = .ref as[i] := (Option.some.inj hx).symm
      subst ex
      have hi2 : i < ps.length := by omega
      have hp2 : ps[i]? = some (ps[i].1, ps[i].2) := List.getElem?_eq_getElem hi2
      have hT := sqT_same (s1.trans s2) (hp i as[i] _ _ (List.getElem?_eq_getElem hi) hp2)
      refine ⟨rfl, ?_⟩
      unfold tYes
      refine ite2 (fun _ => ?_) (fun z => absurd rfl z)
      refine ⟨.ref as[i], rfl, as[i], [ps[i].1, ps[i].2], rfl, hT, (by show 2 ≤ 1000; decide), fun H3 c s3 nc ec => ⟨_, s3 _ _ eD, ?_, fun b o e2 => ?_, bs ++ [c], by rw [List.length_append, lb]; rfl, ?_, fun j b x y e1 e2 => ?_⟩⟩
      · rw [List.length_map, lb]
        exact small1000 (by omega)
      · rw [upd_ne (ne_of_none e2 nD)]
        exact s3 _ _ (s2 _ _ e2)
      · rw [upd_same, List.map_append]
        rfl
      · by_cases hj : j < bs.length
        · rw [List.getElem?_append_left hj] at e1
          obtain ⟨n1, n2⟩ := hb j b x y e1 e2
          refine ⟨n1, ?_⟩
          rw [upd_ne n1]
          exact s3 _ _ n2
        · have hj2 := (List.getElem?_eq_some_iff.mp e1).1
          rw [List.length_append, List.length_singleton] at hj2
          have ej : j = i := by omega
          subst ej
          rw [List.getElem?_append_right (by omega), lb, Nat.sub_self] at e1
          have ec2 : c = b := Option.some.inj e1
          subst ec2
          rw [hp2] at e2
          cases e2
          have ncD : c ≠ D := fun z => by
            rw [z, eD] at nc
            cases nc
          refine ⟨ncD, ?_⟩
          rw [upd_ne ncD]
          exact ec
    · rintro H2 ⟨s2, bs, lb, eD, hb⟩
      rw [List.length_map] at lb
      exact q H2 D (s1.trans s2) ⟨bs, .inr (SqL.of eD), by omega, fun j b x y e1 e2 => .inr (SqL.of (hb j b x y e1 e2).2)⟩
end
end K02
namespace K02
open PySem PySem.Spec PyProof.Rows L2 CS RZ
/-! ### calls by keywords alone -/
section
variable {X : Cx} {CX : CXT} {k : Nat} {f : Addr} {fd : FuncData} {ps ks : List Str} {sp : Sp} {E : XK} {x : Str} {p pos : Pos} {kws : List Keyword} {tk : TA} {g : List Value → List Value → List Value} {gV : List V → List V → List V}
theorem pe_callK0 (F : FnOk X.prog X.w X.K X.mg X.base CX k f fd ps sp) (hr : Room k X.A) (gx : Gl X x) (mx : X.mg x = some (.ref f)) (kx : PySem.W.keepIn X.K (.ref f) = true) (kb : KBinds X.K fd ps ks g gV) (px : Passes CX X E) (hkw : PK X kws tk)
    (hall : (backToKw pos (keywordEach kws X.env)).all (·.1.isSome) = true := by rfl) (hks : (backToKw pos (keywordEach kws X.env)).filterMap (·.1) = ks := by rfl) (hdb : (x == ("__debug__" : Str)) = false := by decide)
    (hpl : ((backTo pos (starEach [] X.env)).any (·.1) || (backToKw pos (keywordEach kws X.env)).any (·.1.isNone)) = false := by rfl) : PE X (.Call (.Name x p) [] kws pos) (tCallK sp gV E tNil tk) := by
  refine ⟨fun pins s0 σ H0 Q0 I0 hw => ?_⟩
  refine wpAny_Call_Name_kw (ld_glob I0 gx mx ?_ hdb)
  refine PySem.W.callWith_KW0 (h₀ := X.base) I0.ok.mod.kin kx hall ?_ hpl
  refine thn (hkw.run pos pins s0 σ H0 _ I0 hw) fun ws s2 ⟨zs, H2, I2, rz, q2⟩ => ⟨I2.kIn, ?_⟩
  rw [hks]
  exact run_fnk (us := []) (vs := []) F hr kb px I2 .nil rz q2
end
def kw3 {α : Type} : List α → List α → List α
  | [], [x, y] => [x, y]
  | _, _ => []
def kw2 {α : Type} : List α → List α → List α
  | [], [x, y] => [y, x]
  | _, _ => []
section
variable {K : PySem.W.Frag}
theorem kb2 {x qual : Str} {st : Stmt} {f : Addr} {fd : FuncData} {a b : Str} (F : Fun K x qual st f fd)
    (h : ∀ (kV doc pm : Value) (an : Option Addr) (cdv ct u v : Value), bindArgs (PySem.W.fnOf x qual (defArgs st) (defBody st) (defScope st) .none kV doc pm an cdv ct) ⟨[], [(b, u), (a, v)]⟩ = pure [(a, v), (b, u)]) : KBinds K fd [a, b] [b, a] kw2 kw2 := by
  obtain ⟨oc, od, kV, doc, pm, an, cdv, ct, osl, rfl, lk, hcd⟩ := F.ex
  refine ⟨fun s us ws _ hl => ?_, fun r1 r2 => ?_⟩
  · match us, ws, hl with
    | [], [u, v], _ => exact .of_eq (h kV doc pm an cdv ct u v)
    | [], [], e => cases e
    | [], [_], e => cases e
    | [], _ :: _ :: _ :: _, e => cases e
    | _ :: _, _, e => cases e
  · cases r1 with
    | nil =>
      cases r2 with
      | nil => exact .nil
      | cons a1 t1 =>
        cases t1 with
        | nil => exact .nil
        | cons a2 t2 =>
          cases t2 with
          | nil => exact .cons a2 (.cons a1 .nil)
          | cons _ _ => exact .nil
    | cons _ _ => exact .nil
theorem kb3 {x qual : Str} {st : Stmt} {f : Addr} {fd : FuncData} {a b : Str} (F : Fun K x qual st f fd)
    (h : ∀ (kV doc pm : Value) (an : Option Addr) (cdv ct u v : Value), bindArgs (PySem.W.fnOf x qual (defArgs st) (defBody st) (defScope st) .none kV doc pm an cdv ct) ⟨[], [(a, u), (b, v)]⟩ = pure [(a, u), (b, v)]) : KBinds K fd [a, b] [a, b] kw3 kw3 := by
  obtain ⟨oc, od, kV, doc, pm, an, cdv, ct, osl, rfl, lk, hcd⟩ := F.ex
  refine ⟨fun s us ws _ hl => ?_, fun r1 r2 => ?_⟩
  · match us, ws, hl with
    | [], [u, v], _ => exact .of_eq (h kV doc pm an cdv ct u v)
    | [], [], e => cases e
    | [], [_], e => cases e
    | [], _ :: _ :: _ :: _, e => cases e
    | _ :: _, _, e => cases e
  · cases r1 with
    | nil =>
      cases r2 with
      | nil => exact .nil
      | cons a1 t1 =>
        cases t1 with
        | nil => exact .nil
        | cons a2 t2 =>
          cases t2 with
          | nil => exact .cons a1 (.cons a2 .nil)
          | cons _ _ => exact .nil
    | cons _ _ => exact .nil
end
/-! ### what is written down, as data -/
section
variable {X : Cx} {K : PySem.W.Frag} {Γ : L2.St → Hp → Prop} {e : Expr} {es : List Expr}
/-- holds in later heaps, too -/
def Stays (Γ : L2.St → Hp → Prop) : Prop := ∀ (σ : L2.St) (H H' : Hp), Same H H' → Γ σ H → Γ σ H'
def gNo : L2.St → Hp → Prop := fun _ _ => True
def gVar (K : PySem.W.Frag) (i : Nat) (D : PyData) : L2.St → Hp → Prop := fun σ H => ∃ v, σ[i]? = some (some v) ∧ Dp K H v D
theorem gNo_stays : Stays gNo := fun _ _ _ _ _ => trivial
theorem gVar_stays {i : Nat} {D : PyData} : Stays (gVar K i D) := fun σ H H' s h => by
  obtain ⟨v, e, d⟩ := h
  exact ⟨v, e, dp_same s d⟩
def tLit (K : PySem.W.Frag) (Γ : L2.St → Hp → Prop) (d : PyData) : TE := fun σ H Q => Γ σ H ∧ ∀ v H', Same H H' → Dp K H' v d → Q v H'
def tLits (K : PySem.W.Frag) (Γ : L2.St → Hp → Prop) (ds : List PyData) : TA := fun σ H Q => Γ σ H ∧ ∀ vs H', Same H H' → DpAll K H' vs ds → Q vs H'
/-- a list at the top: it stands at its own address -/
def tLitL (K : PySem.W.Frag) (Γ : L2.St → Hp → Prop) (ds : List PyData) : TE := fun σ H Q => Γ σ H ∧ ∀ p xs H', Same H H' → H p = none → H' p = some (.lst xs) → DpAll K H' xs ds → Q (.ref p) H'
theorem pe_imp {t t' : TE} (h : PE X e t) (k : ∀ σ H Q, t' σ H Q → t σ H Q) : PE X e t' := ⟨fun pins s σ H Q I z => h.run pins s σ H Q I (k σ H Q z)⟩
theorem pa_imp {t t' : TA} (h : PA X es t) (k : ∀ σ H Q, t' σ H Q → t σ H Q) : PA X es t' := ⟨fun pos pins s σ H Q I z => h.run pos pins s σ H Q I (k σ H Q z)⟩
theorem same_refl {H : Hp} : Same H H := fun _ _ e => e
theorem lit_int {i : Int} {j pos} : PE X (.Constant (.int i) j pos) (tLit K Γ (.int i)) := pe_imp pe_int fun _ H _ h => h.2 _ H same_refl (.int i)
theorem lit_str {x : Str} {j pos} : PE X (.Constant (.str x) j pos) (tLit K Γ (.str x)) := pe_imp pe_str fun _ H _ h => h.2 _ H same_refl (.str x)
theorem lit_bl {b : Bool} {j pos} : PE X (.Constant (.bool b) j pos) (tLit K Γ (.bool b)) := pe_imp pe_bl fun _ H _ h => h.2 _ H same_refl (.bl b)
theorem lit_non {j pos} : PE X (.Constant .none j pos) (tLit K Γ .none) := pe_imp pe_non fun _ H _ h => h.2 _ H same_refl .non
theorem lit_var {i : Nat} {D : PyData} (h : PE X e (tVar i)) : PE X e (tLit K (gVar K i D) D) := pe_imp h fun _ H _ z => by
  obtain ⟨⟨v, ev, d⟩, k⟩ := z
  exact ⟨v, ev, k v H same_refl d⟩
theorem lits_nil : PA X [] (tLits K Γ []) := pa_imp pa_nil fun _ H _ h => h.2 _ H same_refl .nil
theorem lits_cons {d : PyData} {ds : List PyData} (G : Stays Γ) (h : PE X e (tLit K Γ d)) (t : PA X es (tLits K Γ ds)) (hs : starEach (e :: es) X.env = (false, eval e X.env) :: starEach es X.env := by rfl) : PA X (e :: es) (tLits K Γ (d :: ds)) :=
  pa_imp (pa_cons h t hs) fun σ H _ z => ⟨z.1, fun v H1 s1 d1 => ⟨G σ H H1 s1 z.1, fun vs H2 s2 d2 => z.2 _ _ (s1.trans s2) (.cons (dp_same s2 d1) d2)⟩⟩
theorem lit_tup {ds : List PyData} {k1 pos} (h : PA X es (tLits K Γ ds)) (hl : ds.length ≤ 1000 := by decide) : PE X (.Tuple es k1 pos) (tLit K Γ (.tuple ds)) :=
  pe_imp (pe_tup h) fun σ H _ z => ⟨z.1, fun vs H1 s1 d1 => ⟨by rw [dpAll_len d1]; exact Nat.le_of_lt (small1000 hl), fun p np => z.2 _ _ (s1.trans (same_upd np)) (.tup (SqT.of upd_same) (dp_sameAll (same_upd np) d1))⟩⟩
theorem lit_lst {ds : List PyData} {pos} (h : PA X es (tLits K Γ ds)) (hl : ds.length ≤ 1000 := by decide) : PE X (.List es pos) (tLit K Γ (.list ds)) :=
  pe_imp (pe_lst h) fun σ H _ z => ⟨z.1, fun vs H1 s1 d1 => ⟨by rw [dpAll_len d1]; exact Nat.le_of_lt (small1000 hl), fun p np => z.2 _ _ (s1.trans (same_upd np)) (.lst (SqL.of upd_same) (dp_sameAll (same_upd np) d1))⟩⟩
theorem lit_top {ds : List PyData} {pos} (h : PA X es (tLits K Γ ds)) (hl : ds.length ≤ 1000 := by decide) : PE X (.List es pos) (tLitL K Γ ds) :=
  pe_imp (pe_lst h) fun σ H _ z => ⟨z.1, fun vs H1 s1 d1 => ⟨by rw [dpAll_len d1]; exact Nat.le_of_lt (small1000 hl), fun p np => z.2 _ _ _ (s1.trans (same_upd np)) (s1.free np) upd_same (dp_sameAll (same_upd np) d1)⟩⟩
end

def okDB : Nat → PyData → Bool
  | 0, _ => false
  | _ + 1, .int _ => true
  | _ + 1, .str _ => true
  | _ + 1, .bool _ => true
  | _ + 1, .none => true
  | n + 1, .list ds => decide (ds.length ≤ 1000) && ds.all (okDB n)
  | n + 1, .tuple ds => decide (ds.length ≤ 1000) && ds.all (okDB n)
  | _ + 1, _ => false
theorem okD_of : ∀ (n : Nat) (d : PyData), okDB n d = true → okD n d
  | 0, _, h => by cases h
  | n + 1, d, h => by
    cases d with
    | int _ => trivial
    | str _ => trivial
    | bool _ => trivial
    | none => trivial
    | list ds =>
      obtain ⟨h1, h2⟩ := Bool.and_eq_true_iff.mp h
      exact ⟨of_decide_eq_true h1, fun d hd => okD_of n d (List.all_eq_true.mp h2 d hd)⟩
    | tuple ds =>
      obtain ⟨h1, h2⟩ := Bool.and_eq_true_iff.mp h
      exact ⟨of_decide_eq_true h1, fun d hd => okD_of n d (List.all_eq_true.mp h2 d hd)⟩
    | _ => cases h
/-- a row, a tuple or a list -/
def rowD (t : Bool) (ss : List Str) : PyData := if t = true then .tuple (dS ss) else .list (dS ss)
def pairD (t : Bool) (p : Str × Str) : PyData := rowD t [p.1, p.2]
def psD (t : Bool) (ps : List (Str × Str)) : PyData := if t = true then .tuple (ps.map (pairD t)) else .list (ps.map (pairD t))
section
variable {K : PySem.W.Frag} {H : Hp}
theorem dS_vals : ∀ {ss : List Str} {xs : List V}, DpAll K H xs (dS ss) → xs = ss.map V.str
  | [], _, .nil => rfl
  | s :: ss, _, .cons h1 h2 => by
    cases h1
    rw [dS_vals h2]
    rfl
theorem jr_of {t : Bool} {ss : List Str} {v : V} (h : Dp K H v (rowD t ss)) : ∃ a, v = .ref a ∧ Jr K H a ss := by
  cases t with
  | true =>
    have h' : Dp K H v (.tuple (dS ss)) := h
    cases h' with
    | tup h1 h2 =>
      rw [dS_vals h2] at h1
      exact ⟨_, rfl, .inl h1⟩
  | false =>
    have h' : Dp K H v (.list (dS ss)) := h
    cases h' with
    | lst h1 h2 =>
      rw [dS_vals h2] at h1
      exact ⟨_, rfl, .inr h1⟩
theorem ps_all {t : Bool} : ∀ {ps : List (Str × Str)} {xs : List V}, DpAll K H xs (ps.map (pairD t)) → ∃ as : List Addr, xs = as.map V.ref ∧ as.length = ps.length ∧ ∀ (j : Nat) (a : Addr) (x y : Str), as[j]? = some a → ps[j]? = some (x, y) → SqT K H a [.str x, .str y] ∨ SqL K H a [.str x, .str y]
  | [], _, .nil => ⟨[], rfl, rfl, fun j a x y e => by simp at e⟩
  | p :: ps, _, .cons h1 h2 => by
    obtain ⟨as, e1, e2, e3⟩ := ps_all h2
    obtain ⟨a, ea, ja⟩ := jr_of h1
    refine ⟨a :: as, by rw [e1, ea]; rfl, by simp [e2], fun j b x y q1 q2 => ?_⟩
    cases j with
    | zero =>
      cases q1
      cases q2
      exact ja
    | succ j => exact e3 j b x y (by simpa using q1) (by simpa using q2)
theorem ps_of {t : Bool} {ps : List (Str × Str)} {v : V} (h : Dp K H v (psD t ps)) : ∃ a, v = .ref a ∧ Ps K H a ps := by
  cases t with
  | true =>
    have h' : Dp K H v (.tuple (ps.map (pairD true))) := h
    cases h' with
    | tup h1 h2 =>
      obtain ⟨as, e1, e2, e3⟩ := ps_all h2
      rw [e1] at h1
      exact ⟨_, rfl, as, .inl h1, e2, e3⟩
  | false =>
    have h' : Dp K H v (.list (ps.map (pairD false))) := h
    cases h' with
    | lst h1 h2 =>
      obtain ⟨as, e1, e2, e3⟩ := ps_all h2
      rw [e1] at h1
      exact ⟨_, rfl, as, .inr h1, e2, e3⟩
variable {Γ : L2.St → Hp → Prop}
theorem two_vals {vs : List V} {d1 d2 : PyData} (h : DpAll K H vs [d1, d2]) : ∃ x y, vs = [x, y] ∧ Dp K H x d1 ∧ Dp K H y d2 := by
  cases h with
  | cons h1 h2 =>
    cases h2 with
    | cons h2 h3 =>
      cases h3
      exact ⟨_, _, rfl, h1, h2⟩
/-- joined of what is written down -/
theorem use_join {C : Addr} {b1 b2 : Bool} {ss rs : List Str} {z : Str} (el : ss[ss.length - 1]? = some z) (eh : rs[0]? = some z) (l1 : ss.length ≤ 1000) (l2 : rs.length ≤ 1000) {out : List Str} (eo : ss ++ rs.tail = out) {E : XK} {H : Hp} {Q : VK} {vs : List V} (h : ∀ v H', Same H H' → Dp K H' v (.tuple (dS out)) → Q v H')
    (dv : DpAll K H vs [rowD b1 ss, rowD b2 rs]) : spJoin K C vs H Q E := by
  subst eo
  obtain ⟨x, y, rfl, d1, d2⟩ := two_vals dv
  obtain ⟨a, rfl, ja⟩ := jr_of d1
  obtain ⟨b, rfl, jb⟩ := jr_of d2
  exact ⟨a, b, ss, rs, z, z, rfl, ja, jb, l1, l2, el, eh, fun _ H' p s t => h _ H' s (.tup t (dpS _)), fun n => absurd rfl n⟩
theorem use_heard {b1 b2 : Bool} {ss rs : List Str} {la hd : Str} (el : ss[ss.length - 1]? = some la) (eh : rs[0]? = some hd) (l1 : ss.length ≤ 1000) (l2 : rs.length ≤ 1000) {out : PyData} (eo : dHeard la hd ss rs = out) {E : XK} {H : Hp} {Q : VK} {vs : List V} (h : ∀ v H', Same H H' → Dp K H' v out → Q v H')
    (dv : DpAll K H vs [rowD b1 ss, rowD b2 rs]) : spHeard K vs H Q E := by
  subst eo
  obtain ⟨x, y, rfl, d1, d2⟩ := two_vals dv
  obtain ⟨a, rfl, ja⟩ := jr_of d1
  obtain ⟨b, rfl, jb⟩ := jr_of d2
  exact ⟨a, b, ss, rs, la, hd, rfl, ja, jb, l1, l2, el, eh, fun H' v s d => h v H' s d⟩
theorem use_seen {b1 b2 : Bool} {ss : List Str} {ps : List (Str × Str)} (l0 : 0 < ss.length) (l1 : ss.length ≤ 900) (nd : (ps.map Prod.fst).Nodup) (l2 : ps.length ≤ 100) {out : List Str} (eo : seenL ps ss = out) {E : XK} {H : Hp} {Q : VK} {vs : List V} (h : ∀ v H', Same H H' → Dp K H' v (.tuple (dS out)) → Q v H')
    (dv : DpAll K H vs [rowD b1 ss, psD b2 ps]) : spSeen K vs H Q E := by
  subst eo
  obtain ⟨x, y, rfl, d1, d2⟩ := two_vals dv
  obtain ⟨a, rfl, ja⟩ := jr_of d1
  obtain ⟨b, rfl, jb⟩ := ps_of d2
  exact ⟨a, b, ss, ps, rfl, ja, l0, l1, jb, nd, l2, fun H' p s t => h _ H' s (.tup t (dpS _))⟩
end
end K02
set_option maxHeartbeats 4000000
namespace K02
open PySem PySem.Spec PyProof.Rows L2 CS RZ
def rowS : List Str := ["a", "b", "a", "c", "a"]
def ds0 : List PyData := [.tuple (dS ["a", "b"]), .tuple (dS ["a", "b"]), .tuple (dS ["a", "b", "a"])]
def ds1 : List PyData := [.list [.str "b", .str "a", .bool true, .bool false], .list [.str "a", .str "b", .bool true, .bool false]]
def dd0 : List PyData := [.tuple (dS ["a", "b"]), .tuple (dS ["a", "b"]), .tuple (dS ["a", "b", "a"]), .list [.str "b", .str "a", .bool true, .bool false], .list [.str "a", .str "b", .bool true, .bool false]]
def ds2 : List PyData := [.tuple (dS ["a"]), .tuple (dS ["b", "a", "b", "c", "b"]), .tuple (dS rowS)]
def ds3 : List PyData := [.tuple (dS ["a", "b", "a", "b", "a"]), .tuple (dS rowS)]
def dd1 : List PyData := [.tuple (dS ["a"]), .tuple (dS ["b", "a", "b", "c", "b"]), .tuple (dS rowS), .tuple (dS ["a", "b", "a", "b", "a"]), .tuple (dS rowS)]
theorem hand_eq : ds0 ++ ds1 ++ ds2 ++ ds3 = dd0 ++ dd1 := rfl
theorem hand_ok : okDB 4 (.list (dd0 ++ dd1)) = true := by decide +kernel
section
variable {P : Program} {w : World} {K : PySem.W.Frag} {mg : Str → Option Value} {base : Heap}
theorem useJK {C : Addr} {σ : L2.St} {H : Hp} {Q : VK} {E : XK} (h : tLit K gNo (.tuple (dS (["a", "b", "a"] : List Str))) σ H Q) :
    tCallK (spJoin K C) kw3 E tNil (tCons (tLit K gNo (.list [.str "a", .str "b"])) (tCons (tLit K gNo (.list [.str "b", .str "a"])) tNil)) σ H Q :=
  ⟨trivial, fun v1 H1 s1 d1 => ⟨trivial, fun v2 H2 s2 d2 => use_join (K := K) (C := C) (b1 := false) (b2 := false) (ss := ["a", "b"]) (rs := ["b", "a"]) (z := "b") rfl rfl (by decide) (by decide) rfl (fun v H3 s3 d => h.2 v H3 ((s1.trans s2).trans s3) d) (.cons (dp_same s2 d1) (.cons d2 .nil))⟩⟩
theorem useSK {σ : L2.St} {H : Hp} {Q : VK} {E : XK} (h : tLit K (gVar K 2 (.tuple (dS rowS))) (.tuple (dS (["a", "b", "a", "b", "a"] : List Str))) σ H Q) :
    tCallK (spSeen K) kw2 E tNil (tCons (tLit K (gVar K 2 (.tuple (dS rowS))) (.list [.list [.str "c", .str "b"]])) (tCons (tCB (fun xs H Q => ∃ p ys, xs = [.ref p] ∧ (SqL K H p ys ∨ SqT K H p ys) ∧ ∀ l, H l = none → Q (.ref l) (upd H l (.lst ys))) (tCons (tVar 2) tNil)) tNil)) σ H Q := by
  obtain ⟨g, k⟩ := h
  refine ⟨g, fun v1 H1 s1 d1 => ?_⟩
  obtain ⟨v, ev, dv⟩ := gVar_stays (K := K) σ H H1 s1 g
  cases dv with
  | tup h1 h2 =>
    rw [dS_vals h2] at h1
    refine ⟨_, ev, _, _, rfl, .inr h1, fun l nl => ?_⟩
    exact use_seen (K := K) (E := E) (b1 := false) (b2 := false) (ss := rowS) (ps := [("c", "b")]) (by decide) (by decide) (by decide +kernel) (by decide) (by decide +kernel) (fun v H3 s3 d => k v H3 ((s1.trans (same_upd nl)).trans s3) d)
      (.cons (.lst (SqL.of upd_same) (dpS rowS)) (.cons (dp_same (same_upd nl) d1) .nil))
def spTrue : Sp := fun vs H Q _ => vs = [] ∧ ∀ H' : Hp, Same H H' → Q (.bl true) H'
abbrev nHand : List Str := ["_law_got", "_law_due", "_law_row_so"]
theorem scHand : FnScope nHand [] (defScope sHand) := ⟨rfl, rfl, rfl, by decide +kernel, rfl, by decide +kernel, by decide +kernel⟩
theorem cat_use {l m : Addr} {xs ys : List V} {H : Hp} {Q : VK} (e1 : H l = some (.lst xs)) (e2 : H m = some (.lst ys)) (hl : xs.length + ys.length ≤ 1000) (h : ∀ (H' : Hp) (p : Addr), Same H H' → H p = none → H' p = some (.lst (xs ++ ys)) → Q (.ref p) H') : rCat (.ref l) (.ref m) H Q :=
  ⟨l, m, xs, ys, rfl, rfl, e1, e2, Nat.le_of_lt (small1000 hl), fun p np => h _ p (same_upd np) np upd_same⟩
theorem dp_app {H : Hp} {xs ys : List V} : ∀ {ds es : List PyData}, DpAll K H xs ds → DpAll K H ys es → DpAll K H (xs ++ ys) (ds ++ es) := by
  induction xs with
  | nil =>
    intro ds es h1 h2
    cases h1
    exact h2
  | cons x xs ih =>
    intro ds es h1 h2
    cases h1 with
    | cons a b => exact .cons a (ih b h2)
theorem ok_hand {f fm fJ fH fS C : Addr} {fd dm dJ dH dS' : FuncData} {k : Nat} (F : Fun K "_law_by_hand_right" "_law_by_hand_right" sHand f fd) (T : SmT mg)
    (M : FnOk P w K mg base CX0 k fm dm ["_law_got", "_law_due"] (spSame K 4)) (bM : Binds K dm ["_law_got", "_law_due"] []) (kM : PySem.W.keepIn K (.ref fm) = true) (mM : mg "_law_same" = some (.ref fm))
    (GJ : FnOk P w K mg base (L2.CX P w) k fJ dJ ["one", "other"] (spJoin K C)) (bJ : Binds K dJ ["one", "other"] []) (kJ : PySem.W.keepIn K (.ref fJ) = true) (mJ : mg "joined" = some (.ref fJ)) (cJ : KBinds K dJ ["one", "other"] ["one", "other"] kw3 kw3)
    (GH : FnOk P w K mg base CX0 k fH dH ["_law_one_so", "_law_far_so"] (spHeard K)) (bH : Binds K dH ["_law_one_so", "_law_far_so"] []) (kH : PySem.W.keepIn K (.ref fH) = true) (mH : mg "_law_heard" = some (.ref fH))
    (GS : FnOk P w K mg base CX0 k fS dS' ["journey", "names"] (spSeen K)) (bS : Binds K dS' ["journey", "names"] []) (kS : PySem.W.keepIn K (.ref fS) = true) (mS : mg "seen" = some (.ref fS)) (cS : KBinds K dS' ["journey", "names"] ["names", "journey"] kw2 kw2) :
    FnOk P w K mg base CX0 (k + 1) f fd [] spTrue := by
  refine F.ok scHand (fun vs H Q E h => ?_) (fun cdv A outer s H vs Q E hr h => ?_)
  · rw [h.1]
    rfl
  · obtain ⟨rfl, q⟩ := h
    refine ⟨_, pss_cons (ps_set (i := 0) scHand.nd rfl (.inl rfl) (lit_top (K := K) (Γ := gNo) (ds := ds0) (lits_cons gNo_stays (by exact (pe_imp (t' := tLit K gNo (.tuple (dS (["a", "b"] : List Str)))) (pe_callS GJ hr (by rfl) mJ kJ bJ (fun σ => passAt takes0 σ) (lits_cons gNo_stays (lit_tup (lits_cons gNo_stays lit_str lits_nil)) (lits_cons gNo_stays (lit_tup (lits_cons gNo_stays lit_str (lits_cons gNo_stays lit_str lits_nil))) lits_nil))) (fun _ _ _ h => ⟨h.1, fun _ H1 s1 dv => use_join (K := K) (C := C) (b1 := true) (b2 := true) (ss := (["a"] : List Str)) (rs := (["a", "b"] : List Str)) (z := "a") rfl rfl (by decide) (by decide) rfl (fun v H2 s2 d => h.2 v H2 (s1.trans s2) d) dv⟩))) (lits_cons gNo_stays (by exact (pe_imp (t' := tLit K gNo (.tuple (dS (["a", "b"] : List Str)))) (pe_callS GJ hr (by rfl) mJ kJ bJ (fun σ => passAt takes0 σ) (lits_cons gNo_stays (lit_tup (lits_cons gNo_stays lit_str (lits_cons gNo_stays lit_str lits_nil))) (lits_cons gNo_stays (lit_tup (lits_cons gNo_stays lit_str lits_nil)) lits_nil))) (fun _ _ _ h => ⟨h.1, fun _ H1 s1 dv => use_join (K := K) (C := C) (b1 := true) (b2 := true) (ss := (["a", "b"] : List Str)) (rs := (["b"] : List Str)) (z := "b") rfl rfl (by decide) (by decide) rfl (fun v H2 s2 d => h.2 v H2 (s1.trans s2) d) dv⟩))) (lits_cons gNo_stays (by exact (pe_imp (t' := tLit K gNo (.tuple (dS (["a", "b", "a"] : List Str)))) (pe_callK0 GJ hr (by rfl) mJ kJ cJ pass_no (pk_cons (lit_lst (K := K) (Γ := gNo) (lits_cons gNo_stays lit_str (lits_cons gNo_stays lit_str lits_nil))) (pk_cons (lit_lst (K := K) (Γ := gNo) (lits_cons gNo_stays lit_str (lits_cons gNo_stays lit_str lits_nil))) pk_nil))) (fun _ _ _ h => useJK h))) lits_nil)))))
      (pss_cons (ps_set (i := 0) scHand.nd rfl (.inl rfl) (pe_op op_cat (pv 0) (lit_top (K := K) (Γ := gNo) (ds := ds1) (lits_cons gNo_stays (by exact (pe_imp (t' := tLit K gNo (.list [.str "b", .str "a", .bool true, .bool false])) (pe_call GH hr (by rfl) mH kH bH .nil pass0 (lits_cons gNo_stays (lit_tup (lits_cons gNo_stays lit_str (lits_cons gNo_stays lit_str lits_nil))) (lits_cons gNo_stays (lit_tup (lits_cons gNo_stays lit_str (lits_cons gNo_stays lit_str lits_nil))) lits_nil))) (fun _ _ _ h => ⟨h.1, fun _ H1 s1 dv => use_heard (K := K) (b1 := true) (b2 := true) (ss := (["a", "b"] : List Str)) (rs := (["a", "b"] : List Str)) (la := "b") (hd := "a") rfl rfl (by decide) (by decide) rfl (fun v H2 s2 d => h.2 v H2 (s1.trans s2) d) (by rw [List.append_nil]; exact dv)⟩))) (lits_cons gNo_stays (by exact (pe_imp (t' := tLit K gNo (.list [.str "a", .str "b", .bool true, .bool false])) (pe_call GH hr (by rfl) mH kH bH .nil pass0 (lits_cons gNo_stays (lit_tup (lits_cons gNo_stays lit_str lits_nil)) (lits_cons gNo_stays (lit_tup (lits_cons gNo_stays lit_str (lits_cons gNo_stays lit_str lits_nil))) lits_nil))) (fun _ _ _ h => ⟨h.1, fun _ H1 s1 dv => use_heard (K := K) (b1 := true) (b2 := true) (ss := (["a"] : List Str)) (rs := (["b", "a"] : List Str)) (la := "a") (hd := "b") rfl rfl (by decide) (by decide) rfl (fun v H2 s2 d => h.2 v H2 (s1.trans s2) d) (by rw [List.append_nil]; exact dv)⟩))) lits_nil)))))
      (pss_cons (ps_set (i := 1) scHand.nd rfl (.inl rfl) (lit_top (K := K) (Γ := gNo) (ds := dd0) (lits_cons gNo_stays (lit_tup (lits_cons gNo_stays lit_str (lits_cons gNo_stays lit_str lits_nil))) (lits_cons gNo_stays (lit_tup (lits_cons gNo_stays lit_str (lits_cons gNo_stays lit_str lits_nil))) (lits_cons gNo_stays (lit_tup (lits_cons gNo_stays lit_str (lits_cons gNo_stays lit_str (lits_cons gNo_stays lit_str lits_nil)))) (lits_cons gNo_stays (lit_lst (lits_cons gNo_stays lit_str (lits_cons gNo_stays lit_str (lits_cons gNo_stays lit_bl (lits_cons gNo_stays lit_bl lits_nil))))) (lits_cons gNo_stays (lit_lst (lits_cons gNo_stays lit_str (lits_cons gNo_stays lit_str (lits_cons gNo_stays lit_bl (lits_cons gNo_stays lit_bl lits_nil))))) lits_nil)))))))
      (pss_cons (ps_set (i := 2) scHand.nd rfl (.inl rfl) (lit_tup (K := K) (Γ := gNo) (ds := dS rowS) (lits_cons gNo_stays lit_str (lits_cons gNo_stays lit_str (lits_cons gNo_stays lit_str (lits_cons gNo_stays lit_str (lits_cons gNo_stays lit_str lits_nil)))))))
      (pss_cons (ps_set (i := 0) scHand.nd rfl (.inl rfl) (pe_op op_cat (pv 0) (lit_top (K := K) (Γ := (gVar K 2 (.tuple (dS rowS)))) (ds := ds2) (lits_cons (gVar_stays (K := K)) (by exact (pe_imp (t' := tLit K (gVar K 2 (.tuple (dS rowS))) (.tuple (dS (["a"] : List Str)))) (pe_call GS hr (by rfl) mS kS bS .nil pass0 (lits_cons (gVar_stays (K := K)) (lit_var (pv 2)) (lits_cons (gVar_stays (K := K)) (lit_tup (lits_cons (gVar_stays (K := K)) (lit_tup (lits_cons (gVar_stays (K := K)) lit_str (lits_cons (gVar_stays (K := K)) lit_str lits_nil))) (lits_cons (gVar_stays (K := K)) (lit_tup (lits_cons (gVar_stays (K := K)) lit_str (lits_cons (gVar_stays (K := K)) lit_str lits_nil))) lits_nil))) lits_nil))) (fun _ _ _ h => ⟨h.1, fun _ H1 s1 dv => use_seen (K := K) (b1 := true) (b2 := true) (ss := rowS) (ps := ([("b", "a"), ("c", "a")] : List (Str × Str))) (by decide) (by decide) (by decide +kernel) (by decide) (by decide +kernel) (fun v H2 s2 d => h.2 v H2 (s1.trans s2) d) (by rw [List.append_nil]; exact dv)⟩))) (lits_cons (gVar_stays (K := K)) (by exact (pe_imp (t' := tLit K (gVar K 2 (.tuple (dS rowS))) (.tuple (dS (["b", "a", "b", "c", "b"] : List Str)))) (pe_call GS hr (by rfl) mS kS bS .nil pass0 (lits_cons (gVar_stays (K := K)) (lit_var (pv 2)) (lits_cons (gVar_stays (K := K)) (lit_tup (lits_cons (gVar_stays (K := K)) (lit_tup (lits_cons (gVar_stays (K := K)) lit_str (lits_cons (gVar_stays (K := K)) lit_str lits_nil))) (lits_cons (gVar_stays (K := K)) (lit_tup (lits_cons (gVar_stays (K := K)) lit_str (lits_cons (gVar_stays (K := K)) lit_str lits_nil))) lits_nil))) lits_nil))) (fun _ _ _ h => ⟨h.1, fun _ H1 s1 dv => use_seen (K := K) (b1 := true) (b2 := true) (ss := rowS) (ps := ([("a", "b"), ("b", "a")] : List (Str × Str))) (by decide) (by decide) (by decide +kernel) (by decide) (by decide +kernel) (fun v H2 s2 d => h.2 v H2 (s1.trans s2) d) (by rw [List.append_nil]; exact dv)⟩))) (lits_cons (gVar_stays (K := K)) (by exact (pe_imp (t' := tLit K (gVar K 2 (.tuple (dS rowS))) (.tuple (dS (["a", "b", "a", "c", "a"] : List Str)))) (pe_call GS hr (by rfl) mS kS bS .nil pass0 (lits_cons (gVar_stays (K := K)) (lit_var (pv 2)) (lits_cons (gVar_stays (K := K)) (lit_tup lits_nil) lits_nil))) (fun _ _ _ h => ⟨h.1, fun _ H1 s1 dv => use_seen (K := K) (b1 := true) (b2 := true) (ss := rowS) (ps := ([] : List (Str × Str))) (by decide) (by decide) (by decide +kernel) (by decide) (by decide +kernel) (fun v H2 s2 d => h.2 v H2 (s1.trans s2) d) (by rw [List.append_nil]; exact dv)⟩))) lits_nil))))))
      (pss_cons (ps_set (i := 0) scHand.nd rfl (.inl rfl) (pe_op op_cat (pv 0) (lit_top (K := K) (Γ := (gVar K 2 (.tuple (dS rowS)))) (ds := ds3) (lits_cons (gVar_stays (K := K)) (by exact (pe_imp (t' := tLit K (gVar K 2 (.tuple (dS rowS))) (.tuple (dS (["a", "b", "a", "b", "a"] : List Str)))) (pe_callK0 GS hr (by rfl) mS kS cS pass0 (pk_cons (lit_lst (K := K) (Γ := (gVar K 2 (.tuple (dS rowS)))) (lits_cons (gVar_stays (K := K)) (lit_lst (lits_cons (gVar_stays (K := K)) lit_str (lits_cons (gVar_stays (K := K)) lit_str lits_nil))) lits_nil)) (pk_cons (pe_callTy call_list_of (by rfl) T.li (by decide +kernel) (pa_cons (pv 2) pa_nil)) pk_nil))) (fun _ _ _ h => useSK h))) (lits_cons (gVar_stays (K := K)) (by exact (pe_imp (t' := tLit K (gVar K 2 (.tuple (dS rowS))) (.tuple (dS (["a", "b", "a", "c", "a"] : List Str)))) (pe_call GS hr (by rfl) mS kS bS .nil pass0 (lits_cons (gVar_stays (K := K)) (lit_var (pv 2)) (lits_cons (gVar_stays (K := K)) (lit_tup (lits_cons (gVar_stays (K := K)) (lit_tup (lits_cons (gVar_stays (K := K)) lit_str (lits_cons (gVar_stays (K := K)) lit_str lits_nil))) lits_nil)) lits_nil))) (fun _ _ _ h => ⟨h.1, fun _ H1 s1 dv => use_seen (K := K) (b1 := true) (b2 := true) (ss := rowS) (ps := ([("x", "y")] : List (Str × Str))) (by decide) (by decide) (by decide +kernel) (by decide) (by decide +kernel) (fun v H2 s2 d => h.2 v H2 (s1.trans s2) d) (by rw [List.append_nil]; exact dv)⟩))) lits_nil)))))
      (pss_cons (ps_set (i := 1) scHand.nd rfl (.inl rfl) (pe_op op_cat (pv 1) (lit_top (K := K) (Γ := (gVar K 2 (.tuple (dS rowS)))) (ds := dd1) (lits_cons (gVar_stays (K := K)) (lit_tup (lits_cons (gVar_stays (K := K)) lit_str lits_nil)) (lits_cons (gVar_stays (K := K)) (lit_tup (lits_cons (gVar_stays (K := K)) lit_str (lits_cons (gVar_stays (K := K)) lit_str (lits_cons (gVar_stays (K := K)) lit_str (lits_cons (gVar_stays (K := K)) lit_str (lits_cons (gVar_stays (K := K)) lit_str lits_nil)))))) (lits_cons (gVar_stays (K := K)) (lit_var (pv 2)) (lits_cons (gVar_stays (K := K)) (lit_tup (lits_cons (gVar_stays (K := K)) lit_str (lits_cons (gVar_stays (K := K)) lit_str (lits_cons (gVar_stays (K := K)) lit_str (lits_cons (gVar_stays (K := K)) lit_str (lits_cons (gVar_stays (K := K)) lit_str lits_nil)))))) (lits_cons (gVar_stays (K := K)) (lit_var (pv 2)) lits_nil))))))))
      (pss_one (ps_ret (pe_call M hr (by rfl) mM kM bM .nil pass0 (pa_cons (pv 0) (pa_cons (pv 1) pa_nil))))))))))), ?_⟩
    refine ⟨trivial, fun p0 x0 H0 s0 _ e0 d0 => ⟨.ref p0, rfl, trivial, fun p1 x1 H1 s1 _ e1 d1 => cat_use (s1 _ _ e0) e1 (by rw [dpAll_len d0, dpAll_len d1]; decide) fun H2 p2 s2 _ e2 => ?_⟩⟩
    have D2 := dp_same s2 (Dp.lst (SqL.of (K := K) e1) d1)
    have A2 : DpAll K H2 (x0 ++ x1) (ds0 ++ ds1) := dp_app (dp_sameAll (s1.trans s2) d0) (dp_sameAll s2 d1)
    refine ⟨trivial, fun p3 x3 H3 s3 _ e3 d3 => ⟨trivial, fun vr H4 s4 dr => ?_⟩⟩
    have g4 : ∀ {σ : L2.St} {HH : Hp}, σ[2]? = some (some vr) → Same H4 HH → gVar K 2 (.tuple (dS rowS)) σ HH := fun e ss => ⟨vr, e, dp_same ss dr⟩
    have A4 := dp_sameAll (s3.trans s4) A2
    have e24 := (s3.trans s4) _ _ e2
    refine ⟨.ref p2, rfl, g4 rfl (fun _ _ e => e), fun p5 x5 H5 s5 _ e5 d5 => cat_use (s5 _ _ e24) e5 (by rw [dpAll_len A4, dpAll_len d5]; decide) fun H6 p6 s6 _ e6 => ?_⟩
    have A6 : DpAll K H6 ((x0 ++ x1) ++ x5) ((ds0 ++ ds1) ++ ds2) := dp_app (dp_sameAll (s5.trans s6) A4) (dp_sameAll s6 d5)
    refine ⟨.ref p6, rfl, g4 rfl (s5.trans s6), fun p7 x7 H7 s7 _ e7 d7 => cat_use (s7 _ _ e6) e7 (by rw [dpAll_len A6, dpAll_len d7]; decide) fun H8 p8 s8 _ e8 => ?_⟩
    have A8 : DpAll K H8 (((x0 ++ x1) ++ x5) ++ x7) (((ds0 ++ ds1) ++ ds2) ++ ds3) := dp_app (dp_sameAll (s7.trans s8) A6) (dp_sameAll s8 d7)
    have s38 := ((((s4.trans s5).trans s6).trans s7).trans s8)
    refine ⟨.ref p3, rfl, g4 rfl (((s5.trans s6).trans s7).trans s8), fun p9 x9 H9 s9 _ e9 d9 => cat_use (s9 _ _ (s38 _ _ e3)) e9 (by rw [dpAll_len d3, dpAll_len d9]; decide) fun Ha pa sa _ ea => ?_⟩
    have A9 : DpAll K Ha (x3 ++ x9) (dd0 ++ dd1) := dp_app (dp_sameAll ((s38.trans s9).trans sa) d3) (dp_sameAll sa d9)
    have e8a := (s9.trans sa) _ _ e8
    have A8a := dp_sameAll (s9.trans sa) A8
    rw [hand_eq] at A8a
    refine ⟨.ref p8, rfl, .ref pa, rfl, .ref p8, .ref pa, .list (dd0 ++ dd1), rfl, .lst (SqL.of e8a) A8a, .lst (SqL.of ea) A9, okD_of 4 _ hand_ok, fun Hb sb => ?_⟩
    exact q Hb (((((((s0.trans s1).trans s2).trans s3).trans s38).trans s9).trans sa).trans sb)
end
end K02
namespace K02
open PySem PySem.Spec PyProof.Rows L2 CS RZ
theorem sgs_dS : ∀ ss : List Str, sgs (dS ss) = ss
  | [] => rfl
  | s :: r => by
    show s :: sgs (dS r) = s :: r
    rw [sgs_dS r]
theorem isJ_row {rs : List Str} (h0 : 0 < rs.length) (hp : ∀ z ∈ rs, isPl z = true) (ha : Alt rs) : isJ (.tuple (dS rs)) = true := by
  show (!(dS rs).isEmpty && ((dS rs).all isPlD && altB (sgs (dS rs)))) = true
  have e1 : (dS rs).isEmpty = false := by
    cases rs with
    | nil => exact absurd h0 (Nat.lt_irrefl 0)
    | cons _ _ => rfl
  have e2 : (dS rs).all isPlD = true := by
    rw [List.all_eq_true]
    intro e he
    obtain ⟨z, hz, rfl⟩ := List.mem_map.mp he
    exact hp z hz
  have e3 : altB rs = true := by
    unfold altB
    rw [List.all_eq_true]
    intro p hm
    obtain ⟨j, hj⟩ := List.getElem?_of_mem hm
    unfold prs at hj
    rw [List.getElem?_zip_eq_some, List.getElem?_tail] at hj
    have := ha j p.1 p.2 hj.1 hj.2
    simpa using this
  rw [e1, e2, sgs_dS, e3]
  rfl
theorem isPl_size {z : Str} (h : isPl z = true) : z.cps.size ≤ 8 := by
  unfold isPl at h
  rw [Bool.and_eq_true, Bool.and_eq_true, decide_eq_true_eq, decide_eq_true_eq] at h
  omega
theorem sm2_row {rs : List Str} (hp : ∀ z ∈ rs, isPl z = true) (hl : rs.length ≤ 900) : small2 (.tuple (dS rs)) := by
  refine ⟨by unfold dS; rw [List.length_map]; exact hl, fun e he => ?_⟩
  obtain ⟨z, hz, rfl⟩ := List.mem_map.mp he
  have := isPl_size (hp z hz)
  show z.cps.size ≤ 1000
  omega
/-! ### rows joined -/
def mid (la hd : Str) (rs : List Str) : List Str := if la = hd then rs else la :: rs
theorem mid_head {la hd : Str} {rs : List Str} (h : rs[0]? = some hd) : (mid la hd rs)[0]? = some la := by
  unfold mid
  by_cases c : la = hd
  · rw [if_pos c, h, c]
  · rw [if_neg c]
    rfl
theorem alt_tail {rs : List Str} (h : Alt rs) : Alt rs.tail := fun j x y h1 h2 => by
  rw [List.getElem?_tail] at h1 h2
  exact h (j + 1) x y h1 h2
theorem alt_cons {z hd : Str} {rs : List Str} (h : Alt rs) (e : rs[0]? = some hd) (n : z ≠ hd) : Alt (z :: rs) := fun j x y h1 h2 => by
  cases j with
  | zero =>
    cases h1
    rw [show (z :: rs)[0 + 1]? = rs[0]? from rfl, e] at h2
    cases h2
    exact n
  | succ j => exact h j x y (by simpa using h1) (by simpa using h2)
theorem alt_mid {la hd : Str} {rs : List Str} (h : Alt rs) (e : rs[0]? = some hd) : Alt (mid la hd rs) := by
  unfold mid
  by_cases c : la = hd
  · rw [if_pos c]
    exact h
  · rw [if_neg c]
    exact alt_cons h e c
theorem alt_app {ss ms : List Str} {la : Str} (h1 : Alt ss) (h2 : Alt ms) (e1 : ss[ss.length - 1]? = some la) (e2 : ms[0]? = some la) : Alt (ss ++ ms.tail) := fun j x y q1 q2 => by
  have hl := (List.getElem?_eq_some_iff.mp e1).1
  by_cases hj : j + 1 < ss.length
  · rw [List.getElem?_append_left (by omega)] at q1
    rw [List.getElem?_append_left hj] at q2
    exact h1 j x y q1 q2
  · rw [List.getElem?_append_right (by omega), List.getElem?_tail] at q2
    by_cases hj2 : j < ss.length
    · rw [List.getElem?_append_left hj2] at q1
      have ej : j = ss.length - 1 := by omega
      rw [ej, e1] at q1
      have e0 : j + 1 - ss.length + 1 = 1 := by omega
      rw [e0] at q2
      cases q1
      exact h2 0 _ y e2 q2
    · rw [List.getElem?_append_right (by omega), List.getElem?_tail] at q1
      have e0 : j + 1 - ss.length + 1 = (j - ss.length + 1) + 1 := by omega
      rw [e0] at q2
      exact h2 _ x y q1 q2
theorem last_app {ss rs : List Str} {la hd : Str} (e1 : ss[ss.length - 1]? = some la) (e2 : rs[0]? = some hd) : (ss ++ (mid la hd rs).tail)[(ss ++ (mid la hd rs).tail).length - 1]? = rs[rs.length - 1]? := by
  have hl := (List.getElem?_eq_some_iff.mp e1).1
  have hr := (List.getElem?_eq_some_iff.mp e2).1
  unfold mid
  by_cases c : la = hd
  · rw [if_pos c, List.length_append, List.length_tail]
    by_cases h1 : rs.length = 1
    · rw [h1, List.getElem?_append_left (by omega)]
      rw [show ss.length + (1 - 1) - 1 = ss.length - 1 by omega, e1, show 1 - 1 = 0 by omega, e2, c]
    · rw [List.getElem?_append_right (by omega), List.getElem?_tail]
      congr 1
      omega
  · rw [if_neg c, List.length_append]
    show (ss ++ rs)[ss.length + rs.length - 1]? = _
    rw [List.getElem?_append_right (by omega)]
    congr 1
    omega
theorem alt_snoc {l : List Str} {la z : Str} (h : Alt l) (e : l[l.length - 1]? = some la) (n : la ≠ z) : Alt (l ++ [z]) := by
  have q := alt_app (ss := l) (ms := [la, z]) (la := la) h (fun j x y h1 h2 => by
    cases j with
    | zero =>
      cases h1
      cases h2
      exact n
    | succ j => simp at h2) e rfl
  exact q
theorem dL_alt (row : List Str) : ∀ i, i ≤ row.length → Alt (dL (row.take i)) ∧ (0 < i → (dL (row.take i))[(dL (row.take i)).length - 1]? = row[i - 1]?)
  | 0, _ => ⟨fun j x y h => by simp [dL] at h, fun z => absurd z (Nat.lt_irrefl _)⟩
  | i + 1, h => by
    obtain ⟨h1, h2⟩ := dL_alt row i (by omega)
    have ew : row[i]? = some row[i] := List.getElem?_eq_getElem (by omega)
    obtain ⟨m1, m2⟩ := more_dL ew h2
    refine ⟨?_, fun _ => m2⟩
    rw [← m1]
    unfold more
    by_cases c : dL (row.take i) = []
    · rw [if_pos c]
      exact fun j x y q1 q2 => by
        cases j with
        | zero => simp at q2
        | succ j => simp at q1
    · rw [if_neg c]
      have hp : 0 < (dL (row.take i)).length := List.length_pos_iff.mpr c
      have el : (dL (row.take i))[(dL (row.take i)).length - 1]? = some ((dL (row.take i))[(dL (row.take i)).length - 1]'(by omega)) := List.getElem?_eq_getElem (by omega)
      by_cases c2 : (dL (row.take i))[(dL (row.take i)).length - 1]? = some row[i]
      · rw [if_pos c2]
        exact h1
      · rw [if_neg c2]
        exact alt_snoc h1 el fun z => c2 (by rw [el, z])
theorem seen_alt (ps : List (Str × Str)) (ss : List Str) : Alt (seenL ps ss) := by
  have q := (dL_alt (ss.map (ren ps)) (ss.map (ren ps)).length (Nat.le_refl _)).1
  rw [List.take_length] at q
  exact q
theorem seen_mem {ps : List (Str × Str)} {ss : List Str} {z : Str} (h : z ∈ seenL ps ss) : ∃ u ∈ ss, z = ren ps u := by
  obtain ⟨u, h1, h2⟩ := List.mem_map.mp (dL_mem h)
  exact ⟨u, h1, h2.symm⟩
theorem ren_mem {ps : List (Str × Str)} (z : Str) : ren ps z = z ∨ ∃ p ∈ ps, ren ps z = p.2 := by
  induction ps with
  | nil => exact .inl rfl
  | cons p ps ih =>
    obtain ⟨a, b⟩ := p
    by_cases c : z = a
    · refine .inr ⟨(a, b), List.mem_cons_self, ?_⟩
      unfold ren
      rw [c]
      simp [List.lookup]
    · have c2 : (z == a) = false := by simpa using c
      have e : ren ((a, b) :: ps) z = ren ps z := by
        unfold ren
        simp [List.lookup, c2]
      rw [e]
      rcases ih with h | ⟨p, h1, h2⟩
      · exact .inl h
      · exact .inr ⟨p, List.mem_cons_of_mem _ h1, h2⟩
theorem cut_to (xs : List V) {k : Nat} (h : k ≤ xs.length) : cutV xs none (some (k : Int)) = xs.take k := by
  unfold cutV
  rw [HT.sIx_none, show HT.sIx xs.length xs.length (some (k : Int)) = min k xs.length from HT.sIx_nat xs.length xs.length k]
  rw [Nat.min_eq_left h]
  rfl
theorem Keep.sqTb {K : PySem.W.Frag} {H H' : Hp} {b a : Addr} {n : Nat} {xs : List V} (hb : BoxAt H b n) (k : Keep b H H') (h : SqT K H a xs) : SqT K H' a xs := by
  obtain ⟨_, _, _, e, _⟩ := hb
  rcases h with (h | ⟨o, h⟩) | h
  · exact .inl (.inl (k _ _ (fun z => by rw [z, e] at h; cases h) h))
  · exact .inl (.inr ⟨o, k _ _ (fun z => by rw [z, e] at h; cases h) h⟩)
  · exact .inr h
end K02
set_option maxHeartbeats 4000000
namespace K02
open PySem PySem.Spec PyProof.Rows L2 CS RZ
section
variable {P : Program} {w : World} {K : PySem.W.Frag} {mg : Str → Option Value} {base : Heap}
structure RiG (P : Program) (w : World) (K : PySem.W.Frag) (mg : Str → Option Value) (base : Heap) (C : Addr) (k : Nat) where
  {fK fO fP fT fW fH fQ fJ fC fS fL fM : Addr}
  {dK dO dP dT dW dH dQ dJ dC dS dL dM : FuncData}
  gK : FnOk P w K mg base CX0 k fK dK ["_law_box_here", "_law_below"] spTake
  gO : FnOk P w K mg base CX0 k fO dO ["_law_box_here", "_law_some"] (spOf K)
  gP : FnOk P w K mg base CX0 k fP dP ["_law_box_here", "_law_pool_so", "_law_many_so"] (spPick K)
  gT : FnOk P w K mg base CX0 k fT dT ["_law_box_here", "_law_many_so"] (spTags K)
  gW : FnOk P w K mg base CX0 k fW dW ["_law_box_here", "_law_tags_here", "_law_most_so"] (spWalk K)
  gH : FnOk P w K mg base CX0 k fH dH ["_law_one_so", "_law_far_so"] (spHeard K)
  gQ : FnOk P w K mg base (L2.CX P w) k fQ dQ ["one", "other"] (spJoin K C)
  gJ : FnOk P w K mg base CX0 k fJ dJ ["thing"] (spJour K)
  gC : FnOk P w K mg base CX0 k fC dC ["_law_row_so", "_law_pairs_so"] (spCalled K)
  gS : FnOk P w K mg base CX0 k fS dS ["journey", "names"] (spSeen K)
  gL : FnOk P w K mg base CX0 k fL dL ["_law_matter"] (spLs2 K)
  gM : FnOk P w K mg base CX0 k fM dM ["_law_got", "_law_due"] (spSame K 4)
  kK : PySem.W.keepIn K (.ref fK) = true
  kO : PySem.W.keepIn K (.ref fO) = true
  kP : PySem.W.keepIn K (.ref fP) = true
  kT : PySem.W.keepIn K (.ref fT) = true
  kW : PySem.W.keepIn K (.ref fW) = true
  kH : PySem.W.keepIn K (.ref fH) = true
  kQ : PySem.W.keepIn K (.ref fQ) = true
  kJ : PySem.W.keepIn K (.ref fJ) = true
  kC : PySem.W.keepIn K (.ref fC) = true
  kS : PySem.W.keepIn K (.ref fS) = true
  kL : PySem.W.keepIn K (.ref fL) = true
  kM : PySem.W.keepIn K (.ref fM) = true
  bK : Binds K dK ["_law_box_here", "_law_below"] []
  bO : Binds K dO ["_law_box_here", "_law_some"] []
  bP : Binds K dP ["_law_box_here", "_law_pool_so", "_law_many_so"] []
  bT : Binds K dT ["_law_box_here", "_law_many_so"] []
  bW : Binds K dW ["_law_box_here", "_law_tags_here", "_law_most_so"] []
  bH : Binds K dH ["_law_one_so", "_law_far_so"] []
  bQ : Binds K dQ ["one", "other"] []
  bJ : Binds K dJ ["thing"] []
  bC : Binds K dC ["_law_row_so", "_law_pairs_so"] []
  bS : Binds K dS ["journey", "names"] []
  bL : Binds K dL ["_law_matter"] []
  bM : Binds K dM ["_law_got", "_law_due"] []
  mK : mg "_law_take" = some (.ref fK)
  mO : mg "_law_of" = some (.ref fO)
  mP : mg "_law_pick" = some (.ref fP)
  mT : mg "_law_tags" = some (.ref fT)
  mW : mg "_law_walk" = some (.ref fW)
  mH : mg "_law_heard" = some (.ref fH)
  mQ : mg "joined" = some (.ref fQ)
  mJ : mg "is_journey" = some (.ref fJ)
  mC : mg "_law_called" = some (.ref fC)
  mS : mg "seen" = some (.ref fS)
  mL : mg "_law_lists" = some (.ref fL)
  mM : mg "_law_same" = some (.ref fM)
/-- what stands in slots 3 and 4: the two rows -/
def Two (K : PySem.W.Frag) (σ : L2.St) (H : Hp) (ro rf : Addr) (ss rs : List Str) (la hd : Str) : Prop := σ[3]? = some (some (.ref ro)) ∧ σ[4]? = some (some (.ref rf)) ∧ SqT K H ro (ss.map V.str) ∧ SqT K H rf (rs.map V.str) ∧ ss.length ≤ 100 ∧ rs.length ≤ 100 ∧ ss[ss.length - 1]? = some la ∧ rs[0]? = some hd
def tDue (K : PySem.W.Frag) : TE := fun σ H Q => ∃ (ro rf : Addr) (ss rs : List Str) (la hd : Str), Two K σ H ro rf ss rs la hd ∧ ∀ v H', Same H H' → Dp K H' v (dHeard la hd ss rs) → Q v H'
def tMid (K : PySem.W.Frag) : TE := fun σ H Q => ∃ (ro rf : Addr) (ss rs : List Str) (la hd : Str), Two K σ H ro rf ss rs la hd ∧ ∀ H' p, Same H H' → SqT K H' p ((mid la hd rs).map V.str) → Q (.ref p) H'
theorem slK {K K' : PySem.W.Frag} {σ : L2.St} {H : Hp} {R : V → Hp → Prop} {a : Addr} {xs : List V} {lo : Int} (e : K' = K) (h : SqT K H a xs) (k : ∀ (H' : Hp) (p : Addr), Same H H' → SqT K H' p (cutV xs (some lo) none) → R (.ref p) H') : (fun l H2 => tNoPart σ H2 fun u H3 => rSlA K' (.ref a) l u H3 R) (some lo) H := by
  subst e
  exact sl_use h k
theorem rep_any {l : Addr} {v : V} {H : Hp} {Q : VK} (e : H l = some (.lst [v])) (h : ∀ (H' : Hp) (p : Addr), Same H H' → H' p = some (.lst [v, v]) → Q (.ref p) H') : rRep (.ref l) (.int 2) H Q :=
  ⟨l, 2, _, rfl, rfl, e, by decide, by decide, by show 1 * 2 ≤ sizeLine; decide, fun p np => h _ p (same_upd np) upd_same⟩
theorem box_put {H : Hp} {b D : Addr} {n : Nat} {o : HO} (h : BoxAt H b n) (ne : D ≠ b) : BoxAt (upd H D o) b n := by
  obtain ⟨A0, B0, C0, h0, h1⟩ := h
  refine ⟨A0, B0, C0, ?_, h1⟩
  rw [upd_ne (Ne.symm ne)]
  exact h0
theorem repC_any {l : Addr} {v : V} {σ : L2.St} {H : Hp} {R : V → Hp → Prop} (e : H l = some (.lst [v])) (h : ∀ (H' : Hp) (p : Addr), Same H H' → H' p = some (.lst [v, v]) → R (.ref p) H') : tC (.int 2) σ H fun y H2 => rRep (.ref l) y H2 R := rep_any e h
theorem okD_heard (la hd : Str) (ss rs : List Str) (h : ss.length + rs.length ≤ 1000) : okD 3 (dHeard la hd ss rs) := by
  have eachS : ∀ l : List Str, ∀ d ∈ dS l, okD 2 d := fun l d hd => by
    obtain ⟨z, _, rfl⟩ := List.mem_map.mp hd
    trivial
  unfold dHeard
  by_cases c : la = hd
  · rw [if_pos c]
    refine ⟨?_, eachS _⟩
    unfold dS
    rw [List.length_map, List.length_append, List.length_tail]
    omega
  · rw [if_neg c]
    refine ⟨by show 4 ≤ 1000; decide, fun d hd => ?_⟩
    rcases List.mem_cons.mp hd with rfl | hd
    · trivial
    rcases List.mem_cons.mp hd with rfl | hd
    · trivial
    rcases List.mem_cons.mp hd with rfl | hd
    · trivial
    rw [List.mem_singleton.mp hd]
    trivial
theorem okD_two {n : Nat} {d : PyData} (h : okD n d) : okD (n + 1) (.list [d, d]) := ⟨by show 2 ≤ 1000; decide, fun e he => by
  rcases List.mem_cons.mp he with rfl | he
  · exact h
  · rw [List.mem_singleton.mp he]
    exact h⟩
theorem okD_row (l : List Str) (h : l.length ≤ 1000) : okD 3 (.tuple (dS l)) := ⟨by unfold dS; rw [List.length_map]; exact h, fun d hd => by
  obtain ⟨z, _, rfl⟩ := List.mem_map.mp hd
  trivial⟩
def spRight : Sp := fun vs H Q _ => ∃ (b : Addr), vs = [.ref b] ∧ BoxAt H b 0 ∧ ∀ H' : Hp, Keep b H H' → Q (.bl true) H'
abbrev nRight : List Str := ["_law_box_here", "_law_turn", "_law_tags_here", "_law_one_so", "_law_far_so", "_law_due", "_law_met", "_law_some", "_law_pairs_so", "_law_tag"]
theorem scRight : FnScope nRight ["_law_box_here"] (defScope sRight) := ⟨rfl, rfl, rfl, by decide +kernel, rfl, by decide +kernel, by decide +kernel⟩
theorem ok_right {f C : Addr} {fd : FuncData} {k : Nat} (F : Fun K "_law_right" "_law_right" sRight f fd) (G : RiG P w K mg base C k) (T : SmT mg) (mr : mg "range" = none) : FnOk P w K mg base CX0 (k + 1) f fd ["_law_box_here"] spRight := by
  refine F.ok scRight (fun vs H Q E h => ?_) (fun cdv A outer s H vs Q E hr h => ?_)
  · obtain ⟨b, rfl, _⟩ := h
    rfl
  · obtain ⟨b, rfl, hb, q⟩ := h
    refine ⟨_, pss_cons (ps_for PassesOwn.never rfl (pi_range1 (by rfl) mr (pa_cons pe_int pa_nil)) (pg_name (i := 1) scRight.nd rfl (.inl rfl))
        (pss_cons (ps_set (i := 2) scRight.nd rfl (.inr rfl) (pe_call G.gT hr (by rfl) G.mT G.kT G.bT .nil pass0 (pa_cons (pv 0) (pa_cons (pe_op op_add pe_int (pe_call G.gK hr (by rfl) G.mK G.kK G.bK .nil pass0 (pa_cons (pv 0) (pa_cons pe_int pa_nil)))) pa_nil))))
        (pss_cons (ps_par (i := 3) (j := 4) (by rfl) scRight.nd rfl rfl (by decide) rfl rfl (pa_cons (pe_call G.gW hr (by rfl) G.mW G.kW G.bW .nil pass0 (pa_cons (pv 0) (pa_cons (pv 2) (pa_cons pe_int pa_nil)))) (pa_cons (pe_call G.gW hr (by rfl) G.mW G.kW G.bW .nil pass0 (pa_cons (pv 0) (pa_cons (pv 2) (pa_cons pe_int pa_nil)))) pa_nil)) (by rfl))
        (pss_cons (ps_set (i := 5) scRight.nd rfl (.inl rfl) (pe_imp (t' := tDue K) (pe_ifExp (pt_cmpR op_eq (pe_ix (r := rIxT K) ix_tup (pv 3) (pe_un un_neg pe_int) (fun _ _ => rfl)) (pe_ix (r := rIxT K) ix_tup (pv 4) pe_int (fun _ _ => rfl)) (nomark _))
              (pe_op op_catA (pv 3) (pe_slice sl_tupA (pv 4) (po_some pe_int) po_none))
              (pe_lst (pa_cons (pe_ix (r := rIxT K) ix_tup (pv 3) (pe_un un_neg pe_int) (fun _ _ => rfl)) (pa_cons (pe_ix (r := rIxT K) ix_tup (pv 4) pe_int (fun _ _ => rfl)) (pa_cons pe_bl (pa_cons pe_bl pa_nil))))))
            (by
              rintro σ H Q ⟨ro, rf, ss, rs, la, hd, ⟨e3, e4, hA, hB, l1, l2, el, eh⟩, q⟩
              have aL := at_neg1 el
              have aH : atI (rs.map V.str) 0 = some (.str hd) := atI_nat (j := 0) (by rw [List.getElem?_map, eh]; rfl)
              refine ⟨.ref ro, e3, 1, rfl, ro, _, -1, .str la, rfl, rfl, hA, aL, .ref rf, e4, rf, _, 0, .str hd, rfl, rfl, hB, aH, rfl, _, rfl, ?_⟩
              refine ite2 (fun c => ?_) (fun c => ?_)
              · have c' : la = hd := V.str.inj (of_decide_eq_true c)
                refine ⟨.ref ro, e3, .ref rf, e4, 1, rfl, slK (lo := 1) rfl hB fun H5 p5 s5 t5 => ?_⟩
                refine cat_tup (sqT_same s5 hA) t5 ?_ fun H6 p6 s6 t6 => ?_
                · rw [cut1, List.length_map, List.length_drop, List.length_map, sizeLine_eq]
                  omega
                · refine q _ H6 (s5.trans s6) ?_
                  unfold dHeard
                  rw [if_pos c']
                  rw [cut1, ← List.map_drop, List.drop_one, ← List.map_append] at t6
                  exact .tup t6 (dpS _)
              · have c' : ¬ la = hd := fun z => c (decide_eq_true (congrArg V.str z))
                refine ⟨.ref ro, e3, 1, rfl, ro, _, -1, .str la, rfl, rfl, hA, aL, .ref rf, e4, rf, _, 0, .str hd, rfl, rfl, hB, aH, (by show 4 ≤ sizeLine; decide), fun p np => ?_⟩
                refine q _ _ (same_upd np) ?_
                unfold dHeard
                rw [if_neg c']
                exact .lst (SqL.of upd_same) (.cons (.str _) (.cons (.str _) (.cons (.bl _) (.cons (.bl _) .nil)))))))
        (pss_cons (ps_if (pt_not (pt_val (pe_call G.gM hr (by rfl) G.mM G.kM G.bM .nil pass0 (pa_cons (pe_lst (pa_cons (pe_call G.gH hr (by rfl) G.mH G.kH G.bH .nil pass0 (pa_cons (pv 3) (pa_cons (pv 4) pa_nil)))
              (pa_cons (pe_call G.gH hr (by rfl) G.mH G.kH G.bH .nil pass0 (pa_cons (pe_callTy call_list_of (by rfl) T.li (by decide +kernel) (pa_cons (pv 3) pa_nil)) (pa_cons (pe_callTy call_list_of (by rfl) T.li (by decide +kernel) (pa_cons (pv 4) pa_nil)) pa_nil))) pa_nil)))
            (pa_cons (pe_op op_rep (pe_lst (pa_cons (pv 5) pa_nil)) pe_int) pa_nil))))) (pss_one (ps_ret pe_bl)) pss_nil)
        (pss_cons (ps_set (i := 6) scRight.nd rfl (.inl rfl) (pe_callS G.gQ hr (by rfl) G.mQ G.kQ G.bQ (fun σ => passAt takes0 σ) (pa_cons (pv 3) (pa_cons (pe_imp (t' := tMid K) (pe_ifExp (pt_cmpR op_ne (pe_ix (r := rIxT K) ix_tup (pv 3) (pe_un un_neg pe_int) (fun _ _ => rfl)) (pe_ix (r := rIxT K) ix_tup (pv 4) pe_int (fun _ _ => rfl)) (nomark _))
              (pe_op op_catA (pe_tup (pa_cons (pe_ix (r := rIxT K) ix_tup (pv 3) (pe_un un_neg pe_int) (fun _ _ => rfl)) pa_nil)) (pv 4)) (pv 4))
            (by
              rintro σ H Q ⟨ro, rf, ss, rs, la, hd, ⟨e3, e4, hA, hB, l1, l2, el, eh⟩, q⟩
              have aL := at_neg1 el
              have aH : atI (rs.map V.str) 0 = some (.str hd) := atI_nat (j := 0) (by rw [List.getElem?_map, eh]; rfl)
              refine ⟨.ref ro, e3, 1, rfl, ro, _, -1, .str la, rfl, rfl, hA, aL, .ref rf, e4, rf, _, 0, .str hd, rfl, rfl, hB, aH, rfl, _, rfl, ?_⟩
              refine ite2 (fun c => ?_) (fun c => ?_)
              · have c' : ¬ la = hd := fun z => by
                  subst z
                  simp at c
                refine ⟨.ref ro, e3, 1, rfl, ro, _, -1, .str la, rfl, rfl, hA, aL, (by show 1 ≤ sizeLine; decide), fun p np => ?_⟩
                refine ⟨.ref rf, e4, cat_tup (xs := [.str la]) (SqT.of upd_same) (sqT_same (same_upd np) hB) ?_ fun H6 p6 s6 t6 => ?_⟩
                · rw [List.length_map, List.length_singleton, sizeLine_eq]
                  omega
                · refine q H6 p6 ((same_upd np).trans s6) ?_
                  unfold mid
                  rw [if_neg c']
                  exact t6
              · have c' : la = hd := by
                  refine Classical.byContradiction fun z => c ?_
                  simp [z]
                refine ⟨.ref rf, e4, q H rf (fun _ _ e => e) ?_⟩
                unfold mid
                rw [if_pos c']
                exact hB)) pa_nil))))
        (pss_cons (ps_if (PW.pt (pw_or (pt_cmpR (op_neD hr.units) (pe_slice sl_tupA (pv 6) po_none (po_some (pe_callB call_len_seq (by rfl) T.le PySem.boot_len (pa_cons (pv 3) pa_nil)))) (pv 3) (nomark _))
            (pw_or (pt_cmpR op_ne (pe_ix (r := rIxT K) ix_tup (pv 6) (pe_un un_neg pe_int) (fun _ _ => rfl)) (pe_ix (r := rIxT K) ix_tup (pv 4) (pe_un un_neg pe_int) (fun _ _ => rfl)) (nomark _))
              (pw_or1 (pt_not (pt_val (pe_call G.gJ hr (by rfl) G.mJ G.kJ G.bJ .nil pass0 (pa_cons (pv 6) pa_nil)))))))) (pss_one (ps_ret pe_bl)) pss_nil)
        (pss_cons (ps_set (i := 7) scRight.nd rfl (.inl rfl) (pe_call G.gP hr (by rfl) G.mP G.kP G.bP .nil pass0 (pa_cons (pv 0) (pa_cons (pe_op op_cat (pv 2) (pe_lst (pa_cons pe_str pa_nil))) (pa_cons (pe_call G.gK hr (by rfl) G.mK G.kK G.bK .nil pass0 (pa_cons (pv 0) (pa_cons pe_int pa_nil))) pa_nil)))))
        (pss_cons (ps_set (i := 8) scRight.nd rfl (.inl rfl) (pe_tupF (by rfl) T.tu (pe_lc (own := [("_law_tag", 9)]) (g := gName 9) (by rfl) scRight.nd (pi_list (pv 7)) (blkOk_by (own := [("_law_tag", 9)]) (N := nRight) (sc := defScope sRight) (by decide +kernel))
            (fun _ _ _ _ _ => pg_name (i := 9) scRight.nd rfl (Or.inl rfl) (.inr rfl)) (fun _ _ _ _ _ => pts_nil) (fun _ _ _ _ _ => pe_tup (pa_cons (pv 9) (pa_cons (pe_call G.gO hr (by rfl) G.mO G.kO G.bO .nil pass0 (pa_cons (pv 0) (pa_cons (pe_op op_cat (pv 2) (pe_lst (pa_cons pe_str pa_nil))) pa_nil))) pa_nil))))))
        (pss_cons (ps_set (i := 5) scRight.nd rfl (.inl rfl) (pe_call G.gC hr (by rfl) G.mC G.kC G.bC .nil pass0 (pa_cons (pv 3) (pa_cons (pv 8) pa_nil))))
        (pss_cons (ps_if (pt_not (pt_val (pe_call G.gM hr (by rfl) G.mM G.kM G.bM .nil pass0 (pa_cons (pe_lst (pa_cons (pe_call G.gS hr (by rfl) G.mS G.kS G.bS .nil pass0 (pa_cons (pv 3) (pa_cons (pv 8) pa_nil)))
              (pa_cons (pe_call G.gS hr (by rfl) G.mS G.kS G.bS .nil pass0 (pa_cons (pe_callTy call_list_of (by rfl) T.li (by decide +kernel) (pa_cons (pv 3) pa_nil)) (pa_cons (pe_call G.gL hr (by rfl) G.mL G.kL G.bL .nil pass0 (pa_cons (pv 8) pa_nil)) pa_nil))) pa_nil)))
            (pa_cons (pe_op op_rep (pe_lst (pa_cons (pv 5) pa_nil)) pe_int) pa_nil))))) (pss_one (ps_ret pe_bl)) pss_nil)
        (pss_one (ps_if (pt_cmpR op_isnot_bl (pe_call G.gJ hr (by rfl) G.mJ G.kJ G.bJ .nil pass0 (pa_cons (pv 5) pa_nil)) pe_bl (nomark _)) (pss_one (ps_ret pe_bl)) pss_nil)))))))))))))
      (pss_one (ps_ret pe_bl)), ?_⟩
    refine ⟨8, rfl, by decide, by decide, for_range (fun i σ H' => ∃ (y1 y2 y3 y4 y5 y6 y7 y8 : Option V), σ = [some (.ref b), y1, y2, y3, y4, y5, y6, y7, y8, none] ∧ Keep b H H' ∧ BoxAt H' b (3000 * i)) ⟨none, none, none, none, none, none, none, none, rfl, Keep.refl b H, hb⟩ ?_ ?_⟩
    · rintro i σ H1 hi ⟨y1, y2, y3, y4, y5, y6, y7, y8, rfl, k1, b1⟩
      have hi8 : i < 8 := hi
      refine ⟨.ref b, rfl, .ref b, rfl, b, _, 4, rfl, b1, by omega, by decide, by decide, fun H2 r k2 b2 r0 r1 => ⟨_, _, rfl, rfl, b, 2 + r, _, rfl, b2, by omega, by omega, by omega, fun H3 p fs k3 b3 np npb e3 hl hnd hok hpl hne => ?_⟩⟩
      refine ⟨.ref b, rfl, .ref p, rfl, b, p, 20, _, fs, rfl, b3, by omega, npb, SqL.of e3, by omega, by omega, hnd, by decide, by decide, fun H4 ro ss k4 b4 nro nrob e4 hpos hle hin halt => ?_⟩
      have e3' := k4 _ _ npb e3
      refine ⟨.ref b, rfl, .ref p, rfl, b, p, 20, _, fs, rfl, b4, by omega, npb, SqL.of e3', by omega, by omega, hnd, by decide, by decide, fun H5 rf rs k5 b5 nrf nrfb e5 hpos5 hle5 hin5 halt5 => ?_⟩
      have ep5 := k5 _ _ npb e3'
      have hA5 : SqT K H5 ro (ss.map V.str) := Keep.sqTb b4 k5 (SqT.of e4)
      have hB5 : SqT K H5 rf (rs.map V.str) := SqT.of e5
      have k15 := (((k1.trans k2).trans k3).trans k4).trans k5
      obtain ⟨la, el⟩ : ∃ z, ss[ss.length - 1]? = some z := ⟨ss[ss.length - 1]'(by omega), List.getElem?_eq_getElem (by omega)⟩
      obtain ⟨hd, eh⟩ : ∃ z, rs[0]? = some z := ⟨rs[0], List.getElem?_eq_getElem hpos5⟩
      obtain ⟨lz, ez⟩ : ∃ z, rs[rs.length - 1]? = some z := ⟨rs[rs.length - 1]'(by omega), List.getElem?_eq_getElem (by omega)⟩
      have l1 : ss.length ≤ 100 := by omega
      have l2 : rs.length ≤ 100 := by omega
      have plS : ∀ z ∈ ss, isPl z = true := fun z hz => hpl z (hin z hz)
      have plR : ∀ z ∈ rs, isPl z = true := fun z hz => hpl z (hin5 z hz)
      have okS : ∀ z ∈ ss, PyData.strOk z = true := fun z hz => hok z (hin z hz)
      clear e4 e5 e3 e3' k1 k2 k3 k4 k5 b1 b2 b3 b4
      -- due
      refine ⟨_, _, rfl, ro, rf, ss, rs, la, hd, ⟨rfl, rfl, hA5, hB5, l1, l2, el, eh⟩, fun v5 H6 s6 d5 => ?_⟩
      have hA6 := sqT_same s6 hA5
      have hB6 := sqT_same s6 hB5
      refine ⟨.ref ro, rfl, .ref rf, rfl, ro, rf, ss, rs, la, hd, rfl, .inl hA6, .inl hB6, by omega, by omega, el, eh, fun H7 v1 s7 d1 => ?_⟩
      have hA7 := sqT_same s7 hA6
      have hB7 := sqT_same s7 hB6
      refine ⟨.ref ro, rfl, ro, _, rfl, .inr hA7, fun a2 na2 => ⟨.ref rf, rfl, rf, _, rfl, .inr (sqT_same (same_upd na2) hB7), fun b2 nb2 => ?_⟩⟩
      have t1 := same_upd (o := .lst (ss.map V.str)) na2
      have f1 : (upd H7 a2 (.lst (ss.map V.str))) a2 = some (.lst (ss.map V.str)) := upd_same
      generalize upd H7 a2 (.lst (ss.map V.str)) = H7a at t1 f1 nb2 ⊢
      have t2 := same_upd (o := .lst (rs.map V.str)) nb2
      have f2 : (upd H7a b2 (.lst (rs.map V.str))) b2 = some (.lst (rs.map V.str)) := upd_same
      generalize upd H7a b2 (.lst (rs.map V.str)) = H7b at t2 f2 ⊢
      refine ⟨a2, b2, ss, rs, la, hd, rfl, .inr (SqL.of (t2 _ _ f1)), .inr (SqL.of f2), by omega, by omega, el, eh, fun H8 v2 s8 d2 => ⟨(by show 2 ≤ sizeLine; decide), fun l9 n9 => ?_⟩⟩
      have t3 := same_upd (o := .lst [v1, v2]) n9
      have f3 : (upd H8 l9 (.lst [v1, v2])) l9 = some (.lst [v1, v2]) := upd_same
      generalize upd H8 l9 (.lst [v1, v2]) = H9 at t3 f3 ⊢
      refine ⟨v5, rfl, (by show 1 ≤ sizeLine; decide), fun l10 n10 => ?_⟩
      have t4 := same_upd (o := .lst [v5]) n10
      have f4 : (upd H9 l10 (.lst [v5])) l10 = some (.lst [v5]) := upd_same
      generalize upd H9 l10 (.lst [v5]) = H10 at t4 f4 ⊢
      refine repC_any f4 fun H11 l11 t5 f5 => ?_
      have u7 := (t1.trans t2).trans s8
      have u9 := (t3.trans t4).trans t5
      have dd1 := dp_same (u7.trans u9) d1
      have dd2 := dp_same u9 d2
      have dd5 := dp_same ((s7.trans u7).trans u9) d5
      refine ⟨.ref l9, .ref l11, .list [dHeard la hd ss rs, dHeard la hd ss rs], rfl, .lst (SqL.of ((t4.trans t5) _ _ f3)) (.cons dd1 (.cons dd2 .nil)), .lst (SqL.of f5) (.cons dd5 (.cons dd5 .nil)), okD_two (okD_heard la hd ss rs (by omega)), fun H12 t6 => ⟨_, rfl, ?_⟩⟩
      refine ite2 (fun z => by cases z) (fun _ => ?_)
      have u12 := ((s7.trans u7).trans u9).trans t6
      have hA12 := sqT_same u12 hA6
      have hB12 := sqT_same u12 hB6
      have s12 := s6.trans u12
      clear dd1 dd2 dd5 d1 d2 d5 f1 f2 f3 f4 f5 t1 t2 t3 t4 t5 t6 u7 u9 u12 s7 s8 s6 hA6 hA7 hB6 hB7 na2 nb2 n9 n10
      -- met
      refine ⟨.ref ro, rfl, ro, rf, ss, rs, la, hd, ⟨rfl, rfl, hA12, hB12, l1, l2, el, eh⟩, fun H13 pm s13 tm => ?_⟩
      have lm : (mid la hd rs).length ≤ 101 := by
        unfold mid
        by_cases c : la = hd
        · rw [if_pos c]
          omega
        · rw [if_neg c, List.length_cons]
          omega
      refine ⟨ro, pm, ss, mid la hd rs, la, la, rfl, .inl (sqT_same s13 hA12), .inl tm, by omega, by omega, el, mid_head eh, fun _ H14 p14 s14 t14 => ?_, fun n => absurd rfl n⟩
      have s514 := (s12.trans s13).trans s14
      have hA14 := sqT_same s514 hA5
      have hB14 := sqT_same s514 hB5
      obtain ⟨met, em⟩ : ∃ met, met = ss ++ (mid la hd rs).tail := ⟨_, rfl⟩
      rw [← em] at t14
      have lmet : met.length ≤ 300 := by
        rw [em, List.length_append, List.length_tail]
        omega
      have plM : ∀ z ∈ met, isPl z = true := fun z hz => by
        rw [em] at hz
        rcases List.mem_append.mp hz with h1 | h1
        · exact plS z h1
        · have h2 := List.mem_of_mem_tail h1
          unfold mid at h2
          by_cases c : la = hd
          · rw [if_pos c] at h2
            exact plR z h2
          · rw [if_neg c] at h2
            rcases List.mem_cons.mp h2 with h3 | h3
            · rw [h3]
              exact plS la (List.mem_of_getElem? el)
            · exact plR z h3
      have altM : Alt met := by
        rw [em]
        exact alt_app halt (alt_mid halt5 eh) el (mid_head eh)
      have posM : 0 < met.length := by
        rw [em, List.length_append]
        omega
      have lastM : met[met.length - 1]? = some lz := by
        rw [em, last_app el eh]
        exact ez
      refine ⟨.ref p14, rfl, .ref ro, rfl, ro, _, rfl, .inr hA14, _, rfl, sl_use t14 fun H15 p15 s15 t15 => ?_⟩
      rw [cut_to _ (by rw [List.length_map, List.length_map, em, List.length_append]; omega), ← List.map_take, List.length_map, em, List.take_left] at t15
      refine ⟨.ref ro, rfl, .tuple (dS ss), .tuple (dS ss), .tup t15 (dpS _), .tup (sqT_same s15 hA14) (dpS _), shT ss okS, shT ss okS, _, rfl, ?_⟩
      rw [SeqAt.eqv_refl (.tuple (dS ss)) (layS ss okS)]
      refine ite2 (fun z => by cases z) (fun _ => ?_)
      refine ⟨.ref p14, rfl, 1, rfl, p14, _, -1, .str lz, rfl, rfl, sqT_same s15 t14, at_neg1 lastM, .ref rf, rfl, 1, rfl, rf, _, -1, .str lz, rfl, rfl, sqT_same s15 hB14, at_neg1 ez, rfl, _, rfl, ?_⟩
      refine ite2 (fun z => by simp at z) (fun _ => ?_)
      refine ⟨.ref p14, rfl, .ref p14, .tuple (dS met), rfl, .tup (sqT_same s15 t14) (dpS met), sm2_row plM (by omega), fun H16 s16 => ⟨_, rfl, ?_⟩⟩
      rw [isJ_row posM plM altM]
      refine ite2 (fun z => by cases z) (fun _ => ?_)
      have s516 := (s514.trans s15).trans s16
      have hA16 := sqT_same s516 hA5
      have ep16 := s516 _ _ ep5
      have b16 := b5.same s516
      have k16 := k15.trans (Keep.of_same s516)
      clear t15 t14 tm s13 s14 s15 s16 hA12 hB12 hA14 hB14 s514 s516 s12 k15 ep5 b5 hA5 hB5
      -- the pairs
      refine ⟨.ref b, rfl, .ref p, rfl, (by show 1 ≤ sizeLine; decide), fun l17 n17 => ?_⟩
      have t17 := same_upd (o := .lst [V.str "inland"]) n17
      have f17 : (upd H16 l17 (.lst [V.str "inland"])) l17 = some (.lst [V.str "inland"]) := upd_same
      generalize upd H16 l17 (.lst [V.str "inland"]) = H17 at t17 f17 ⊢
      refine cat_use (t17 _ _ ep16) f17 (by rw [List.length_map, List.length_singleton]; omega) fun H18 p18 s18 n18 e18 => ?_
      have b18 := b16.same (t17.trans s18)
      have np18 : p18 ≠ b := fun z => by
        obtain ⟨_, _, _, e, _⟩ := b16.same t17
        rw [← z, n18] at e
        cases e
      refine ⟨.ref b, rfl, b, _, 4, rfl, b18, by omega, by decide, by decide, fun H19 r19 k19 b19 r190 r191 => ?_⟩
      have e18' : H19 p18 = some (.lst ((fs ++ [("inland" : Str)]).map V.str)) := by
        rw [List.map_append]
        exact k19 _ _ np18 e18
      refine ⟨b, .ref p18, r19, _, fs ++ [("inland" : Str)], rfl, b19, by omega, r190, by rw [List.length_append, List.length_singleton]; omega, .inl ⟨p18, rfl, np18, SqL.of e18'⟩, fun H20 pg gs gr k20 b20 ng ngb e20 hl20 hp20 => ?_⟩
      have k1620 : Keep b H16 H20 := ((Keep.of_same (t17.trans s18)).trans k19).trans k20
      have ep20 := k1620 _ _ npb ep16
      have hA20 := Keep.sqTb b16 k1620 hA16
      have lgs : gs.length ≤ 4 := by omega
      have ndI : (fs ++ [("inland" : Str)]).Nodup := by
        refine List.nodup_append.mpr ⟨hnd, by simp, fun a ha c hc => ?_⟩
        rw [List.mem_singleton.mp hc]
        exact hne a ha
      have ndG : gs.Nodup := part_nodup hp20 ndI
      have gIn : ∀ z ∈ gs, z ∈ fs ++ [("inland" : Str)] := fun z hz => hp20.mem_iff.mp (List.mem_append_left _ hz)
      clear hp20 hl20 ep16 b16 hA16 e18 e18' t17 s18 b18 k19 b19
      refine ⟨.ref pg, rfl, pg, rfl, ⟨_, SqL.of e20⟩, fun D nD => lc_list (K := K) (a := pg) (xs := gs.map V.str) (fun i' H' => ∃ (as : List Addr) (ys : List Str), as.length = i' ∧ ys.length = i' ∧ Keep b H20 H' ∧ BoxAt H' b (3000 * i + 2300 + i') ∧ H' D = some (.lst (as.map V.ref)) ∧ (∀ y ∈ ys, y ∈ fs ++ [("new" : Str)]) ∧ ∀ (j : Nat) (a : Addr) (x y : Str), as[j]? = some a → gs[j]? = some x → ys[j]? = some y → H' a = some (.tup [.str x, .str y]))
        ⟨[], [], rfl, rfl, Keep.of_same (same_upd nD), (b20.same (same_upd nD)).up (by omega), upd_same, (fun y hy => by cases hy), fun j a x y z => by simp at z⟩ (fun i' H' _ z => by
          obtain ⟨_, _, _, _, k, _⟩ := z
          exact k.sqL ngb (SqL.of e20)) ?_ ?_⟩
      · rintro j0 x H21 hx ⟨as, ys, la1, ly1, k21, b21, eD, hys, hpr⟩
        rw [List.getElem?_map] at hx
        cases ez0 : gs[j0]? with
        | none =>
          rw [ez0] at hx
          cases hx
        | some z =>
          rw [ez0] at hx
          cases hx
          have hj0 : j0 < gs.length := (List.getElem?_eq_some_iff.mp ez0).1
          have ep21 := k21 _ _ npb ep20
          have nDb : D ≠ b := fun z => by
            obtain ⟨_, _, _, e, _⟩ := b20
            rw [← z, nD] at e
            cases e
          refine ⟨rfl, ?_⟩
          unfold tYes
          refine ite2 (fun _ => ?_) (fun z => absurd rfl z)
          refine ⟨.str z, rfl, .ref b, rfl, .ref p, rfl, (by show 1 ≤ sizeLine; decide), fun l22 n22 => ?_⟩
          have t22 := same_upd (o := .lst [V.str "new"]) n22
          have f22 : (upd H21 l22 (.lst [V.str "new"])) l22 = some (.lst [V.str "new"]) := upd_same
          generalize upd H21 l22 (.lst [V.str "new"]) = H22 at t22 f22 ⊢
          refine cat_use (t22 _ _ ep21) f22 (by rw [List.length_map, List.length_singleton]; omega) fun H23 p23 s23 n23 e23 => ?_
          have b23 := b21.same (t22.trans s23)
          have np23 : p23 ≠ b := fun z => by
            obtain ⟨_, _, _, e, _⟩ := b21.same t22
            rw [← z, n23] at e
            cases e
          refine ⟨b, p23, _, _, rfl, b23, by omega, np23, SqL.of e23, by rw [List.length_append, List.length_singleton]; omega, by rw [List.length_append, List.length_map, List.length_singleton]; omega, fun H24 i24 x24 k24 b24 hx24 => ?_⟩
          obtain ⟨y, ey, my⟩ : ∃ y, x24 = .str y ∧ y ∈ fs ++ [("new" : Str)] := by
            have m := List.mem_of_getElem? hx24
            rw [show (fs.map V.str ++ [V.str "new"]) = (fs ++ [("new" : Str)]).map V.str by rw [List.map_append]; rfl] at m
            obtain ⟨y, hy, e⟩ := List.mem_map.mp m
            exact ⟨y, e.symm, hy⟩
          subst ey
          have k2124 : Keep b H21 H24 := (Keep.of_same (t22.trans s23)).trans k24
          refine ⟨(by show 2 ≤ sizeLine; decide), fun T0 nT => ⟨_, same_upd nT _ _ (k2124 _ _ nDb eD), ?_, as ++ [T0], ys ++ [y], by rw [List.length_append, la1]; rfl, by rw [List.length_append, ly1]; rfl, ?_, ?_, by rw [upd_same, List.map_append]; rfl, ?_, ?_⟩⟩
          · rw [List.length_map, la1]
            exact small1000 (by omega)
          · intro c o hc e
            have ncD : c ≠ D := ne_of_none e nD
            rw [upd_ne ncD]
            exact same_upd nT _ _ (k2124 _ _ hc (k21 _ _ hc e))
          · exact (box_put (b24.same (same_upd nT)) nDb).up (by omega)
          · intro y' hy'
            rcases List.mem_append.mp hy' with h1 | h1
            · exact hys y' h1
            · rw [List.mem_singleton.mp h1]
              exact my
          · intro j a x1 y1' q1 q2 q3
            have eDT : (upd H24 T0 (.tup [.str z, .str y])) D = some (.lst (as.map V.ref)) := same_upd nT _ _ (k2124 _ _ nDb eD)
            by_cases hj : j < as.length
            · rw [List.getElem?_append_left hj] at q1
              rw [List.getElem?_append_left (by omega)] at q3
              have w1 := hpr j a x1 y1' q1 q2 q3
              have nab : a ≠ b := fun z => by
                obtain ⟨_, _, _, e, _⟩ := b21
                rw [z, e] at w1
                cases w1
              have w2 := same_upd (o := .tup [.str z, .str y]) nT _ _ (k2124 _ _ nab w1)
              rw [upd_ne (ne_of w2 eDT (by intro z; cases z))]
              exact w2
            · have hj2 := (List.getElem?_eq_some_iff.mp q1).1
              rw [List.length_append, List.length_singleton] at hj2
              have ej : j = j0 := by omega
              subst ej
              rw [List.getElem?_append_right (by omega), la1, Nat.sub_self] at q1
              rw [List.getElem?_append_right (by omega), ly1, Nat.sub_self] at q3
              rw [ez0] at q2
              cases q1
              cases q2
              cases q3
              have nTD : T0 ≠ D := fun z => by
                rw [z, k2124 _ _ nDb eD] at nT
                cases nT
              rw [upd_ne nTD, upd_same]
      rintro H21 ⟨as, ys, la1, ly1, k21, b21, eD, hys, hpr⟩
      rw [List.length_map] at la1 ly1 b21
      refine ⟨D, _, rfl, SqL.of eD, fun tp o ntp od => ?_⟩
      have t22 := same_upd (o := .frz o (.tup (as.map V.ref))) ntp
      have f22 : (upd H21 tp (.frz o (.tup (as.map V.ref)))) tp = some (.frz o (.tup (as.map V.ref))) := upd_same
      generalize upd H21 tp (.frz o (.tup (as.map V.ref))) = H22 at t22 f22 ⊢
      have hA22 := sqT_same t22 (Keep.sqTb b20 k21 hA20)
      obtain ⟨ps, eps⟩ : ∃ ps, ps = gs.zip ys := ⟨_, rfl⟩
      have lps : ps.length = as.length := by
        rw [eps, List.length_zip]
        omega
      have fstP : ps.map Prod.fst = gs := by
        rw [eps, List.map_fst_zip (by omega)]
      have hpr22 : ∀ (j : Nat) (a : Addr) (x y : Str), as[j]? = some a → ps[j]? = some (x, y) → SqT K H22 a [.str x, .str y] := fun j a x y q1 q2 => by
        rw [eps, List.getElem?_zip_eq_some] at q2
        exact SqT.of (t22 _ _ (hpr j a x y q1 q2.1 q2.2))
      have sndP : ∀ pr ∈ ps, pr.2 ∈ fs ++ [("new" : Str)] := fun pr hp => by
        rw [eps] at hp
        exact hys _ (List.of_mem_zip (a := pr.1) (b := pr.2) hp).2
      have plN : ∀ z ∈ fs ++ [("new" : Str)], isPl z = true ∧ PyData.strOk z = true := fun z hz => by
        rcases List.mem_append.mp hz with h1 | h1
        · exact ⟨hpl z h1, hok z h1⟩
        · rw [List.mem_singleton.mp h1]
          exact ⟨by decide +kernel, by decide +kernel⟩
      have renOk : ∀ z ∈ ss, isPl (ren ps z) = true ∧ PyData.strOk (ren ps z) = true := fun z hz => by
        rcases ren_mem (ps := ps) z with h1 | ⟨pr, h1, h2⟩
        · rw [h1]
          exact ⟨plS z hz, okS z hz⟩
        · rw [h2]
          exact plN _ (sndP pr h1)
      have plSeen : ∀ z ∈ seenL ps ss, isPl z = true := fun z hz => by
        obtain ⟨u, hu, e⟩ := seen_mem hz
        rw [e]
        exact (renOk u hu).1
      have lseen : (seenL ps ss).length ≤ 200 := by
        have z1 := dL_len (ss.map (ren ps))
        rw [List.length_map] at z1
        unfold seenL
        omega
      have posSeen : 0 < (seenL ps ss).length := by
        refine List.length_pos_iff.mpr ?_
        exact dL_ne (by rw [List.length_map]; omega)
      have ndP : (ps.map Prod.fst).Nodup := by
        rw [fstP]
        exact ndG
      refine ⟨.ref ro, rfl, .ref tp, rfl, ro, tp, ss, ps, rfl, hA22, by omega, ⟨as, o, f22, od, lps.symm, hpr22⟩, ndP, by omega, fun z hz => (renOk z hz).2, fun H23 p23 s23 t23 => ?_⟩
      have hT23 : SqT K H23 tp (as.map V.ref) := sqT_same s23 (.inl (.inr ⟨o, f22⟩))
      have hpr23 : ∀ (j : Nat) (a : Addr) (x y : Str), as[j]? = some a → ps[j]? = some (x, y) → SqT K H23 a [.str x, .str y] := fun j a x y q1 q2 => sqT_same s23 (hpr22 j a x y q1 q2)
      have hA23 := sqT_same s23 hA22
      have ps23 : Ps K H23 tp ps := ⟨as, .inl hT23, lps.symm, fun j a x y q1 q2 => .inl (hpr23 j a x y q1 q2)⟩
      refine ⟨.ref ro, rfl, .ref tp, rfl, ro, tp, ss, ps, rfl, .inl hA23, hpos, by omega, ps23, ndP, by omega, fun H24 p24 s24 t24 => ?_⟩
      refine ⟨.ref ro, rfl, ro, _, rfl, .inr (sqT_same s24 hA23), fun l25 n25 => ?_⟩
      have t25 := same_upd (o := .lst (ss.map V.str)) n25
      have f25 : (upd H24 l25 (.lst (ss.map V.str))) l25 = some (.lst (ss.map V.str)) := upd_same
      generalize upd H24 l25 (.lst (ss.map V.str)) = H25 at t25 f25 ⊢
      have s2325 := s24.trans t25
      refine ⟨.ref tp, rfl, tp, as, ps, rfl, sqT_same s2325 hT23, lps.symm, by omega, fun j a x y q1 q2 => sqT_same s2325 (hpr23 j a x y q1 q2), fun H26 p26 s26 ps26 => ?_⟩
      refine ⟨l25, p26, ss, ps, rfl, .inr (SqL.of (s26 _ _ f25)), hpos, by omega, ps26, ndP, by omega, fun H27 p27 s27 t27 => ⟨(by show 2 ≤ sizeLine; decide), fun l28 n28 => ?_⟩⟩
      have t28 := same_upd (o := .lst [V.ref p24, V.ref p27]) n28
      have f28 : (upd H27 l28 (.lst [V.ref p24, V.ref p27])) l28 = some (.lst [V.ref p24, V.ref p27]) := upd_same
      generalize upd H27 l28 (.lst [V.ref p24, V.ref p27]) = H28 at t28 f28 ⊢
      refine ⟨.ref p23, rfl, (by show 1 ≤ sizeLine; decide), fun l29 n29 => ?_⟩
      have t29 := same_upd (o := .lst [V.ref p23]) n29
      have f29 : (upd H28 l29 (.lst [V.ref p23])) l29 = some (.lst [V.ref p23]) := upd_same
      generalize upd H28 l29 (.lst [V.ref p23]) = H29 at t29 f29 ⊢
      refine repC_any f29 fun H30 l30 t30 f30 => ?_
      have u2427 := (t25.trans s26).trans s27
      have u2730 := (t28.trans t29).trans t30
      have D24 : Dp K H30 (.ref p24) (.tuple (dS (seenL ps ss))) := .tup (sqT_same (u2427.trans u2730) t24) (dpS _)
      have D27 : Dp K H30 (.ref p27) (.tuple (dS (seenL ps ss))) := .tup (sqT_same u2730 t27) (dpS _)
      have D23 : Dp K H30 (.ref p23) (.tuple (dS (seenL ps ss))) := .tup (sqT_same ((s24.trans u2427).trans u2730) t23) (dpS _)
      refine ⟨.ref l28, .ref l30, .list [.tuple (dS (seenL ps ss)), .tuple (dS (seenL ps ss))], rfl, .lst (SqL.of ((t29.trans t30) _ _ f28)) (.cons D24 (.cons D27 .nil)), .lst (SqL.of f30) (.cons D23 (.cons D23 .nil)), okD_two (okD_row _ (by omega)), fun H31 t31 => ⟨_, rfl, ?_⟩⟩
      refine ite2 (fun z => by cases z) (fun _ => ?_)
      have u2331 := ((s24.trans u2427).trans u2730).trans t31
      refine ⟨.ref p23, rfl, .ref p23, .tuple (dS (seenL ps ss)), rfl, .tup (sqT_same u2331 t23) (dpS _), sm2_row plSeen (by omega), fun H32 s32 => ⟨isJ (.tuple (dS (seenL ps ss))), true, rfl, rfl, _, rfl, ?_⟩⟩
      rw [isJ_row posSeen plSeen (seen_alt ps ss)]
      refine ite2 (fun z => by cases z) (fun _ => ?_)
      have uAll := ((t22.trans s23).trans u2331).trans s32
      exact ⟨_, _, _, _, _, _, _, _, rfl, ((k16.trans k1620).trans k21).trans (Keep.of_same uAll), (b21.same uAll).up (by omega)⟩
    · rintro σ H1 ⟨y1, y2, y3, y4, y5, y6, y7, y8, rfl, k1, b1⟩
      exact q H1 k1
/-! ### the law -/
def spLaw (K : PySem.W.Frag) : Sp := fun vs H Q _ => ∃ (a : Addr) (ns : List Int), vs = [.ref a] ∧ SqL K H a (ns.map V.int) ∧ ns.length ≤ 63 ∧ ∀ H', Q (.bl true) H'
abbrev nLaw : List Str := ["_law_script", "_law_cells_here", "_law_k"]
theorem scLaw : FnScope nLaw ["_law_script"] (defScope sLaw) := ⟨rfl, rfl, rfl, by decide +kernel, rfl, by decide +kernel, by decide +kernel⟩
theorem ok_law {f gh gc gr gb : Addr} {fd dh dc dr db : FuncData} {k : Nat} (F : Fun K "law" "law" sLaw f fd)
    (Gh : FnOk P w K mg base CX0 k gh dh [] spTrue) (bh : Binds K dh [] []) (kh : PySem.W.keepIn K (.ref gh) = true) (mh : mg "_law_by_hand_right" = some (.ref gh))
    (Gc : FnOk P w K mg base CX0 k gc dc ["_law_script", "_law_most_so"] (spCells K)) (bc : Binds K dc ["_law_script", "_law_most_so"] []) (kc : PySem.W.keepIn K (.ref gc) = true) (mc : mg "_law_cells" = some (.ref gc))
    (Gr : FnOk P w K mg base CX0 k gr dr ["_law_box_here"] spRight) (br : Binds K dr ["_law_box_here"] []) (kr : PySem.W.keepIn K (.ref gr) = true) (mR : mg "_law_right" = some (.ref gr))
    (Gb : FnOk P w K mg base CX0 k gb db ["_law_script", "_law_k"] (spBox K)) (bb : Binds K db ["_law_script", "_law_k"] []) (kb : PySem.W.keepIn K (.ref gb) = true) (mb : mg "_law_box" = some (.ref gb)) (mr : mg "range" = none) (ma : mg "all" = none) (ml : mg "len" = none) :
    FnOk P w K mg base CX0 (k + 1) f fd ["_law_script"] (spLaw K) := by
  refine F.ok scLaw (fun vs H Q E h => ?_) (fun cdv A outer s H vs Q E hr h => ?_)
  · obtain ⟨a, ns, rfl, _⟩ := h
    rfl
  · obtain ⟨a, ns, rfl, hS, hn, q⟩ := h
    refine ⟨_, pss_cons (ps_if (pt_not (pt_val (pe_call0 Gh hr (by rfl) mh kh bh .nil pass0))) (pss_one (ps_ret pe_bl)) pss_nil)
      (pss_cons (ps_set (i := 1) scLaw.nd rfl (.inr rfl) (pe_call Gc hr (by rfl) mc kc bc .nil pass0 (pa_cons (pv 0) (pa_cons pe_int pa_nil))))
      (pss_one (ps_ret (pe_callB (cr_all rfl) (by rfl) ma (by decide +kernel) (pa_cons (pe_lc (own := [("_law_k", 2)]) (g := gName 2) (by rfl) scLaw.nd (pi_range1 (by rfl) mr (pa_cons (pe_callB call_len_seq (by rfl) ml PySem.boot_len (pa_cons (pv 1) pa_nil)) pa_nil))
        (blkOk_by (own := [("_law_k", 2)]) (N := nLaw) (sc := defScope sLaw) (by decide +kernel)) (fun _ _ _ _ _ => pg_name (i := 2) scLaw.nd rfl (Or.inl rfl) (.inr rfl)) (fun _ _ _ _ _ => pts_nil)
        (fun _ _ _ _ _ => pe_call Gr hr (by rfl) mR kr br .nil pass0 (pa_cons (pe_call Gb hr (by rfl) mb kb bb .nil pass0 (pa_cons (pv 1) (pa_cons (pv 2) pa_nil))) pa_nil))) pa_nil))))), ?_⟩
    refine ⟨rfl, fun H1 s1 => ⟨_, rfl, ?_⟩⟩
    refine ite2 (fun z => by cases z) (fun _ => ?_)
    refine ⟨.ref a, rfl, a, ns, rfl, s1.seq hS, hn, fun H2 p ms s2 _ e2 m1 m3 => ?_⟩
    refine ⟨.ref p, rfl, p, _, rfl, .inl (SqL.of e2), _, rfl, (by rw [List.length_map]; omega), (by rw [List.length_map]; omega), fun D nD => lc_range (fun i H' => H' p = some (.lst (ms.map V.int)) ∧ H' D = some (.lst ((List.replicate i true).map V.bl))) ⟨?_, upd_same⟩ ?_ ?_⟩
    · rw [upd_ne (ne_of_none e2 nD)]
      exact e2
    · rintro i H3 hi ⟨e3, eD⟩
      rw [List.length_map] at hi
      have hi' : i < ms.length := by omega
      have npD : p ≠ D := ne_of_none e2 nD
      refine ⟨rfl, ?_⟩
      unfold tYes
      refine ite2 (fun _ => ?_) (fun z => absurd rfl z)
      refine ⟨.ref p, rfl, .int (0 + (i : Nat)), rfl, p, ms, i, (by rw [Int.zero_add]; rfl), SqL.of e3, hi', by omega, fun H4 b s4 nb b4 => ?_⟩
      have npb : p ≠ b := ne_of_none e3 nb
      have nDb : D ≠ b := ne_of_none eD nb
      refine ⟨b, rfl, b4, fun H5 k5 => ?_⟩
      refine ⟨_, k5 _ _ nDb (s4 _ _ eD), ?_, ?_, ?_⟩
      · rw [List.length_map, List.length_replicate]
        exact small1000 (by omega)
      · rw [upd_ne npD]
        exact k5 _ _ npb (s4 _ _ e3)
      · rw [upd_same, List.replicate_succ', List.map_append]
        rfl
    · rintro H3 ⟨e3, eD⟩
      refine ⟨D, _, rfl, SqL.of eD, ?_⟩
      rw [all_yes]
      exact q H3

end
end K02
namespace K02
open PySem PySem.Spec PyProof.Rows L2 CS RZ
theorem fn_up {P : Program} {w : World} {K : PySem.W.Frag} {mg : Str → Option Value} {base : Heap} {CX : CXT} {j k : Nat} {f : Addr} {fd : FuncData} {ps : List Str} {sp : Sp} (F : FnOk P w K mg base CX j f fd ps sp) (h : j ≤ k) : FnOk P w K mg base CX k f fd ps sp :=
  ⟨F.len, fun A outer s H args us vs Q E hr e0 hb r q => F.run A outer s H args us vs Q E (hr.mono h) e0 hb r q⟩
theorem all_mk {l : PySem.W.OpenLaw} {w : World} {K : PySem.W.Frag} {h : Heap} {mg : Str → Option Value} {fa f1 f2 f3 f4 f5 f6 f7 f8 f9 f10 f11 f12 f13 f14 f15 f16 f17 f18 f19 : Addr} (X : K.In h) (G : h.Ns mainGlobals mg) (hfa : mg "law" = some (.ref fa))
    {od1 an1 od2 an2 od3 an3 od4 an4 od5 an5 od6 an6 od7 an7 od8 an8 od9 an9 od10 an10 od11 an11 od12 an12 od13 an13 od14 an14 od15 an15 od16 an16 od17 an17 od18 an18 od19 an19 : Option Addr} {sl1 sl2 sl3 sl4 sl5 sl6 sl7 sl8 sl9 sl10 sl11 sl12 sl13 sl14 sl15 sl16 sl17 sl18 sl19 : Array (Option Value)} {oc1 kV1 dc1 pm1 cd1 ct1 oc2 kV2 dc2 pm2 cd2 ct2 oc3 kV3 dc3 pm3 cd3 ct3 oc4 kV4 dc4 pm4 cd4 ct4 oc5 kV5 dc5 pm5 cd5 ct5 oc6 kV6 dc6 pm6 cd6 ct6 oc7 kV7 dc7 pm7 cd7 ct7 oc8 kV8 dc8 pm8 cd8 ct8 oc9 kV9 dc9 pm9 cd9 ct9 oc10 kV10 dc10 pm10 cd10 ct10 oc11 kV11 dc11 pm11 cd11 ct11 oc12 kV12 dc12 pm12 cd12 ct12 oc13 kV13 dc13 pm13 cd13 ct13 oc14 kV14 dc14 pm14 cd14 ct14 oc15 kV15 dc15 pm15 cd15 ct15 oc16 kV16 dc16 pm16 cd16 ct16 oc17 kV17 dc17 pm17 cd17 ct17 oc18 kV18 dc18 pm18 cd18 ct18 oc19 kV19 dc19 pm19 cd19 ct19 : Value}
    (a1 : PySem.W.nsIn K mainGlobals "is_place" = some (some (.ref f1))) (l1 : K.lookup f1 = some ⟨oc1, od1, .func (PySem.W.fnOf "is_place" "is_place" (defArgs sPlace) (defBody sPlace) (defScope sPlace) .none kV1 dc1 pm1 an1 cd1 ct1), sl1⟩) (c1 : PySem.W.codeIn K cd1 "is_place" = true) (k1 : PySem.W.keepIn K (.ref f1) = true)
    (a2 : PySem.W.nsIn K mainGlobals "is_journey" = some (some (.ref f2))) (l2 : K.lookup f2 = some ⟨oc2, od2, .func (PySem.W.fnOf "is_journey" "is_journey" (defArgs sJour) (defBody sJour) (defScope sJour) .none kV2 dc2 pm2 an2 cd2 ct2), sl2⟩) (c2 : PySem.W.codeIn K cd2 "is_journey" = true) (k2 : PySem.W.keepIn K (.ref f2) = true)
    (a3 : PySem.W.nsIn K mainGlobals "steps_of" = some (some (.ref f3))) (l3 : K.lookup f3 = some ⟨oc3, od3, .func (PySem.W.fnOf "steps_of" "steps_of" (defArgs sSteps) (defBody sSteps) (defScope sSteps) .none kV3 dc3 pm3 an3 cd3 ct3), sl3⟩) (c3 : PySem.W.codeIn K cd3 "steps_of" = true) (k3 : PySem.W.keepIn K (.ref f3) = true)
    (a4 : PySem.W.nsIn K mainGlobals "joined" = some (some (.ref f4))) (l4 : K.lookup f4 = some ⟨oc4, od4, .func (PySem.W.fnOf "joined" "joined" (defArgs sJoin) (defBody sJoin) (defScope sJoin) .none kV4 dc4 pm4 an4 cd4 ct4), sl4⟩) (c4 : PySem.W.codeIn K cd4 "joined" = true) (k4 : PySem.W.keepIn K (.ref f4) = true)
    (a5 : PySem.W.nsIn K mainGlobals "seen" = some (some (.ref f5))) (l5 : K.lookup f5 = some ⟨oc5, od5, .func (PySem.W.fnOf "seen" "seen" (defArgs sSeen) (defBody sSeen) (defScope sSeen) .none kV5 dc5 pm5 an5 cd5 ct5), sl5⟩) (c5 : PySem.W.codeIn K cd5 "seen" = true) (k5 : PySem.W.keepIn K (.ref f5) = true)
    (a6 : PySem.W.nsIn K mainGlobals "_law_box" = some (some (.ref f6))) (l6 : K.lookup f6 = some ⟨oc6, od6, .func (PySem.W.fnOf "_law_box" "_law_box" (defArgs sBox) (defBody sBox) (defScope sBox) .none kV6 dc6 pm6 an6 cd6 ct6), sl6⟩) (c6 : PySem.W.codeIn K cd6 "_law_box" = true) (k6 : PySem.W.keepIn K (.ref f6) = true)
    (a7 : PySem.W.nsIn K mainGlobals "_law_take" = some (some (.ref f7))) (l7 : K.lookup f7 = some ⟨oc7, od7, .func (PySem.W.fnOf "_law_take" "_law_take" (defArgs sTake) (defBody sTake) (defScope sTake) .none kV7 dc7 pm7 an7 cd7 ct7), sl7⟩) (c7 : PySem.W.codeIn K cd7 "_law_take" = true) (k7 : PySem.W.keepIn K (.ref f7) = true)
    (a8 : PySem.W.nsIn K mainGlobals "_law_cells" = some (some (.ref f8))) (l8 : K.lookup f8 = some ⟨oc8, od8, .func (PySem.W.fnOf "_law_cells" "_law_cells" (defArgs sCells) (defBody sCells) (defScope sCells) .none kV8 dc8 pm8 an8 cd8 ct8), sl8⟩) (c8 : PySem.W.codeIn K cd8 "_law_cells" = true) (k8 : PySem.W.keepIn K (.ref f8) = true)
    (a9 : PySem.W.nsIn K mainGlobals "_law_of" = some (some (.ref f9))) (l9 : K.lookup f9 = some ⟨oc9, od9, .func (PySem.W.fnOf "_law_of" "_law_of" (defArgs sOf) (defBody sOf) (defScope sOf) .none kV9 dc9 pm9 an9 cd9 ct9), sl9⟩) (c9 : PySem.W.codeIn K cd9 "_law_of" = true) (k9 : PySem.W.keepIn K (.ref f9) = true)
    (a10 : PySem.W.nsIn K mainGlobals "_law_pick" = some (some (.ref f10))) (l10 : K.lookup f10 = some ⟨oc10, od10, .func (PySem.W.fnOf "_law_pick" "_law_pick" (defArgs sPick) (defBody sPick) (defScope sPick) .none kV10 dc10 pm10 an10 cd10 ct10), sl10⟩) (c10 : PySem.W.codeIn K cd10 "_law_pick" = true) (k10 : PySem.W.keepIn K (.ref f10) = true)
    (a11 : PySem.W.nsIn K mainGlobals "_law_lists" = some (some (.ref f11))) (l11 : K.lookup f11 = some ⟨oc11, od11, .func (PySem.W.fnOf "_law_lists" "_law_lists" (defArgs sLists) (defBody sLists) (defScope sLists) .none kV11 dc11 pm11 an11 cd11 ct11), sl11⟩) (c11 : PySem.W.codeIn K cd11 "_law_lists" = true) (k11 : PySem.W.keepIn K (.ref f11) = true)
    (a12 : PySem.W.nsIn K mainGlobals "_law_same" = some (some (.ref f12))) (l12 : K.lookup f12 = some ⟨oc12, od12, .func (PySem.W.fnOf "_law_same" "_law_same" (defArgs sSame) (defBody sSame) (defScope sSame) .none kV12 dc12 pm12 an12 cd12 ct12), sl12⟩) (c12 : PySem.W.codeIn K cd12 "_law_same" = true) (k12 : PySem.W.keepIn K (.ref f12) = true)
    (a13 : PySem.W.nsIn K mainGlobals "_law_tags" = some (some (.ref f13))) (l13 : K.lookup f13 = some ⟨oc13, od13, .func (PySem.W.fnOf "_law_tags" "_law_tags" (defArgs sTags) (defBody sTags) (defScope sTags) .none kV13 dc13 pm13 an13 cd13 ct13), sl13⟩) (c13 : PySem.W.codeIn K cd13 "_law_tags" = true) (k13 : PySem.W.keepIn K (.ref f13) = true)
    (a14 : PySem.W.nsIn K mainGlobals "_law_walk" = some (some (.ref f14))) (l14 : K.lookup f14 = some ⟨oc14, od14, .func (PySem.W.fnOf "_law_walk" "_law_walk" (defArgs sWalk) (defBody sWalk) (defScope sWalk) .none kV14 dc14 pm14 an14 cd14 ct14), sl14⟩) (c14 : PySem.W.codeIn K cd14 "_law_walk" = true) (k14 : PySem.W.keepIn K (.ref f14) = true)
    (a15 : PySem.W.nsIn K mainGlobals "_law_heard" = some (some (.ref f15))) (l15 : K.lookup f15 = some ⟨oc15, od15, .func (PySem.W.fnOf "_law_heard" "_law_heard" (defArgs sHeard) (defBody sHeard) (defScope sHeard) .none kV15 dc15 pm15 an15 cd15 ct15), sl15⟩) (c15 : PySem.W.codeIn K cd15 "_law_heard" = true) (k15 : PySem.W.keepIn K (.ref f15) = true)
    (a16 : PySem.W.nsIn K mainGlobals "_law_called" = some (some (.ref f16))) (l16 : K.lookup f16 = some ⟨oc16, od16, .func (PySem.W.fnOf "_law_called" "_law_called" (defArgs sCalled) (defBody sCalled) (defScope sCalled) .none kV16 dc16 pm16 an16 cd16 ct16), sl16⟩) (c16 : PySem.W.codeIn K cd16 "_law_called" = true) (k16 : PySem.W.keepIn K (.ref f16) = true)
    (a17 : PySem.W.nsIn K mainGlobals "_law_by_hand_right" = some (some (.ref f17))) (l17 : K.lookup f17 = some ⟨oc17, od17, .func (PySem.W.fnOf "_law_by_hand_right" "_law_by_hand_right" (defArgs sHand) (defBody sHand) (defScope sHand) .none kV17 dc17 pm17 an17 cd17 ct17), sl17⟩) (c17 : PySem.W.codeIn K cd17 "_law_by_hand_right" = true) (k17 : PySem.W.keepIn K (.ref f17) = true)
    (a18 : PySem.W.nsIn K mainGlobals "_law_right" = some (some (.ref f18))) (l18 : K.lookup f18 = some ⟨oc18, od18, .func (PySem.W.fnOf "_law_right" "_law_right" (defArgs sRight) (defBody sRight) (defScope sRight) .none kV18 dc18 pm18 an18 cd18 ct18), sl18⟩) (c18 : PySem.W.codeIn K cd18 "_law_right" = true) (k18 : PySem.W.keepIn K (.ref f18) = true)
    (a19 : PySem.W.nsIn K mainGlobals "law" = some (some (.ref f19))) (l19 : K.lookup f19 = some ⟨oc19, od19, .func (PySem.W.fnOf "law" "law" (defArgs sLaw) (defBody sLaw) (defScope sLaw) .none kV19 dc19 pm19 an19 cd19 ct19), sl19⟩) (c19 : PySem.W.codeIn K cd19 "law" = true) (k19 : PySem.W.keepIn K (.ref f19) = true)
    (z1 : PySem.W.nsIn K mainGlobals "tuple" = some none)
    (z2 : PySem.W.nsIn K mainGlobals "zip" = some none)
    (z3 : PySem.W.nsIn K mainGlobals "enumerate" = some none)
    (z4 : PySem.W.nsIn K mainGlobals "len" = some none)
    (z5 : PySem.W.nsIn K mainGlobals "abs" = some none)
    (z6 : PySem.W.nsIn K mainGlobals "int" = some none)
    (z7 : PySem.W.nsIn K mainGlobals "list" = some none)
    (z8 : PySem.W.nsIn K mainGlobals "range" = some none)
    (z9 : PySem.W.nsIn K mainGlobals "min" = some none)
    (z10 : PySem.W.nsIn K mainGlobals "isinstance" = some none)
    (z11 : PySem.W.nsIn K mainGlobals "all" = some none)
    (z12 : PySem.W.nsIn K mainGlobals "bool" = some none)
    (z13 : PySem.W.nsIn K mainGlobals "str" = some none)
    (z14 : PySem.W.nsIn K mainGlobals "dict" = some none)
    (z15 : PySem.W.nsIn K mainGlobals "ValueError" = some none)
    {tL : Tok} (aL : PySem.W.nsIn K mainGlobals "LETTERS" = some (some (.str "abcdefghijklmnopqrstuvwxyz" tL)))
    {tM : Tok} (aM : PySem.W.nsIn K mainGlobals "LONGEST" = some (some (.int 8 tM)))
    {C : Addr} (aC : PySem.W.nsIn K mainGlobals "Apart" = some (some (.ref C)))
    {cS : Addr} (aS : PySem.W.nsIn K mainGlobals "Still" = some (some (.ref cS)))
    {nm q : Str} {N : Addr} {bs : List Value} {sn : List Str} {sub : List Value} {ab : Bool} {col : Option Bool} {dd : Option Addr} {u0 u1 u2 u3 u5 : Option Value} (xL : K.lookup C = some (excClassObj nm q C N bs [.type "ValueError", .type "Exception", .type "BaseException", .type "object"] true sn sub ab col dd u0 u1 u2 u3 u5 "ValueError.__new__"))
     (sa : PySem.W.findIn K (.ref C) "__setattr__" = some (some (.builtin "object.__setattr__")))
     (ga : PySem.W.findIn K (.ref C) "__getattribute__" = some (some (.builtin "BaseException.__getattribute__")))
     (gg : PySem.W.findIn K (.ref C) "__getattr__" = some none)
     (nE : PySem.W.findIn K (.ref C) "end" = some none)
     (nB : PySem.W.findIn K (.ref C) "begin" = some none)
    {fI : Addr} (iC : PySem.W.findIn K (.ref C) "__init__" = some (some (.ref fI)))
     (tI : PySem.W.typeIn K (.ref fI) = some (.type "function"))
    {oci : Value} {odi : Option Addr} {kVi dci pmi : Value} {ani : Option Addr} {cdi cti : Value} {sli : Array (Option Value)} (lI : K.lookup fI = some ⟨oci, odi, .func (PySem.W.fnOf "__init__" "Apart.__init__" (defArgs sApI) (defBody sApI) (defScope sApI) .none kVi dci pmi ani cdi cti), sli⟩)
     (cI : PySem.W.codeIn K cdi "Apart.__init__" = true)
     (kI : PySem.W.keepIn K (.ref fI) = true)
     (kC : PySem.W.keepIn K (.ref C) = true)
     (eC : PySem.W.subIn K (.ref C) (.type "BaseException") = some true)
     (tC : PySem.W.typeIn K (.ref C) = some (.type "type"))
     (hC : PySem.W.hasDictIn K C = true)
     (sC : PySem.W.subIn K (.ref C) (.ref C) = some true)
     (xv : PySem.W.kitOne K (.ref C) (.type "ValueError") = some true)
     (xs : PySem.W.kitOne K (.ref C) (.ref cS) = some false)
     (ha : PySem.W.findIn K (.ref C) "__class__" = some (some (.builtin "object.__class__")))
     (hn : PySem.W.specialIn K (.builtin "object.__class__") "__get__" = some (some (.builtin "getset_descriptor.__get__")))
     (ht : PySem.W.takesIn K (.builtin "object.__class__") = some true)
     (hm : PySem.W.mroIn K C (.type "object") = some true) :
    ∃ fd : FuncData, (∀ (s : Shared) (v : Value), BindsTo s fd ⟨[v], []⟩ [("_law_script", v)]) ∧ ∀ base : Heap, K.In base → base.Ns mainGlobals mg → FnOk l.prog w K mg base CX0 6 fa fd ["_law_script"] (spLaw K) := by
  have e := hfa.symm.trans (PySem.W.mg_of X G a19)
  cases e
  have F1 := fun_mk (st := sPlace) l1 c1 k1
  have b1 := F1.binds (ps := ["thing"]) fun _ _ _ _ _ _ us hl => match us, hl with | [_], _ => rfl
  have m1 := PySem.W.mg_of X G a1
  have F2 := fun_mk (st := sJour) l2 c2 k2
  have b2 := F2.binds (ps := ["thing"]) fun _ _ _ _ _ _ us hl => match us, hl with | [_], _ => rfl
  have m2 := PySem.W.mg_of X G a2
  have F3 := fun_mk (st := sSteps) l3 c3 k3
  have b3 := F3.binds (ps := ["journey"]) fun _ _ _ _ _ _ us hl => match us, hl with | [_], _ => rfl
  have m3 := PySem.W.mg_of X G a3
  have F4 := fun_mk (st := sJoin) l4 c4 k4
  have b4 := F4.binds (ps := ["one", "other"]) fun _ _ _ _ _ _ us hl => match us, hl with | [_, _], _ => rfl
  have m4 := PySem.W.mg_of X G a4
  have F5 := fun_mk (st := sSeen) l5 c5 k5
  have b5 := F5.binds (ps := ["journey", "names"]) fun _ _ _ _ _ _ us hl => match us, hl with | [_, _], _ => rfl
  have m5 := PySem.W.mg_of X G a5
  have F6 := fun_mk (st := sBox) l6 c6 k6
  have b6 := F6.binds (ps := ["_law_script", "_law_k"]) fun _ _ _ _ _ _ us hl => match us, hl with | [_, _], _ => rfl
  have m6 := PySem.W.mg_of X G a6
  have F7 := fun_mk (st := sTake) l7 c7 k7
  have b7 := F7.binds (ps := ["_law_box_here", "_law_below"]) fun _ _ _ _ _ _ us hl => match us, hl with | [_, _], _ => rfl
  have m7 := PySem.W.mg_of X G a7
  have F8 := fun_mk (st := sCells) l8 c8 k8
  have b8 := F8.binds (ps := ["_law_script", "_law_most_so"]) fun _ _ _ _ _ _ us hl => match us, hl with | [_, _], _ => rfl
  have m8 := PySem.W.mg_of X G a8
  have F9 := fun_mk (st := sOf) l9 c9 k9
  have b9 := F9.binds (ps := ["_law_box_here", "_law_some"]) fun _ _ _ _ _ _ us hl => match us, hl with | [_, _], _ => rfl
  have m9 := PySem.W.mg_of X G a9
  have F10 := fun_mk (st := sPick) l10 c10 k10
  have b10 := F10.binds (ps := ["_law_box_here", "_law_pool_so", "_law_many_so"]) fun _ _ _ _ _ _ us hl => match us, hl with | [_, _, _], _ => rfl
  have m10 := PySem.W.mg_of X G a10
  have F11 := fun_mk (st := sLists) l11 c11 k11
  have b11 := F11.binds (ps := ["_law_matter"]) fun _ _ _ _ _ _ us hl => match us, hl with | [_], _ => rfl
  have m11 := PySem.W.mg_of X G a11
  have F12 := fun_mk (st := sSame) l12 c12 k12
  have b12 := F12.binds (ps := ["_law_got", "_law_due"]) fun _ _ _ _ _ _ us hl => match us, hl with | [_, _], _ => rfl
  have m12 := PySem.W.mg_of X G a12
  have F13 := fun_mk (st := sTags) l13 c13 k13
  have b13 := F13.binds (ps := ["_law_box_here", "_law_many_so"]) fun _ _ _ _ _ _ us hl => match us, hl with | [_, _], _ => rfl
  have m13 := PySem.W.mg_of X G a13
  have F14 := fun_mk (st := sWalk) l14 c14 k14
  have b14 := F14.binds (ps := ["_law_box_here", "_law_tags_here", "_law_most_so"]) fun _ _ _ _ _ _ us hl => match us, hl with | [_, _, _], _ => rfl
  have m14 := PySem.W.mg_of X G a14
  have F15 := fun_mk (st := sHeard) l15 c15 k15
  have b15 := F15.binds (ps := ["_law_one_so", "_law_far_so"]) fun _ _ _ _ _ _ us hl => match us, hl with | [_, _], _ => rfl
  have m15 := PySem.W.mg_of X G a15
  have F16 := fun_mk (st := sCalled) l16 c16 k16
  have b16 := F16.binds (ps := ["_law_row_so", "_law_pairs_so"]) fun _ _ _ _ _ _ us hl => match us, hl with | [_, _], _ => rfl
  have m16 := PySem.W.mg_of X G a16
  have F17 := fun_mk (st := sHand) l17 c17 k17
  have b17 := F17.binds (ps := []) fun _ _ _ _ _ _ us hl => match us, hl with | [], _ => rfl
  have m17 := PySem.W.mg_of X G a17
  have F18 := fun_mk (st := sRight) l18 c18 k18
  have b18 := F18.binds (ps := ["_law_box_here"]) fun _ _ _ _ _ _ us hl => match us, hl with | [_], _ => rfl
  have m18 := PySem.W.mg_of X G a18
  have F19 := fun_mk (st := sLaw) l19 c19 k19
  have y1 := PySem.W.mg_none_of X G z1
  have y2 := PySem.W.mg_none_of X G z2
  have y3 := PySem.W.mg_none_of X G z3
  have y4 := PySem.W.mg_none_of X G z4
  have y5 := PySem.W.mg_none_of X G z5
  have y6 := PySem.W.mg_none_of X G z6
  have y7 := PySem.W.mg_none_of X G z7
  have y8 := PySem.W.mg_none_of X G z8
  have y9 := PySem.W.mg_none_of X G z9
  have y10 := PySem.W.mg_none_of X G z10
  have y11 := PySem.W.mg_none_of X G z11
  have y12 := PySem.W.mg_none_of X G z12
  have y13 := PySem.W.mg_none_of X G z13
  have y14 := PySem.W.mg_none_of X G z14
  have y15 := PySem.W.mg_none_of X G z15
  refine ⟨PySem.W.fnOf "law" "law" (defArgs sLaw) (defBody sLaw) (defScope sLaw) .none kV19 dc19 pm19 an19 cd19 ct19, fun s v => .of_eq rfl, fun base _ _ => ?_⟩
  have mL := PySem.W.mg_of X G aL
  have mM := PySem.W.mg_of X G aM
  have mA := PySem.W.mg_of X G aC
  have mSt := PySem.W.mg_of X G aS
  have FI := fun_mk (st := sApI) lI cI kI
  have bI := FI.binds (ps := ["self", "end", "begin"]) fun _ _ _ _ _ _ us hl => match us, hl with | [_, _, _], _ => rfl
  have TC : ApC K C fI := ⟨⟨⟨nm, q, N, bs, _, sn, sub, ab, col, dd, u0, u1, u2, u3, u5, xL, by decide +kernel⟩, sa, eC, tC, kC⟩, nE, nB, iC, tI, ⟨ga, gg, eC, hC⟩, ⟨ga, gg, eC, hC, ha, hn, ht, hm⟩, PySem.W.exm_ref eC hC tC sC, xv⟩
  have T : SmT mg := ⟨y10, y7, y1, y4, y11, y2, y12, y13, y6⟩
  have gI : FnOk l.prog w K mg base CX0 1 fI _ ["self", "end", "begin"] (spApI K C) := ok_apI FI
  have gQ : FnOk l.prog w K mg base (L2.CX l.prog w) 3 f4 _ ["one", "other"] (spJoin K C) := ok_join F4 TC gI bI mA y1
  have gS : FnOk l.prog w K mg base CX0 1 f3 _ ["journey"] (spSteps K) := ok_steps F3 y1 y2
  have gP : FnOk l.prog w K mg base CX0 1 f1 _ ["thing"] (spPlace K) := ok_place F1 T mL ⟨_, rfl⟩ mM ⟨_, rfl⟩
  have gJ : FnOk l.prog w K mg base CX0 2 f2 _ ["thing"] (spJour K) := ok_jour F2 T gP b1 k1 m1 gS b3 k3 m3
  have gN : FnOk l.prog w K mg base CX0 2 f5 _ ["journey", "names"] (spSeen K) := ok_seen F5 gS b3 k3 m3 y1
  have gM1 : FnOk l.prog w K mg base CX0 1 f12 _ ["_law_got", "_law_due"] (spSame K 1) := ok_same F12 same_none b12 m12 T
  have gM2 := ok_same F12 gM1 b12 m12 T
  have gM3 := ok_same F12 gM2 b12 m12 T
  have gM4 := ok_same F12 gM3 b12 m12 T
  have gL0 : FnOk l.prog w K mg base CX0 1 f11 _ ["_law_matter"] spLs0 := ok_ls0 F11 (sp_none (sp := spLs0)) b11 m11 T
  have gL1 := ok_ls1 F11 gL0 b11 m11 T
  have gL2 := ok_ls2 F11 gL1 b11 m11 T
  have gH : FnOk l.prog w K mg base CX0 4 f15 _ ["_law_one_so", "_law_far_so"] (spHeard K) := ok_heard F15 TC mA mSt xs gQ b4 k4 m4 y15 y10
  have gA : FnOk l.prog w K mg base CX0 1 f16 _ ["_law_row_so", "_law_pairs_so"] (spCalled K) := ok_called F16 y14 y1
  have gZ : FnOk l.prog w K mg base CX0 5 f17 _ [] spTrue := ok_hand F17 T gM4 b12 k12 m12 (fn_up gQ (show 3 ≤ 4 by decide)) b4 k4 m4 (kb3 F4 fun _ _ _ _ _ _ _ _ => rfl) gH b15 k15 m15 (fn_up gN (show 2 ≤ 4 by decide)) b5 k5 m5 (kb2 F5 fun _ _ _ _ _ _ _ _ => rfl)
  have gK : FnOk l.prog w K mg base CX0 1 f7 _ ["_law_box_here", "_law_below"] spTake := ok_take F7 y6
  have gO : FnOk l.prog w K mg base CX0 2 f9 _ ["_law_box_here", "_law_some"] (spOf K) := ok_of F9 gK b7 k7 m7 y4
  have gC : FnOk l.prog w K mg base CX0 2 f10 _ ["_law_box_here", "_law_pool_so", "_law_many_so"] (spPick K) := ok_pick F10 gK b7 k7 m7 y4 y7 y8 y9
  have gG : FnOk l.prog w K mg base CX0 3 f13 _ ["_law_box_here", "_law_many_so"] (spTags K) := ok_tags F13 gK b7 k7 m7 gC b10 k10 m10
  have gW : FnOk l.prog w K mg base CX0 3 f14 _ ["_law_box_here", "_law_tags_here", "_law_most_so"] (spWalk K) := ok_walk F14 gK b7 k7 m7 gO b9 k9 m9 y8 y4 y1
  have R4 : RiG l.prog w K mg base C 4 := ⟨fn_up gK (show 1 ≤ 4 by decide), fn_up gO (show 2 ≤ 4 by decide), fn_up gC (show 2 ≤ 4 by decide), fn_up gG (show 3 ≤ 4 by decide), fn_up gW (show 3 ≤ 4 by decide), gH, fn_up gQ (show 3 ≤ 4 by decide), fn_up gJ (show 2 ≤ 4 by decide), fn_up gA (show 1 ≤ 4 by decide), fn_up gN (show 2 ≤ 4 by decide), fn_up gL2 (show 3 ≤ 4 by decide), gM4, k7, k9, k10, k13, k14, k15, k4, k2, k16, k5, k11, k12, b7, b9, b10, b13, b14, b15, b4, b2, b16, b5, b11, b12, m7, m9, m10, m13, m14, m15, m4, m2, m16, m5, m11, m12⟩
  have gR : FnOk l.prog w K mg base CX0 5 f18 _ ["_law_box_here"] spRight := ok_right F18 R4 T y8
  have gE : FnOk l.prog w K mg base CX0 5 f8 _ ["_law_script", "_law_most_so"] (spCells K) := ok_cells F8 y7 y3 y6
  have gB : FnOk l.prog w K mg base CX0 5 f6 _ ["_law_script", "_law_k"] (spBox K) := ok_box F6 y4 y5 y6
  exact ok_law F19 gZ b17 k17 m17 gE b8 k8 m8 gR b18 k18 m18 gB b6 k6 m6 y8 y11 y4
theorem walk {l : PySem.W.OpenLaw} {q : Program} {loose : List Str} {XP : (Str → Option Value) → Heap → Prop} {YP : World → Heap → Prop} {d : DefRec} {K : Params → PySem.W.Frag} (hn : l.most = some 63) (hdf : d.params.defaults = [])
    (hY : ∀ (w : World) (h : Heap), YP w h → (K w.params).In h)
    (F : ∀ (w : World) (mg : Str → Option Value) (fa : Addr) (h : Heap), (K w.params).In h → h.Ns mainGlobals mg → mg d.name = some (.ref fa) →
      ∃ fd : FuncData, (∀ (s : Shared) (u : Value), BindsTo s fd ⟨[u], []⟩ [("_law_script", u)]) ∧ ∀ base : Heap, (K w.params).In base → base.Ns mainGlobals mg → FnOk l.prog w (K w.params) mg base CX0 6 fa fd ["_law_script"] (spLaw (K w.params))) :
    PySem.W.WalkO q loose XP YP l.row.toRowW d [] (fun f vs => PySem.call f vs) :=
  L2.walk_of (n := 63) (k := 6) (x := "_law_script") (CX := fun _ => CX0) (sp := fun w => spLaw (K w.params)) hn (by decide) hdf ⟨rfl, by decide, by decide⟩ hY F (fun _ _ a ns hl _ hS => ⟨a, ns, rfl, hS, hl, fun _ => rfl⟩) fun _ _ _ _ _ z => z
end K02
open PySem PySem.W PyProof.Rows in
set_option maxRecDepth 100000 in
set_option maxHeartbeats 0 in
theorem PySem.Challenge.cw_countedsteps_k02_joined_and_seen_holds : PySem.Challenge.rw_countedsteps_k02_joined_and_seen.Holds := by
  w_on; o_law; k_head; (case hw => w_witness2)
  k_fill
  refine K02.walk (l := PySem.Challenge.rw_countedsteps_k02_joined_and_seen) rfl rfl (fun w h Y => PySem.W.kIn_of Y) ?F
  case F =>
    intro w mg fa h KX G hmg
    refine' K02.all_mk KX G hmg ?a1 ?l1 ?c1 ?k1 ?a2 ?l2 ?c2 ?k2 ?a3 ?l3 ?c3 ?k3 ?a4 ?l4 ?c4 ?k4 ?a5 ?l5 ?c5 ?k5 ?a6 ?l6 ?c6 ?k6 ?a7 ?l7 ?c7 ?k7 ?a8 ?l8 ?c8 ?k8 ?a9 ?l9 ?c9 ?k9 ?a10 ?l10 ?c10 ?k10 ?a11 ?l11 ?c11 ?k11 ?a12 ?l12 ?c12 ?k12 ?a13 ?l13 ?c13 ?k13 ?a14 ?l14 ?c14 ?k14 ?a15 ?l15 ?c15 ?k15 ?a16 ?l16 ?c16 ?k16 ?a17 ?l17 ?c17 ?k17 ?a18 ?l18 ?c18 ?k18 ?a19 ?l19 ?c19 ?k19 ?z1 ?z2 ?z3 ?z4 ?z5 ?z6 ?z7 ?z8 ?z9 ?z10 ?z11 ?z12 ?z13 ?z14 ?z15 ?aL ?aM ?aC ?aS ?xL ?sa ?ga ?gg ?nE ?nB ?iC ?tI ?lI ?cI ?kI ?kC ?eC ?tC ?hC ?sC ?xv ?xs ?ha ?hn ?ht ?hm
    (case a1 => k_is); (case l1 => k_is); (case c1 => k_is); (case k1 => k_is)
    (case a2 => k_is); (case l2 => k_is); (case c2 => k_is); (case k2 => k_is)
    (case a3 => k_is); (case l3 => k_is); (case c3 => k_is); (case k3 => k_is)
    (case a4 => k_is); (case l4 => k_is); (case c4 => k_is); (case k4 => k_is)
    (case a5 => k_is); (case l5 => k_is); (case c5 => k_is); (case k5 => k_is)
    (case a6 => k_is); (case l6 => k_is); (case c6 => k_is); (case k6 => k_is)
    (case a7 => k_is); (case l7 => k_is); (case c7 => k_is); (case k7 => k_is)
    (case a8 => k_is); (case l8 => k_is); (case c8 => k_is); (case k8 => k_is)
    (case a9 => k_is); (case l9 => k_is); (case c9 => k_is); (case k9 => k_is)
    (case a10 => k_is); (case l10 => k_is); (case c10 => k_is); (case k10 => k_is)
    (case a11 => k_is); (case l11 => k_is); (case c11 => k_is); (case k11 => k_is)
    (case a12 => k_is); (case l12 => k_is); (case c12 => k_is); (case k12 => k_is)
    (case a13 => k_is); (case l13 => k_is); (case c13 => k_is); (case k13 => k_is)
    (case a14 => k_is); (case l14 => k_is); (case c14 => k_is); (case k14 => k_is)
    (case a15 => k_is); (case l15 => k_is); (case c15 => k_is); (case k15 => k_is)
    (case a16 => k_is); (case l16 => k_is); (case c16 => k_is); (case k16 => k_is)
    (case a17 => k_is); (case l17 => k_is); (case c17 => k_is); (case k17 => k_is)
    (case a18 => k_is); (case l18 => k_is); (case c18 => k_is); (case k18 => k_is)
    (case a19 => k_is); (case l19 => k_is); (case c19 => k_is); (case k19 => k_is)
    (case z1 => k_is)
    (case z2 => k_is)
    (case z3 => k_is)
    (case z4 => k_is)
    (case z5 => k_is)
    (case z6 => k_is)
    (case z7 => k_is)
    (case z8 => k_is)
    (case z9 => k_is)
    (case z10 => k_is)
    (case z11 => k_is)
    (case z12 => k_is)
    (case z13 => k_is)
    (case z14 => k_is)
    (case z15 => k_is)
    (case aL => k_is)
    (case aM => k_is)
    (case aC => k_is)
    (case aS => k_is)
    (case xL => k_is)
    (case sa => k_is)
    (case ga => k_is)
    (case gg => k_is)
    (case nE => k_is)
    (case nB => k_is)
    (case iC => k_is)
    (case tI => k_is)
    (case lI => k_is)
    (case cI => k_is)
    (case kI => k_is)
    (case kC => k_is)
    (case eC => k_is)
    (case tC => k_is)
    (case hC => k_is)
    (case sC => first | k_is | rfl | decide +kernel)
    (case xv => first | k_is | rfl | decide +kernel)
    (case xs => first | k_is | rfl | decide +kernel)
    (case ha => k_is)
    (case hn => first | k_is | rfl | decide +kernel)
    (case ht => first | k_is | rfl | decide +kernel)
    (case hm => first | k_is | rfl | decide +kernel)
#print axioms PySem.Challenge.cw_countedsteps_k02_joined_and_seen_holds
