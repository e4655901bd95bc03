import PyProof.Rows.All
import Wide.All
import OpenK.AllK
import Wide.FinOn
import HandS.ForMost
import HandS.Zip
import HandS.TupAny
import KE.KRevSl
import KE.GoesNew
import KE.KDictZip
import HandS.Walk
import HandS.Conv
import HandS.Flow
import HandS.IsInst
import HandS.Wide
import HandS.ForExc
import HandS.ExcInit
import HandS.ExcIs
import HandS.ExcField
import KE.KExcInit
import HandS.Defaults
import HandS.ExcValue
import HandS.SetFor
import KE.SortData
import HandS.Dict
import HandS.Iter
import HandS.Deep
import HandS.CallSlots
import HandS.Style
import HandS.Text
import PyProof.P3In
import HandS.RaiseMore
import HandS.Comp
import HandS.TryOnly
import HandS.WordsExc
import HandS.More
import HandS.Property
import HandS.DictComp
import HandS.Star
import KE.KOpsOwn
import HandS.Codes
import PyProof.Rows.SortStr
import PyProof.Rows.StrMeet
import HandS.Set
import KE.KTryMore
import KE.KDictPairs
import KE.KDictKeyed
import PyProof.InstNe
import PyProof.ListNew
import KE.DataFind
import HandS.ClsMeth
import HandS.FStr
import PyProof.StrLaws
import PyProof.Rows.RegStrFacts
import PyProof.ExcBaseAll.ValueError
import HandS.TupMul
import HandS.SetKeys
import HandS.Gcd
import HandS.WideBits
import KE.KMathGC
import KE.GoesZip
import KE.GoesMore
import PyProof.SumWalkG
import PyProof.EnumMake
import PySem.Challenge.RW_countedsteps_k16_determinants_and_orders
set_option Elab.async false
set_option linter.all false
set_option maxRecDepth 100000
set_option maxHeartbeats 2000000
/-! Rules that the hand layer lacks: the reversed slice, enumerate of a tuple, tuple(zip(..)) -/
namespace CS
open PySem PySem.Spec PyProof.Rows L2
/-! ### x[::-1] -/
end CS
namespace CS
open PySem PySem.Spec PyProof.Rows L2
/-! ### enumerate(x) of anything whose iterator is known -/
theorem enumB_new {v : Value} {ob : Obj} {Hh : Heap → Prop} (B : Begins v ob Hh) :
    Meets (Builtin.«enumerate.__new__» ⟨[.type "enumerate", v], []⟩) (fun _ R s => Hh s.heap ∧ R (.ok (.ret (.ref (s.heap.push ob).objs.size)))
      { s with heap := (s.heap.push ob).push { cls := .type "enumerate", data := .fields #[.none, .bool false, .ref s.heap.objs.size, rawInt 0, .none, .none] } }) :=
  .of_wp fun prog w A R s hst => by
    obtain ⟨hp, gn, dr, tk, os⟩ := s; obtain ⟨hh, hR⟩ := hst
    have subE := sub_enumerate
    have itr : ∀ {A' : Around} {E : Value → Shared → Prop} {Q : Value → Shared → Prop}, Q (.ref hp.objs.size) ⟨hp.push ob, gn, dr, tk, os⟩ → wpAny (model prog w) A' (pyIter v) Q E ⟨hp, gn, dr, tk, os⟩ :=
      fun q => B.iter prog w _ _ ⟨hp, gn, dr, tk, os⟩ _ hh q
    wp_walk using itr
    refine wpAny_stack_any fun st => wpAny_pure ?_
    split
    · rename_i c _ _ _ _ _
      cases (c == Value.type "enumerate")
      · wp_walk using itr
        exact ⟨_, rfl, hR⟩
      · wp_walk using itr
        exact ⟨_, rfl, hR⟩
    · wp_walk using itr
      exact ⟨_, rfl, hR⟩
section
variable {prog : Program} {w : World} {A : Around} {E : Value → Shared → Prop} {s : Shared}
theorem enumB_call {v : Value} {ob : Obj} {Hh : Heap → Prop} {Q : Value → Shared → Prop} (B : Begins v ob Hh) (hh : Hh s.heap)
    (hq : ∀ h', IsEnum h' (s.heap.objs.size + 1) s.heap.objs.size 0 .none → h'.get? s.heap.objs.size = some ob → h'.objs.size = s.heap.objs.size + 2 →
      (∀ c u, s.heap.get? c = some u → h'.get? c = some u) → Q (.ref (s.heap.objs.size + 1)) { s with heap := h' }) :
    wpAny (model prog w) A (call (.type "enumerate") [v]) Q E s := by
  refine callType_new F.called_enumerate (by decide) (F.typeCall_enumerate_1 _) (F.newCall_enumerate_1 _) (fun obj => F.args_object_init_2 obj _) F.entry_enumerate_new (enumB_new B) ⟨hh, ?_⟩
  have sz1 : (s.heap.push ob).objs.size = s.heap.objs.size + 1 := Heap.size_push ..
  show _ ∧ _
  rw [sz1]
  have at1 : IsEnum ((s.heap.push ob).push { cls := .type "enumerate", data := .fields #[.none, .bool false, .ref s.heap.objs.size, rawInt 0, .none, .none] }) (s.heap.objs.size + 1) s.heap.objs.size 0 .none := by
    have q := Heap.get?_push_size (s.heap.push ob) (o := { cls := .type "enumerate", data := .fields #[.none, .bool false, .ref s.heap.objs.size, rawInt 0, .none, .none] }) rfl
    rw [sz1] at q
    exact q
  exact ⟨⟨_, at1, rfl⟩, hq _ at1 (Heap.get?_push_of_some _ (Heap.get?_push_size _ B.free)) (by rw [Heap.size_push, sz1]) fun c u z => Heap.get?_push_of_some _ (Heap.get?_push_of_some _ z)⟩
end
/-- the pairs (0, x), (1, y), .. of the tuple at a -/
def IteT (K : PySem.W.Frag) (a : Addr) : It :=
  ⟨fun i H => ∃ (xs : List V) (x : V), SqT K H a xs ∧ xs[i]? = some x, fun i H v H' => ∃ (T : Addr) (x : V), v = .ref T ∧ H T = none ∧ H' = upd H T (.tup [.int (i : Nat), x]) ∧ ∀ ys, SqT K H a ys → ys[i]? = some x,
   fun i H => ∃ ys : List V, SqT K H a ys ∧ ys.length ≤ i⟩
theorem turn_enumT {P : Program} {w : World} {K : PySem.W.Frag} {elts : List Expr} {kk : Nat} {tpos : Pos} (a e it : Addr) :
    Turn P w K (.Tuple elts kk tpos) (IteT K a) [e, it] e (fun i h => (∃ old, IsEnum h e it ((i : Nat) : Int) old) ∧ h.IsTupleIter it a i ∧ e ≠ it) where
  mem := by simp
  obj := fun i h st b hb => by
    obtain ⟨⟨old, he⟩, ⟨ob, ho, _, hd⟩, _⟩ := st
    have hb' : b = e ∨ b = it := by simpa using hb
    rcases hb' with rfl | rfl
    · exact ⟨_, he, fun v q => nomatch q⟩
    · exact ⟨ob, ho, fun v q => by rw [hd] at q; cases q⟩
  keep := fun i h h' st kp => by
    obtain ⟨⟨old, he⟩, hi, hne⟩ := st
    exact ⟨⟨old, kp e (by simp) _ he⟩, hi.at fun u q => kp it (by simp) u q, hne⟩
  item := by
    intro X eP ew eK cm i pins s σ H E I fpo st gg
    subst eP ew eK
    obtain ⟨⟨old, he⟩, hit, hne⟩ := st
    obtain ⟨xs, x, hsq, hx⟩ := gg
    obtain ⟨its, rv, pt, _⟩ := I.tuple hsq
    obtain ⟨u, hu, ru⟩ := rv.get hx
    have hel : e < s.heap.objs.size := Heap.lt_size he
    have hil : it < s.heap.objs.size := by obtain ⟨_, q, _⟩ := hit; exact Heap.lt_size q
    have eT : e ≠ a := fun z => by
      obtain ⟨ot, hot, hct, _⟩ := pt
      rw [← z, he] at hot
      cases hot
      exact absurd (Value.type.inj hct) (by decide)
    have iT : a ≠ it := fun z => by
      obtain ⟨oi, hoi, hci, _⟩ := hit
      obtain ⟨ot, hot, hct, _⟩ := pt
      rw [z, hoi] at hot
      cases hot
      rw [hci] at hct
      exact absurd (Value.type.inj hct) (by decide)
    have D := Draws.tuple (prog := X.prog) (w := X.w) (A := X.A.in1) (I.ok.hd cm) it a iT its.toArray
    have hlt : i < its.toArray.size := by
      have q := (List.getElem?_eq_some_iff.mp hu).1
      simpa using q
    refine wpAny_pyNext_enum_itemD D he ⟨hit, pt⟩ hlt hne (by simp [hne, eT]) fun y h' tk hP ho sn hT hsz hk => ?_
    have ey : y = u := by
      have q : its[i]? = some y := by simpa using hP
      rw [hu] at q
      exact (Option.some.inj q).symm
    subst ey
    refine ⟨_, rfl, wpAny_letOwnedTupleGo_enum (s := { s with heap := h', toks := tk + 1 }) ho fun h2 he2 sb => ?_⟩
    have hT2 : h2.get? s.heap.objs.size = some { cls := .type "tuple", data := .seq #[.int i tk, y] } := (sb.2 _ (Nat.ne_of_gt hel)).trans hT
    have nw : ObjOk X.prog X.w (upd H s.heap.objs.size (.tup [.int (i : Nat), x])) h2 s.heap.objs.size (.tup [.int (i : Nat), x]) :=
      ⟨by show 2 ≤ sizeLine; decide, [.int i tk, y], .cons ⟨_, rfl⟩ (.cons ru .nil), ⟨_, hT2, rfl, _, rfl⟩⟩
    have I1 : Inv X pins σ (upd H s.heap.objs.size (.tup [.int (i : Nat), x])) { s with heap := h2, toks := tk + 1 } :=
      I.turnedNew (ch := [e, it]) (fun b ob hb q => (sb.2 b (fun z => hb (by simp [z]))).trans (hk b ob (fun z => hb (by simp [z])) (fun z => hb (by simp [z])) q)) fpo (Nat.le_refl _) nw
    refine ⟨.ref s.heap.objs.size, _, I1, rfl, ⟨_, x, rfl, I.hok.fresh (Nat.le_refl _), rfl, fun ys hy => by rw [I.tuple_inj hy hsq]; exact hx⟩, ⟨⟨y, ?_⟩, sn.1.at fun u q => (sb.2 it (Ne.symm hne)).trans q, hne⟩, fun b hb => ?_⟩
    · have e1 : ((i + 1 : Nat) : Int) = (i : Int) + 1 := by omega
      rw [e1]
      exact he2
    · have hb' : b < s.heap.objs.size := by
        have z : b = e ∨ b = it := by simpa using hb
        rcases z with z | z
        · rw [z]; exact hel
        · rw [z]; exact hil
      rw [upd_ne (Nat.ne_of_lt hb')]
      exact (fpo b hb).1
  done := by
    intro X eP ew eK cm i pins s σ H E I fpo st gg
    subst eP ew eK
    obtain ⟨⟨old, he⟩, hit, hne⟩ := st
    obtain ⟨ys, hsq, hle⟩ := gg
    obtain ⟨its, rv, pt, _⟩ := I.tuple hsq
    obtain ⟨f0, f1, f2, f3, f4, f5⟩ := fpo it (by simp)
    have iT : a ≠ it := fun z => by
      obtain ⟨oi, hoi, hci, _⟩ := hit
      obtain ⟨ot, hot, hct, _⟩ := pt
      rw [z, hoi] at hot
      cases hot
      rw [hci] at hct
      exact absurd (Value.type.inj hct) (by decide)
    have hlen := rv.length
    have hnone : its.toArray[i]? = none := by simp; omega
    have hty : s.TypeIs (.ref e) "enumerate" := ⟨_, he, rfl⟩
    unfold pyNext
    refine wpAny_bind (wpAny_attempt (wpAny_callSpecial?_slot (name := Str.ofString "__next__") hty F.slot_enumerate_next (wpAny_call_entry F.slot_enumerate_next hty F.entry_enumerate_next ?_ (F.args_enumerate_next_1 _))))
    show wpAny _ _ (field (.ref e) 2 >>= _) _ _ _
    refine wpAny_bind (wpAny_field he rfl (x := .ref it) rfl (wpAny_bind (RZ.nextOf_tuple_end (I.ok.hd cm) hit pt hnone fun h' xx hk hx' => ?_)))
    obtain ⟨ob, ho, hcl⟩ := hx'
    refine wpAny_bind (wpAny_isInstance (T := "StopIteration") (b := true) ⟨ob, ho, hcl⟩ isSubtype_stop ?_)
    exact wpAny_pure ⟨rfl, I.turned (t' := s.toks) (fun b u hb q => hk b u hb q) f0 f1 f3 f4 f5⟩
  self := fun A i s Q E st hq => by
    obtain ⟨⟨_, he⟩, _⟩ := st
    exact wpAny_pyIter_enum he hq
def iEnumT (K : PySem.W.Frag) (ta : TA) : TI := fun σ H R => ta σ H fun vs H1 => ∃ (a : Addr) (xs : List V), vs = [.ref a] ∧ ((SqT K H1 a xs ∧ R (IteT K a) H1) ∨ (SqL K H1 a xs ∧ R (Ite K a) H1))
theorem pi_enumT {X : Cx} {e : Expr} {ta : TA} {p pos tpos : Pos} {elts : List Expr} {kk : Nat} (gE : Gl X "enumerate") (mE : X.mg "enumerate" = none) (ha : PA X [e] ta) (hs : starEach [e] X.env = [(false, eval e X.env)] := by rfl) :
    PI X (.Tuple elts kk tpos) (.Call (.Name "enumerate" p) [e] [] pos) (iEnumT X.K ta) := by
  refine ⟨fun pins s0 σ H0 R I0 hw => ?_⟩
  refine Call_ (ld_blt I0 gE mE boot_enumerate (PyProof.Rows.callWith_type1 (thn (ha.run pos pins s0 σ H0 _ I0 hw) fun us s1 ⟨vs, H1, I1, r1, q1⟩ => ?_) hs rfl))
  obtain ⟨a, xs, rfl, q⟩ := q1
  obtain ⟨u, rfl, rx⟩ := vals1 r1
  cases rx
  have fr : ∀ b, b ∈ [s1.heap.objs.size + 1, s1.heap.objs.size] → FpOk X pins H1 b := fun b hb => by
    have z : b = s1.heap.objs.size + 1 ∨ b = s1.heap.objs.size := by simpa using hb
    have hle : s1.heap.objs.size ≤ b := by omega
    exact I1.fpOk hle (I1.hok.fresh hle)
  rcases q with ⟨hq, q⟩ | ⟨hq, q⟩
  · obtain ⟨its, rv, pt, _⟩ := I1.tuple hq
    refine enumB_call (begins_tuple a its.toArray) pt fun h' he ho hsz hk => wpAny_pyIter_enum he ?_
    exact ⟨s1.heap.objs.size + 1, [s1.heap.objs.size + 1, s1.heap.objs.size], _, _, H1, rfl, I1.kept (t' := s1.toks) hk, turn_enumT a _ _, ⟨⟨_, he⟩, ⟨_, ho, rfl, rfl⟩, Nat.succ_ne_self _⟩, fr, q⟩
  · obtain ⟨its, rv, pt, _⟩ := I1.list hq
    refine enumB_call (begins_list a its.toArray) pt.isList fun h' he ho hsz hk => wpAny_pyIter_enum he ?_
    exact ⟨s1.heap.objs.size + 1, [s1.heap.objs.size + 1, s1.heap.objs.size], _, _, H1, rfl, I1.kept (t' := s1.toks) hk, turn_enum a _ _, ⟨⟨_, he⟩, ⟨_, ho, rfl, rfl⟩, Nat.succ_ne_self _⟩, fr, q⟩
theorem walk_enumT {K : PySem.W.Frag} {a : Addr} {xs : List V} : Walk (IteT K a) xs.length (fun H => SqT K H a xs) (YPair (fun i => some (.int (i : Nat))) (fun i => xs[i]?)) := by
  refine ⟨fun i _ hi q => ⟨xs, xs[i], q, by simp [hi]⟩, fun _ q => ⟨xs, q, Nat.le_refl _⟩, fun i H v H' _ q y => ?_⟩
  obtain ⟨T, x, e1, e2, e3, e4⟩ := y
  exact ⟨T, .int (i : Nat), x, e1, e2, e3, rfl, e4 xs q⟩
end CS
namespace CS
open PySem PySem.Spec PyProof.Rows L2
end CS
namespace CS
open PySem PySem.Spec PyProof.Rows L2
end CS
namespace CS
open PySem PySem.Spec PyProof.Rows L2
end CS
namespace K16
open PySem PySem.Spec PyProof.Rows L2 CS
def top (i : Nat) : Stmt := PySem.Challenge.pw_countedsteps_k16_determinants_and_orders.main.body.getD i (.Pass ⟨0, 0, 0, 0⟩)
abbrev sBox : Stmt := top 6
abbrev sTake : Stmt := top 7
abbrev sCells : Stmt := top 8
abbrev sSame : Stmt := top 11
abbrev sLaw : Stmt := top 17
abbrev clsBody (st : Stmt) : List Stmt := match st with | .ClassDef _ _ _ b _ _ _ _ _ _ _ => b | _ => []
/-! ### heaps and lists -/
theorem same_upd {H : Hp} {p : Addr} {o : HO} (h : H p = none) : Same H (upd H p o) := fun b x e => by
  rw [upd_ne (ne_of_none e h)]
  exact e
theorem sqT_same {K : PySem.W.Frag} {H H' : Hp} {a : Addr} {xs : List V} (e : Same H H') (h : SqT K H a xs) : SqT K H' a xs := by
  rcases h with (h | ⟨o, h⟩) | h
  · exact .inl (.inl (e _ _ h))
  · exact .inl (.inr ⟨o, e _ _ h⟩)
  · exact .inr h
/-- a tuple or a list of texts -/
def Jr (K : PySem.W.Frag) (H : Hp) (a : Addr) (ss : List Str) : Prop := SqT K H a (ss.map V.str) ∨ SqL K H a (ss.map V.str)
theorem Jr.keep {K : PySem.W.Frag} {H H' : Hp} {a : Addr} {ss : List Str} (h : Jr K H a ss) (s : Same H H') : Jr K H' a ss := by
  rcases h with h | h
  · exact .inl (sqT_same s h)
  · exact .inr (s.seq h)
end K16
namespace K16
open PySem PySem.Spec PyProof.Rows L2 CS
/-- all but b is as it was -/
def Keep (b : Addr) (H H' : Hp) : Prop := ∀ c o, c ≠ b → H c = some o → H' c = some o
theorem Keep.refl (b : Addr) (H : Hp) : Keep b H H := fun _ _ _ e => e
theorem Keep.trans {b : Addr} {H H1 H2 : Hp} (x : Keep b H H1) (y : Keep b H1 H2) : Keep b H H2 := fun c o n e => y c o n (x c o n e)
theorem Keep.upd {b : Addr} (H : Hp) (o : HO) : Keep b H (L2.upd H b o) := fun c u n e => by rw [upd_ne n]; exact e
theorem Keep.sqL {K : PySem.W.Frag} {b a : Addr} {H H' : Hp} {xs : List V} (x : Keep b H H') (n : a ≠ b) (h : SqL K H a xs) : SqL K H' a xs := by
  rcases h with (h | ⟨o, h⟩) | h
  · exact .inl (.inl (x _ _ n h))
  · exact .inl (.inr ⟨o, x _ _ n h⟩)
  · exact .inr h
theorem b01 (c : Bool) : 0 ≤ (if c = true then (1 : Int) else 0) ∧ (if c = true then (1 : Int) else 0) ≤ 1 := by cases c <;> decide
theorem abs0 (i : Int) : 0 ≤ (if i < 0 then -i else i) := by split <;> omega
theorem mul01 (i : Int) (c : Bool) : CMul i (if c = true then (1 : Int) else 0) := by
  have q := b01 c
  exact .inr ⟨by omega, by omega⟩
theorem dv64 (i : Int) : CDivN i 64 := ⟨by decide, by decide⟩
theorem dvM (i : Int) : CDivN i 1000003 := ⟨by decide, by decide⟩
section
variable {P : Program} {w : World} {K : PySem.W.Frag} {mg : Str → Option Value} {base : Heap}
/-! ### the box of draws -/
/-- a box at b: what is left of the number, the seed, how often it was asked -/
def BoxAt (H : Hp) (b : Addr) (n : Nat) : Prop := ∃ A B C : Int, H b = some (.lst [.int A, .int B, .int C]) ∧ 0 ≤ A ∧ 0 ≤ B ∧ B < 2 ^ 62 ∧ 0 ≤ C ∧ C ≤ n
def spBox (K : PySem.W.Frag) : Sp := fun vs H Q _ => ∃ (a : Addr) (ns : List Int) (k : Nat), vs = [.ref a, .int (k : Nat)] ∧ SqL K H a (ns.map V.int) ∧ k < ns.length ∧ ns.length ≤ 1000 ∧ ∀ (H' : Hp) (p : Addr), Same H H' → H p = none → BoxAt H' p 0 → Q (.ref p) H'
theorem scBox : FnScope ["_law_script", "_law_k", "_law_cell"] ["_law_script", "_law_k"] (defScope sBox) := ⟨rfl, rfl, rfl, by decide +kernel, rfl, by decide +kernel, by decide +kernel⟩
theorem ok_box {f : Addr} {fd : FuncData} {k : Nat} (F : Fun K "_law_box" "_law_box" sBox f fd) (ml : mg "len" = none) (ma : mg "abs" = none) (mi : mg "int" = none) : FnOk P w K mg base CX0 (k + 1) f fd ["_law_script", "_law_k"] (spBox K) := by
  refine F.ok scBox (fun vs H Q E h => ?_) (fun cdv A outer s H vs Q E hr h => ?_)
  · obtain ⟨a, ns, k, rfl, _⟩ := h
    rfl
  · obtain ⟨a, ns, k, rfl, hS, hk, h1, q⟩ := h
    refine ⟨_, pss_cons (ps_set (i := 2) scBox.nd rfl (.inl rfl) (pe_ifExp (pt_cmpR op_lt (pv 1) (pe_callB call_len_seq (by rfl) ml PySem.boot_len (pa_cons (pv 0) pa_nil)) (nomark _)) (pe_ix ix_list (pv 0) (pv 1) (fun _ _ => rfl)) pe_int))
      (pss_one (ps_ret (pe_lst (pa_cons (pe_op op_mul (pe_callB call_abs (by rfl) ma (by decide +kernel) (pa_cons (pv 2) pa_nil)) (pe_callTy call_int1 (by rfl) mi (by decide +kernel) (pa_cons (pe_cmpR op_ge (pe_callB call_abs (by rfl) ma (by decide +kernel) (pa_cons (pv 2) pa_nil)) (pe_op op_pow pe_int pe_int) (nomark _)) pa_nil)))
        (pa_cons (pe_op op_add (pe_op op_add (pe_op op_modN (pe_callTy call_int1 (by rfl) mi (by decide +kernel) (pa_cons (pv 2) pa_nil)) pe_int) (pe_op op_mul pe_int (pv 1))) pe_int) (pa_cons pe_int pa_nil)))))), ?_⟩
    have hx : (ns.map V.int)[k]? = some (.int ns[k]) := by rw [List.getElem?_map, List.getElem?_eq_getElem hk]; rfl
    have hd : decide ((k : Int) < ((ns.map V.int).length : Nat)) = true := decide_eq_true (by rw [List.length_map]; omega)
    refine ⟨.int (k : Nat), rfl, .ref a, rfl, a, _, rfl, .inl hS, _, _, rfl, rfl, _, rfl, ?_⟩
    rw [hd]
    refine ⟨.ref a, rfl, .int (k : Nat), rfl, a, _, _, _, rfl, rfl, hS, atI_nat hx, ?_⟩
    have e1 := Int.fmod_nonneg_of_pos ns[k] (b := 2305843009213693951) (by decide)
    have e2 := Int.fmod_lt_of_pos ns[k] (b := 2305843009213693951) (by decide)
    refine ⟨.int ns[k], rfl, _, rfl, .int ns[k], rfl, _, rfl, 10, 18, rfl, rfl, ⟨by decide, by decide, by decide⟩, _, _, rfl, rfl, .inr ⟨_, rfl, _, _, rfl, rfl, mul01 _ _, ?_⟩⟩
    refine ⟨.int ns[k], rfl, .inl ⟨_, rfl, _, _, rfl, rfl, (by show (2305843009213693951 : Int) ≠ 0; decide), _, rfl, _, _, rfl, rfl, .inl (by decide), _, _, rfl, rfl, _, _, rfl, rfl, ?_⟩⟩
    refine ⟨by show 3 ≤ sizeLine; decide, fun p np => q _ p (same_upd np) np ?_⟩
    refine ⟨_, _, 0, upd_same, Int.mul_nonneg (abs0 _) (b01 _).1, ?_, ?_, Int.le_refl 0, Int.le_refl 0⟩
    · have : (0 : Int) ≤ k := Int.natCast_nonneg k
      omega
    · have : (k : Int) < 1000 := by omega
      omega
/-! ### a draw -/
def spTake : Sp := fun vs H Q _ => ∃ (b : Addr) (n : Nat) (m : Int), vs = [.ref b, .int m] ∧ BoxAt H b n ∧ n ≤ 1000000 ∧ 0 < m ∧ m < 2 ^ 200 ∧ ∀ (H' : Hp) (r : Int), Keep b H H' → BoxAt H' b (n + 1) → 0 ≤ r → r < m → Q (.int r) H'
theorem scTake : FnScope ["_law_box_here", "_law_below", "_law_digit_so", "_law_once", "_law_odd", "_law_twice"] ["_law_box_here", "_law_below"] (defScope sTake) := ⟨rfl, rfl, rfl, by decide +kernel, rfl, by decide +kernel, by decide +kernel⟩
theorem ok_take {f : Addr} {fd : FuncData} {k : Nat} (F : Fun K "_law_take" "_law_take" sTake f fd) (mi : mg "int" = none) : FnOk P w K mg base CX0 (k + 1) f fd ["_law_box_here", "_law_below"] spTake := by
  refine F.ok scTake (fun vs H Q E h => ?_) (fun cdv A outer s H vs Q E hr h => ?_)
  · obtain ⟨b, n, m, rfl, _⟩ := h
    rfl
  · obtain ⟨b, n, m, rfl, ⟨A, B, C, hb, hA, hB, hB2, hC, hC2⟩, hn, hm, hm2, q⟩ := h
    refine ⟨_, pss_cons (ps_if (pt_cmpR op_gt (pe_ix ix_list (pv 0) pe_int (fun _ _ => rfl)) pe_int (nomark _))
        (pss_cons (ps_set (i := 2) scTake.nd rfl (.inl rfl) (pe_op op_modN (pe_callTy call_int1 (by rfl) mi (by decide +kernel) (pa_cons (pe_ix ix_list (pv 0) pe_int (fun _ _ => rfl)) pa_nil)) (pv 1)))
          (pss_cons (ps_asg (pe_op op_fdivW (pe_ix ix_list (pv 0) pe_int (fun _ _ => rfl)) (pv 1)) (pg_sub (pv 0) pe_int set_list)) (pss_one (ps_ret (pv 2))))) pss_nil)
      (pss_cons (ps_asg (pe_op op_add (pe_ix ix_list (pv 0) pe_int (fun _ _ => rfl)) pe_int) (pg_sub (pv 0) pe_int set_list))
      (pss_cons (ps_set (i := 3) scTake.nd rfl (.inl rfl) (pe_op op_modN (pe_callTy call_int1 (by rfl) mi (by decide +kernel) (pa_cons (pe_op op_mul (pe_op op_add (pe_ix ix_list (pv 0) pe_int (fun _ _ => rfl)) (pe_op op_mul pe_int (pe_ix ix_list (pv 0) pe_int (fun _ _ => rfl)))) (pe_op op_add pe_int (pe_ix ix_list (pv 0) pe_int (fun _ _ => rfl)))) pa_nil)) pe_int))
      (pss_cons (ps_set (i := 4) scTake.nd rfl (.inl rfl) (pe_op op_add (pe_op op_modN (pe_callTy call_int1 (by rfl) mi (by decide +kernel) (pa_cons (pv 3) pa_nil)) pe_int) pe_int))
      (pss_cons (ps_set (i := 5) scTake.nd rfl (.inl rfl) (pe_op op_modN (pe_callTy call_int1 (by rfl) mi (by decide +kernel) (pa_cons (pe_op op_mul (pe_op op_add (pe_op op_add (pv 3) (pe_ix ix_list (pv 0) pe_int (fun _ _ => rfl))) (pe_op op_fdivN (pe_ix ix_list (pv 0) pe_int (fun _ _ => rfl)) pe_int)) (pv 4)) pa_nil)) pe_int))
      (pss_one (ps_ret (pe_op op_modN (pe_callTy call_int1 (by rfl) mi (by decide +kernel) (pa_cons (pe_op op_fdivN (pe_op op_modN (pe_callTy call_int1 (by rfl) mi (by decide +kernel) (pa_cons (pe_op op_add (pe_op op_mul (pv 5) pe_int) (pv 3)) pa_nil)) pe_int) pe_int) pa_nil)) (pv 1)))))))), ?_⟩
    refine ⟨.ref b, rfl, b, _, 0, .int A, rfl, rfl, SqL.of hb, atI_nat (j := 0) rfl, _, _, rfl, rfl, _, rfl, ?_⟩
    refine ite2 (fun c => ?_) (fun c => ?_)
    · have hg : 0 < A := of_decide_eq_true c
      have r0 := Int.fmod_nonneg_of_pos A hm
      have r1 := Int.fmod_lt_of_pos A hm
      have d0 : 0 ≤ A / m := Int.ediv_nonneg hA (Int.le_of_lt hm)
      refine ⟨.ref b, rfl, b, _, 0, .int A, rfl, rfl, SqL.of hb, atI_nat (j := 0) rfl, .inl ⟨A, rfl, .int m, rfl, A, m, rfl, rfl, by omega, ?_⟩⟩
      refine ⟨.ref b, rfl, b, _, 0, .int A, rfl, rfl, SqL.of hb, atI_nat (j := 0) rfl, .int m, rfl, A, m, rfl, rfl, wide_div hm (b := 200) (by omega) (by decide) (by decide), ?_⟩
      refine ⟨.ref b, rfl, b, _, 0, 0, rfl, rfl, hb, rfl, ?_⟩
      refine ⟨_, rfl, ?_⟩
      exact q _ _ (Keep.upd H _) ⟨_, B, C, upd_same, d0, hB, hB2, hC, by omega⟩ r0 r1
    · refine ⟨.ref b, rfl, b, _, 2, .int C, rfl, rfl, SqL.of hb, atI_nat (j := 2) rfl, _, _, rfl, rfl, ?_⟩
      refine ⟨.ref b, rfl, b, _, 2, 2, rfl, rfl, hb, rfl, ?_⟩
      have hb2 : SqL K (upd H b (.lst [.int A, .int B, .int (C + 1)])) b [.int A, .int B, .int (C + 1)] := SqL.of upd_same
      have i1 : atI [V.int A, V.int B, V.int (C + 1)] 1 = some (V.int B) := atI_nat (j := 1) rfl
      have i2 : atI [V.int A, V.int B, V.int (C + 1)] 2 = some (V.int (C + 1)) := atI_nat (j := 2) rfl
      refine ⟨.ref b, rfl, b, _, 1, .int B, rfl, rfl, hb2, i1, .ref b, rfl, b, _, 2, .int (C + 1), rfl, rfl, hb2, i2, _, _, rfl, rfl, .inl (by decide), _, _, rfl, rfl, .ref b, rfl, b, _, 2, .int (C + 1), rfl, rfl, hb2, i2, _, _, rfl, rfl,
        _, _, rfl, rfl, .inr (by omega), .inl ⟨_, rfl, _, _, rfl, rfl, (by show (2147483647 : Int) ≠ 0; decide), ?_⟩⟩
      have o0 := Int.fmod_nonneg_of_pos ((B + 48271 * (C + 1)) * (39373 + (C + 1))) (b := 2147483647) (by decide)
      have o1 := Int.fmod_lt_of_pos ((B + 48271 * (C + 1)) * (39373 + (C + 1))) (b := 2147483647) (by decide)
      dsimp only
      revert o0 o1
      generalize Int.fmod ((B + 48271 * (C + 1)) * (39373 + (C + 1))) 2147483647 = o
      intro o0 o1
      refine ⟨.int o, rfl, .inl ⟨_, rfl, _, _, rfl, rfl, (by show (40009 : Int) ≠ 0; decide), _, _, rfl, rfl, ?_⟩⟩
      have v0 := Int.fmod_nonneg_of_pos o (b := 40009) (by decide)
      have v1 := Int.fmod_lt_of_pos o (b := 40009) (by decide)
      dsimp only
      revert v0 v1
      generalize Int.fmod o 40009 = v
      intro v0 v1
      refine ⟨.int o, rfl, .ref b, rfl, b, _, 2, .int (C + 1), rfl, rfl, hb2, i2, _, _, rfl, rfl, .ref b, rfl, b, _, 1, .int B, rfl, rfl, hb2, i1, _, _, rfl, rfl, dvM _, _, _, rfl, rfl, .int (v + 7), rfl, _, _, rfl, rfl, .inr (by omega),
        .inl ⟨_, rfl, _, _, rfl, rfl, (by show (2147483629 : Int) ≠ 0; decide), ?_⟩⟩
      refine ⟨.int _, rfl, _, _, rfl, rfl, .inr (by decide), .int o, rfl, _, _, rfl, rfl, .inl ⟨_, rfl, _, _, rfl, rfl, (by show (2147483587 : Int) ≠ 0; decide), _, _, rfl, rfl, dv64 _, .inl ⟨_, rfl, .int m, rfl, _, _, rfl, rfl, (by omega), ?_⟩⟩⟩
      exact q _ _ (Keep.upd H _) ⟨A, B, C + 1, upd_same, hA, hB, hB2, by omega, by omega⟩ (Int.fmod_nonneg_of_pos _ hm) (Int.fmod_lt_of_pos _ hm)
end
end K16
namespace K16
open PySem PySem.Spec PyProof.Rows L2 CS
theorem BoxAt.same {H H' : Hp} {b : Addr} {n : Nat} (h : BoxAt H b n) (s : Same H H') : BoxAt H' b n := by
  obtain ⟨A, B, C, e, r⟩ := h
  exact ⟨A, B, C, s _ _ e, r⟩
theorem BoxAt.up {H : Hp} {b : Addr} {n m : Nat} (h : BoxAt H b n) (l : n ≤ m) : BoxAt H b m := by
  obtain ⟨A, B, C, e, a1, a2, a3, a4, a5⟩ := h
  exact ⟨A, B, C, e, a1, a2, a3, a4, by omega⟩
end K16
namespace K16
open PySem PySem.Spec PyProof.Rows L2 CS RZ
/-! ### same -/
def okD : Nat → PyData → Prop
  | 0, _ => False
  | _ + 1, .int _ => True
  | _ + 1, .str _ => True
  | _ + 1, .bool _ => True
  | _ + 1, .none => True
  | n + 1, .list ds => ds.length ≤ 1000 ∧ ∀ d ∈ ds, okD n d
  | n + 1, .tuple ds => ds.length ≤ 1000 ∧ ∀ d ∈ ds, okD n d
  | _ + 1, _ => False
mutual
theorem dp_same {K : PySem.W.Frag} {H H' : Hp} (s : Same H H') : ∀ {v : V} {d : PyData}, Dp K H v d → Dp K H' v d
  | _, _, .non => .non
  | _, _, .bl b => .bl b
  | _, _, .int i => .int i
  | _, _, .str x => .str x
  | _, _, .lst q r => .lst (s.seq q) (dp_sameAll s r)
  | _, _, .tup q r => .tup (sqT_same s q) (dp_sameAll s r)
theorem dp_sameAll {K : PySem.W.Frag} {H H' : Hp} (s : Same H H') : ∀ {vs : List V} {ds : List PyData}, DpAll K H vs ds → DpAll K H' vs ds
  | _, _, .nil => .nil
  | _, _, .cons q r => .cons (dp_same s q) (dp_sameAll s r)
end
theorem dpAll_len {K : PySem.W.Frag} {H : Hp} : ∀ {ds : List PyData} {vs : List V}, DpAll K H vs ds → vs.length = ds.length
  | _, _, .nil => rfl
  | _, _, .cons _ r => congrArg (· + 1) (dpAll_len r)
theorem dpAll_at {K : PySem.W.Frag} {H : Hp} : ∀ {ds : List PyData} {vs : List V}, DpAll K H vs ds → ∀ {i : Nat} {v : V}, vs[i]? = some v → ∃ d, ds[i]? = some d ∧ Dp K H v d
  | _, _, .nil, i, _, h => by cases h
  | _, _, .cons q r, 0, _, h => by cases h; exact ⟨_, rfl, q⟩
  | _, _, .cons q r, i + 1, v, h => dpAll_at r (i := i) h
theorem tyL {K : PySem.W.Frag} {H : Hp} {a : Addr} {xs : List V} (h : SqL K H a xs) : TyX K H (.ref a) (.type "list") := by
  rcases h with (h | ⟨o, h⟩) | ⟨o, its, n, h, c, _⟩
  · exact .base (.lst h)
  · exact .base (.frz h)
  · exact .kList h c
theorem tyT {K : PySem.W.Frag} {H : Hp} {a : Addr} {xs : List V} (h : SqT K H a xs) : TyX K H (.ref a) (.type "tuple") := by
  rcases h with (h | ⟨o, h⟩) | ⟨o, its, n, h, c, _⟩
  · exact .base (.tup h)
  · exact .fTuple h
  · exact .kTuple h c
theorem walk_zipT {K : PySem.W.Frag} {a b : Addr} {xs ys : List V} {n : Nat} (hn : n = min xs.length ys.length) : Walk (ItzT K a b) n (fun H => SqT K H a xs ∧ SqT K H b ys) (YPair (fun i => xs[i]?) (fun i => ys[i]?)) := by
  subst hn
  refine ⟨fun i H hi q => ?_, fun H q => ⟨xs, ys, q.1, q.2, by omega⟩, fun i H v H' hi q y => ?_⟩
  · have l1 : i < xs.length := by omega
    have l2 : i < ys.length := by omega
    exact ⟨xs, ys, xs[i], ys[i], q.1, q.2, by simp [l1], by simp [l2]⟩
  · obtain ⟨T, x, z, e1, e2, e3, e4, e5⟩ := y
    exact ⟨T, x, z, e1, e2, e3, e4 xs q.1, e5 ys q.2⟩
section
variable {P : Program} {w : World} {K : PySem.W.Frag} {mg : Str → Option Value} {base : Heap}
def spSame (K : PySem.W.Frag) (n : Nat) : Sp := fun vs H Q _ => ∃ (x y : V) (d : PyData), vs = [x, y] ∧ Dp K H x d ∧ Dp K H y d ∧ okD n d ∧ ∀ H' : Hp, Same H H' → Q (.bl true) H'
/-- what the top says of the built-ins that same asks -/
structure SmT (mg : Str → Option Value) : Prop where
  is : mg "isinstance" = none
  li : mg "list" = none
  tu : mg "tuple" = none
  le : mg "len" = none
  al : mg "all" = none
  zi : mg "zip" = none
  bo : mg "bool" = none
  st : mg "str" = none
  int : mg "int" = none
abbrev nSame : List Str := ["_law_got", "_law_due", "_law_mine", "_law_its"]
theorem scSame : FnScope nSame ["_law_got", "_law_due"] (defScope sSame) := ⟨rfl, rfl, rfl, by decide +kernel, rfl, by decide +kernel, by decide +kernel⟩
theorem same_none {f : Addr} {fd : FuncData} : FnOk P w K mg base CX0 0 f fd ["_law_got", "_law_due"] (spSame K 0) := by
  have no : ∀ vs H Q E, ¬ spSame K 0 vs H Q E := fun vs H Q E h => by
    obtain ⟨_, _, d, _, _, _, h, _⟩ := h
    cases d <;> exact h
  exact ⟨fun vs H Q E h => absurd h (no vs H Q E), fun A outer s H args us vs Q E _ _ _ _ h => absurd h (no vs H Q E)⟩
theorem isi_one {t c : String} {b : Bool} (h : kitB t c = some b) : PySem.W.kitOne K (.type t) (.type c) = some b := kit_ty h
theorem any_ff {t a b : String} (h1 : kitB t a = some false) (h2 : kitB t b = some false) : PySem.W.kitAny K (.type t) [.type a, .type b] = some false :=
  kitAny_cons (kit_ty h1) (fun _ => kitAny_cons (kit_ty h2) (fun _ => kitAny_nil) fun z => nomatch z) fun z => nomatch z
theorem any_t {t a b : String} (h1 : kitB t a = some true) : PySem.W.kitAny K (.type t) [.type a, .type b] = some true := kitAny_cons (kit_ty h1) (fun z => nomatch z) fun _ => rfl
theorem any_ft {t a b : String} (h1 : kitB t a = some false) (h2 : kitB t b = some true) : PySem.W.kitAny K (.type t) [.type a, .type b] = some true :=
  kitAny_cons (kit_ty h1) (fun _ => kitAny_cons (kit_ty h2) (fun z => nomatch z) fun _ => rfl) fun _ => rfl
theorem all_yes : ∀ n : Nat, (List.replicate n true).all id = true
  | 0 => rfl
  | n + 1 => by
    rw [List.replicate_succ, List.all_cons, all_yes n]
    rfl
theorem ok_same {n : Nat} {f : Addr} {fd : FuncData} (F : Fun K "_law_same" "_law_same" sSame f fd) (G : FnOk P w K mg base CX0 n f fd ["_law_got", "_law_due"] (spSame K n)) (bG : Binds K fd ["_law_got", "_law_due"] []) (mG : mg "_law_same" = some (.ref f)) (T : SmT mg) :
    FnOk P w K mg base CX0 (n + 1) f fd ["_law_got", "_law_due"] (spSame K (n + 1)) := by
  refine F.ok scSame (fun vs H Q E h => ?_) (fun cdv A outer s H vs Q E hr h => ?_)
  · obtain ⟨x, y, d, rfl, _⟩ := h
    rfl
  · obtain ⟨x, y, d, rfl, hx, hy, hd, q⟩ := h
    refine ⟨_, pss_cons (ps_if (pt_val (pe_callB call_isiT (by rfl) T.is (by decide +kernel) (pa_cons (pv 1) (pa_cons (pe_tup (pa_cons (pe_bltn (v := .ty "list") (by rfl) T.li (by decide +kernel) rfl) (pa_cons (pe_bltn (v := .ty "tuple") (by rfl) T.tu (by decide +kernel) rfl) pa_nil))) pa_nil))))
        (pss_cons (ps_if (PW.pt (pw_or (pt_cmpR op_ne (pe_callB call_isi (by rfl) T.is (by decide +kernel) (pa_cons (pv 0) (pa_cons (pe_bltn (v := .ty "list") (by rfl) T.li (by decide +kernel) rfl) pa_nil))) (pe_callB call_isi (by rfl) T.is (by decide +kernel) (pa_cons (pv 1) (pa_cons (pe_bltn (v := .ty "list") (by rfl) T.li (by decide +kernel) rfl) pa_nil))) (nomark _))
            (pw_or1 (pt_cmpR op_ne (pe_callB call_isi (by rfl) T.is (by decide +kernel) (pa_cons (pv 0) (pa_cons (pe_bltn (v := .ty "tuple") (by rfl) T.tu (by decide +kernel) rfl) pa_nil))) (pe_callB call_isi (by rfl) T.is (by decide +kernel) (pa_cons (pv 1) (pa_cons (pe_bltn (v := .ty "tuple") (by rfl) T.tu (by decide +kernel) rfl) pa_nil))) (nomark _)))))
          (pss_one (ps_ret (pe_bl))) pss_nil)
        (pss_one (ps_ret (pe_and (pe_cmpR op_eq (pe_callB call_len_seq (by rfl) T.le PySem.boot_len (pa_cons (pv 0) pa_nil)) (pe_callB call_len_seq (by rfl) T.le PySem.boot_len (pa_cons (pv 1) pa_nil)) (nomark _))
          (pe_one (pe_callB (cr_all rfl) (by rfl) T.al (by decide +kernel) (pa_cons (pe_lc (own := [("_law_mine", 2), ("_law_its", 3)]) (g := gTup K 2 (gCons (gName 2) (gCons (gName 3) gNil))) (by rfl) scSame.nd (pi_zipA (by rfl) T.zi (pa_cons (pv 0) (pa_cons (pv 1) pa_nil)))
            (blkOk_by (own := [("_law_mine", 2), ("_law_its", 3)]) (N := nSame) (sc := defScope sSame) (by decide +kernel))
            (fun _ _ _ _ _ => pg_tup rfl (pgs_cons (pg_name (i := 2) scSame.nd rfl (Or.inl rfl) (.inr rfl)) (pgs_cons (pg_name (i := 3) scSame.nd rfl (Or.inl rfl) (.inr rfl)) pgs_nil))) (fun _ _ _ _ _ => pts_nil)
            (fun _ _ _ _ _ => pe_call G hr (by rfl) mG F.kp bG .nil pass0 (pa_cons (pv 2) (pa_cons (pv 3) pa_nil)))) pa_nil))))))) pss_nil)
      (pss_cons (ps_if (PW.pt (pw_or (pt_cmpR op_isN (pv 1) pe_non (nomark _)) (pw_or1 (pt_val (pe_callB call_isiT (by rfl) T.is (by decide +kernel) (pa_cons (pv 1) (pa_cons (pe_tup (pa_cons (pe_bltn (v := .ty "bool") (by rfl) T.bo (by decide +kernel) rfl) (pa_cons (pe_bltn (v := .ty "str") (by rfl) T.st (by decide +kernel) rfl) pa_nil))) pa_nil)))))))
        (pss_one (ps_ret (pe_and (pe_cmpR op_eq (pv 0) (pv 1) (nomark _)) (pe_and (pe_cmpR op_eq (pe_callB call_isi (by rfl) T.is (by decide +kernel) (pa_cons (pv 0) (pa_cons (pe_bltn (v := .ty "bool") (by rfl) T.bo (by decide +kernel) rfl) pa_nil))) (pe_callB call_isi (by rfl) T.is (by decide +kernel) (pa_cons (pv 1) (pa_cons (pe_bltn (v := .ty "bool") (by rfl) T.bo (by decide +kernel) rfl) pa_nil))) (nomark _))
          (pe_one (pe_cmpR op_eq (pe_cmpR op_isN (pv 0) pe_non (nomark _)) (pe_cmpR op_isN (pv 1) pe_non (nomark _)) (nomark _))))))) pss_nil)
      (pss_one (ps_ret (pe_and (pe_callB call_isi (by rfl) T.is (by decide +kernel) (pa_cons (pv 0) (pa_cons (pe_bltn (v := .ty "int") (by rfl) T.int (by decide +kernel) rfl) pa_nil)))
        (pe_and (pe_not (pe_callB call_isi (by rfl) T.is (by decide +kernel) (pa_cons (pv 0) (pa_cons (pe_bltn (v := .ty "bool") (by rfl) T.bo (by decide +kernel) rfl) pa_nil)))) (pe_one (pe_cmpR op_eq (pv 0) (pv 1) (nomark _)))))))), ?_⟩
    have two : 2 ≤ sizeLine := by decide
    cases d with
    | int i =>
      cases hx
      cases hy
      refine ⟨.int i, rfl, two, fun p np => ⟨_, p, _, _, _, false, rfl, upd_same, .cons (.ty _) (.cons (.ty _) .nil), .base (.int i), any_ff (by decide +kernel) (by decide +kernel), _, rfl, ?_⟩⟩
      refine ite2 (fun z => absurd z Bool.false_ne_true) (fun _ => ?_)
      refine ⟨.int i, rfl, rfl, _, rfl, ?_⟩
      refine ite2 (fun z => absurd (of_decide_eq_true z) (fun e => by cases e)) (fun _ => ?_)
      refine ⟨.int i, rfl, two, fun p2 np2 => ⟨_, p2, _, _, _, false, rfl, upd_same, .cons (.ty _) (.cons (.ty _) .nil), .base (.int i), any_ff (by decide +kernel) (by decide +kernel), _, rfl, ?_⟩⟩
      refine ite2 (fun z => absurd z Bool.false_ne_true) (fun _ => ?_)
      refine ⟨.int i, rfl, _, _, _, _, true, rfl, .ty _, .base (.int i), isi_one (by decide +kernel), _, rfl, ?_⟩
      refine ite2 (fun _ => ?_) (fun z => absurd rfl z)
      refine ⟨.int i, rfl, _, _, _, _, false, rfl, .ty _, .base (.int i), isi_one (by decide +kernel), _, rfl, _, rfl, ?_⟩
      refine ite2 (fun _ => ?_) (fun z => absurd rfl z)
      refine ⟨.int i, rfl, .int i, rfl, rfl, ?_⟩
      have e : decide (V.int i = V.int i) = true := decide_eq_true rfl
      rw [e]
      exact q _ ((same_upd np).trans (same_upd np2))
    | str z =>
      cases hx
      cases hy
      refine ⟨.str z, rfl, two, fun p np => ⟨_, p, _, _, _, false, rfl, upd_same, .cons (.ty _) (.cons (.ty _) .nil), .base (.str z), any_ff (by decide +kernel) (by decide +kernel), _, rfl, ?_⟩⟩
      refine ite2 (fun z => absurd z Bool.false_ne_true) (fun _ => ?_)
      refine ⟨.str z, rfl, rfl, _, rfl, ?_⟩
      refine ite2 (fun z => absurd (of_decide_eq_true z) (fun e => by cases e)) (fun _ => ?_)
      refine ⟨.str z, rfl, two, fun p2 np2 => ⟨_, p2, _, _, _, true, rfl, upd_same, .cons (.ty _) (.cons (.ty _) .nil), .base (.str z), any_ft (by decide +kernel) (by decide +kernel), _, rfl, ?_⟩⟩
      refine ite2 (fun _ => ?_) (fun z => absurd rfl z)
      refine ⟨.str z, rfl, .str z, rfl, rfl, _, rfl, ?_⟩
      refine ite2 (fun _ => ?_) (fun e => absurd (decide_eq_true rfl) e)
      refine ⟨.str z, rfl, _, _, _, _, false, rfl, .ty _, .base (.str z), isi_one (by decide +kernel), .str z, rfl, _, _, _, _, false, rfl, .ty _, .base (.str z), isi_one (by decide +kernel), rfl, _, rfl, ?_⟩
      refine ite2 (fun _ => ?_) (fun e => absurd rfl e)
      refine ⟨.str z, rfl, rfl, .str z, rfl, rfl, rfl, ?_⟩
      have e : decide (V.bl (decide (V.str z = V.non)) = V.bl (decide (V.str z = V.non))) = true := decide_eq_true rfl
      rw [e]
      exact q _ ((same_upd np).trans (same_upd np2))
    | bool z =>
      cases hx
      cases hy
      refine ⟨.bl z, rfl, two, fun p np => ⟨_, p, _, _, _, false, rfl, upd_same, .cons (.ty _) (.cons (.ty _) .nil), .base (.bl z), any_ff (by decide +kernel) (by decide +kernel), _, rfl, ?_⟩⟩
      refine ite2 (fun z => absurd z Bool.false_ne_true) (fun _ => ?_)
      refine ⟨.bl z, rfl, rfl, _, rfl, ?_⟩
      refine ite2 (fun z => absurd (of_decide_eq_true z) (fun e => by cases e)) (fun _ => ?_)
      refine ⟨.bl z, rfl, two, fun p2 np2 => ⟨_, p2, _, _, _, true, rfl, upd_same, .cons (.ty _) (.cons (.ty _) .nil), .base (.bl z), any_t (by decide +kernel), _, rfl, ?_⟩⟩
      refine ite2 (fun _ => ?_) (fun z => absurd rfl z)
      refine ⟨.bl z, rfl, .bl z, rfl, rfl, _, rfl, ?_⟩
      refine ite2 (fun _ => ?_) (fun e => absurd (decide_eq_true rfl) e)
      refine ⟨.bl z, rfl, _, _, _, _, true, rfl, .ty _, .base (.bl z), isi_one (by decide +kernel), .bl z, rfl, _, _, _, _, true, rfl, .ty _, .base (.bl z), isi_one (by decide +kernel), rfl, _, rfl, ?_⟩
      refine ite2 (fun _ => ?_) (fun e => absurd rfl e)
      refine ⟨.bl z, rfl, rfl, .bl z, rfl, rfl, rfl, ?_⟩
      have e : decide (V.bl (decide (V.bl z = V.non)) = V.bl (decide (V.bl z = V.non))) = true := decide_eq_true rfl
      rw [e]
      exact q _ ((same_upd np).trans (same_upd np2))
    | none =>
      cases hx
      cases hy
      refine ⟨.non, rfl, two, fun p np => ⟨_, p, _, _, _, false, rfl, upd_same, .cons (.ty _) (.cons (.ty _) .nil), .base .non, any_ff (by decide +kernel) (by decide +kernel), _, rfl, ?_⟩⟩
      refine ite2 (fun z => absurd z Bool.false_ne_true) (fun _ => ?_)
      refine ⟨.non, rfl, rfl, _, rfl, ?_⟩
      refine ite2 (fun _ => ?_) (fun z => absurd (decide_eq_true rfl) z)
      refine ⟨.non, rfl, .non, rfl, rfl, _, rfl, ?_⟩
      refine ite2 (fun _ => ?_) (fun e => absurd (decide_eq_true rfl) e)
      refine ⟨.non, rfl, _, _, _, _, false, rfl, .ty _, .base .non, isi_one (by decide +kernel), .non, rfl, _, _, _, _, false, rfl, .ty _, .base .non, isi_one (by decide +kernel), rfl, _, rfl, ?_⟩
      refine ite2 (fun _ => ?_) (fun e => absurd rfl e)
      refine ⟨.non, rfl, rfl, .non, rfl, rfl, rfl, ?_⟩
      have e : decide (V.bl (decide (V.non = V.non)) = V.bl (decide (V.non = V.non))) = true := decide_eq_true rfl
      rw [e]
      exact q _ (same_upd np)
    | list ds =>
      obtain ⟨hlen, hds⟩ := hd
      cases hx with
      | lst hxs hxa =>
      cases hy with
      | lst hys hya =>
      rename_i a xs b ys
      have lx := dpAll_len hxa
      have ly := dpAll_len hya
      refine ⟨.ref b, rfl, two, fun p np => ⟨_, p, _, _, _, true, rfl, upd_same, .cons (.ty _) (.cons (.ty _) .nil), tyL ((same_upd np).seq hys), any_t (by decide +kernel), _, rfl, ?_⟩⟩
      refine ite2 (fun _ => ?_) (fun z => absurd rfl z)
      have s1 : Same H (upd H p (.tup [.ty "list", .ty "tuple"])) := same_upd np
      have hxs1 := (s1).seq hxs
      have hys1 := (s1).seq hys
      refine ⟨.ref a, rfl, _, _, _, _, true, rfl, .ty _, tyL hxs1, isi_one (by decide +kernel), .ref b, rfl, _, _, _, _, true, rfl, .ty _, tyL hys1, isi_one (by decide +kernel), rfl, _, rfl, ?_⟩
      refine ite2 (fun c => by rw [decide_eq_true rfl] at c; cases c) (fun _ => ?_)
      refine ⟨.ref a, rfl, _, _, _, _, false, rfl, .ty _, tyL hxs1, isi_one (by decide +kernel), .ref b, rfl, _, _, _, _, false, rfl, .ty _, tyL hys1, isi_one (by decide +kernel), rfl, _, rfl, ?_⟩
      refine ite2 (fun c => by rw [decide_eq_true rfl] at c; cases c) (fun _ => ?_)
      refine ⟨.ref a, rfl, a, _, rfl, .inl hxs1, .ref b, rfl, b, _, rfl, .inl hys1, rfl, _, rfl, ?_⟩
      refine ite2 (fun _ => ?_) (fun z => absurd (decide_eq_true (congrArg V.int (by rw [lx, ly]))) z)
      refine ⟨.ref a, rfl, .ref b, rfl, a, b, xs, ys, rfl, .inl ⟨hxs1, hys1, fun D nD => lc_it (walk_zip (K := K) (a := a) (b := b) (xs := xs) (ys := ys) rfl)
        (fun i H' => Same (upd H p (.tup [.ty "list", .ty "tuple"])) H' ∧ H' D = some (.lst ((List.replicate i true).map V.bl))) ⟨same_upd nD, upd_same⟩ (fun i H' _ z => ⟨(z.1).seq hxs1, (z.1).seq hys1⟩) ?_ ?_⟩⟩
      · rintro i v H2 H3 hi ⟨s2, eD⟩ ⟨T1, x1, y1, rfl, nT, rfl, hx1, hy1⟩
        obtain ⟨d1, e1, r1⟩ := dpAll_at hxa hx1
        obtain ⟨d2, e2, r2⟩ := dpAll_at hya hy1
        have ed : d1 = d2 := by
          rw [e1] at e2
          exact Option.some.inj e2
        subst ed
        have s3 : Same (upd H p (.tup [.ty "list", .ty "tuple"])) (upd H2 T1 (.tup [x1, y1])) := s2.trans (same_upd nT)
        have hi' : i < 1000 := by omega
        refine ⟨T1, [x1, y1], rfl, SqT.of upd_same, rfl, x1, [y1], rfl, y1, [], rfl, rfl, ?_⟩
        refine ⟨rfl, ?_⟩
        unfold tYes
        refine ite2 (fun _ => ?_) (fun z => absurd rfl z)
        refine ⟨x1, rfl, y1, rfl, x1, y1, d1, rfl, dp_same (s1.trans s3) r1, dp_same (s1.trans s3) r2, hds d1 (List.mem_of_getElem? e1), fun H4 s4 => ?_⟩
        have eD4 : H4 D = some (.lst ((List.replicate i true).map V.bl)) := s4 _ _ (by rw [upd_ne (ne_of_none eD nT)]; exact eD)
        refine ⟨_, eD4, ?_, fun c o e => ?_, ?_⟩
        · rw [List.length_map, List.length_replicate]
          exact small1000 (Nat.le_of_lt hi')
        · rw [upd_ne (ne_of_none e nD)]
          exact s4 _ _ (s3 _ _ e)
        · rw [upd_same, List.replicate_succ', List.map_append]
          rfl
      · rintro H2 ⟨s2, eD⟩
        refine ⟨D, _, rfl, SqL.of eD, ?_⟩
        rw [all_yes]
        exact q _ (s1.trans s2)
    | tuple ds =>
      obtain ⟨hlen, hds⟩ := hd
      cases hx with
      | tup hxs hxa =>
      cases hy with
      | tup hys hya =>
      rename_i a xs b ys
      have lx := dpAll_len hxa
      have ly := dpAll_len hya
      refine ⟨.ref b, rfl, two, fun p np => ⟨_, p, _, _, _, true, rfl, upd_same, .cons (.ty _) (.cons (.ty _) .nil), tyT (sqT_same (same_upd np) hys), any_ft (by decide +kernel) (by decide +kernel), _, rfl, ?_⟩⟩
      refine ite2 (fun _ => ?_) (fun z => absurd rfl z)
      have s1 : Same H (upd H p (.tup [.ty "list", .ty "tuple"])) := same_upd np
      have hxs1 := sqT_same (s1) hxs
      have hys1 := sqT_same (s1) hys
      refine ⟨.ref a, rfl, _, _, _, _, false, rfl, .ty _, tyT hxs1, isi_one (by decide +kernel), .ref b, rfl, _, _, _, _, false, rfl, .ty _, tyT hys1, isi_one (by decide +kernel), rfl, _, rfl, ?_⟩
      refine ite2 (fun c => by rw [decide_eq_true rfl] at c; cases c) (fun _ => ?_)
      refine ⟨.ref a, rfl, _, _, _, _, true, rfl, .ty _, tyT hxs1, isi_one (by decide +kernel), .ref b, rfl, _, _, _, _, true, rfl, .ty _, tyT hys1, isi_one (by decide +kernel), rfl, _, rfl, ?_⟩
      refine ite2 (fun c => by rw [decide_eq_true rfl] at c; cases c) (fun _ => ?_)
      refine ⟨.ref a, rfl, a, _, rfl, .inr hxs1, .ref b, rfl, b, _, rfl, .inr hys1, rfl, _, rfl, ?_⟩
      refine ite2 (fun _ => ?_) (fun z => absurd (decide_eq_true (congrArg V.int (by rw [lx, ly]))) z)
      refine ⟨.ref a, rfl, .ref b, rfl, a, b, xs, ys, rfl, .inr ⟨hxs1, hys1, fun D nD => lc_it (walk_zipT (K := K) (a := a) (b := b) (xs := xs) (ys := ys) rfl)
        (fun i H' => Same (upd H p (.tup [.ty "list", .ty "tuple"])) H' ∧ H' D = some (.lst ((List.replicate i true).map V.bl))) ⟨same_upd nD, upd_same⟩ (fun i H' _ z => ⟨sqT_same (z.1) hxs1, sqT_same (z.1) hys1⟩) ?_ ?_⟩⟩
      · rintro i v H2 H3 hi ⟨s2, eD⟩ ⟨T1, x1, y1, rfl, nT, rfl, hx1, hy1⟩
        obtain ⟨d1, e1, r1⟩ := dpAll_at hxa hx1
        obtain ⟨d2, e2, r2⟩ := dpAll_at hya hy1
        have ed : d1 = d2 := by
          rw [e1] at e2
          exact Option.some.inj e2
        subst ed
        have s3 : Same (upd H p (.tup [.ty "list", .ty "tuple"])) (upd H2 T1 (.tup [x1, y1])) := s2.trans (same_upd nT)
        have hi' : i < 1000 := by omega
        refine ⟨T1, [x1, y1], rfl, SqT.of upd_same, rfl, x1, [y1], rfl, y1, [], rfl, rfl, ?_⟩
        refine ⟨rfl, ?_⟩
        unfold tYes
        refine ite2 (fun _ => ?_) (fun z => absurd rfl z)
        refine ⟨x1, rfl, y1, rfl, x1, y1, d1, rfl, dp_same (s1.trans s3) r1, dp_same (s1.trans s3) r2, hds d1 (List.mem_of_getElem? e1), fun H4 s4 => ?_⟩
        have eD4 : H4 D = some (.lst ((List.replicate i true).map V.bl)) := s4 _ _ (by rw [upd_ne (ne_of_none eD nT)]; exact eD)
        refine ⟨_, eD4, ?_, fun c o e => ?_, ?_⟩
        · rw [List.length_map, List.length_replicate]
          exact small1000 (Nat.le_of_lt hi')
        · rw [upd_ne (ne_of_none e nD)]
          exact s4 _ _ (s3 _ _ e)
        · rw [upd_same, List.replicate_succ', List.map_append]
          rfl
      · rintro H2 ⟨s2, eD⟩
        refine ⟨D, _, rfl, SqL.of eD, ?_⟩
        rw [all_yes]
        exact q _ (s1.trans s2)
    | _ => exact absurd hd id
end
end K16
namespace K16
open PySem PySem.Spec PyProof.Rows L2 CS
/-- what stood at first stands, and all of H2 but l -/
def KeepTo (H H2 : Hp) (l : Addr) (H' : Hp) : Prop := Same H H' ∧ Keep l H2 H'
theorem cut3 (ns : List Int) : cutV (ns.map V.int) (some 3) (some 63) = ((ns.drop (min 3 ns.length)).take (min 63 ns.length - min 3 ns.length)).map V.int := by
  unfold cutV
  rw [show HT.sIx (ns.map V.int).length 0 (some 3) = min 3 (ns.map V.int).length from HT.sIx_nat _ 0 3, show HT.sIx (ns.map V.int).length (ns.map V.int).length (some 63) = min 63 (ns.map V.int).length from HT.sIx_nat _ _ 63, List.length_map, List.map_take, List.map_drop]
theorem cut0 (ns : List Int) : cutV (ns.map V.int) none (some 3) = (ns.take (min 3 ns.length)).map V.int := by
  unfold cutV
  rw [show HT.sIx (ns.map V.int).length 0 none = 0 from HT.sIx_none _ _, show HT.sIx (ns.map V.int).length (ns.map V.int).length (some 3) = min 3 (ns.map V.int).length from HT.sIx_nat _ _ 3, List.length_map, List.map_take]
  rfl
section
variable {P : Program} {w : World} {K : PySem.W.Frag} {mg : Str → Option Value} {base : Heap}
def spCells (K : PySem.W.Frag) : Sp := fun vs H Q _ => ∃ (a : Addr) (ns : List Int), vs = [.ref a, .int 3] ∧ SqL K H a (ns.map V.int) ∧ ns.length ≤ 63 ∧
  ∀ (H' : Hp) (p : Addr) (ms : List Int), Same H H' → H p = none → H' p = some (.lst (ms.map V.int)) → 1 ≤ ms.length → ms.length ≤ 3 → Q (.ref p) H'
theorem scCells : FnScope ["_law_script", "_law_most_so", "_law_cells_here", "_law_k", "_law_cell", "_law_at_so"] ["_law_script", "_law_most_so"] (defScope sCells) := ⟨rfl, rfl, rfl, by decide +kernel, rfl, by decide +kernel, by decide +kernel⟩
theorem ok_cells {f : Addr} {fd : FuncData} {k : Nat} (F : Fun K "_law_cells" "_law_cells" sCells f fd) (mL : mg "list" = none) (mE : mg "enumerate" = none) (mi : mg "int" = none) : FnOk P w K mg base CX0 (k + 1) f fd ["_law_script", "_law_most_so"] (spCells K) := by
  refine F.ok scCells (fun vs H Q E h => ?_) (fun cdv A outer s H vs Q E hr h => ?_)
  · obtain ⟨a, ns, rfl, _⟩ := h
    rfl
  · obtain ⟨a, ns, rfl, hS, hn, q⟩ := h
    refine ⟨_, pss_cons (ps_set (i := 2) scCells.nd rfl (.inl rfl) (pe_orT (pe_callTy call_list_of (by rfl) mL (by decide +kernel) (pa_cons (pe_slice sl_list (pv 0) po_none (po_some (pv 1))) pa_nil)) (pe_one (pe_lst (pa_cons pe_int pa_nil)))))
      (pss_cons (ps_for PassesOwn.never rfl (pi_enum (by rfl) mE (pa_cons (pe_slice sl_list (pv 0) (po_some (pv 1)) (po_some pe_int)) pa_nil))
          (pg_tup rfl (pgs_cons (pg_name (i := 3) scCells.nd rfl (.inl rfl)) (pgs_cons (pg_name (i := 4) scCells.nd rfl (.inl rfl)) pgs_nil)))
        (pss_cons (ps_set (i := 5) scCells.nd rfl (.inl rfl) (pe_op op_modN (pe_callTy call_int1 (by rfl) mi (by decide +kernel) (pa_cons (pv 3) pa_nil)) (pv 1)))
          (pss_one (ps_asg (pe_op op_add (pe_ix ix_list (pv 2) (pv 5) (fun _ _ => rfl)) (pe_op op_mul (pv 4) (pe_op op_add (pv 3) pe_int))) (pg_sub (pv 2) (pv 5) set_list)))))
      (pss_one (ps_ret (pv 2)))), ?_⟩
    refine ⟨.ref a, rfl, .int 3, rfl, 3, rfl, a, ns.map V.int, rfl, hS, fun c nc => ?_⟩
    rw [cut0]
    refine ⟨c, _, rfl, .inl (SqL.of upd_same), fun l nl0 => ?_⟩
    have s0 : Same H (upd (upd H c (.lst ((ns.take (min 3 ns.length)).map V.int))) l (.lst ((ns.take (min 3 ns.length)).map V.int))) := (same_upd nc).trans (same_upd nl0)
    have nlH : H l = none := (same_upd nc).free nl0
    have hl1 : (ns.take (min 3 ns.length)).length = min 3 ns.length := by
      rw [List.length_take]
      omega
    refine ⟨_, .inl ⟨_, SqL.of upd_same, rfl⟩, ?_⟩
    refine ite2 (fun c1 => ?_) (fun c1 => ?_)
    · have hpos : 0 < ns.length := by
        cases ns with
        | nil => cases c1
        | cons x r => exact Nat.succ_pos _
      have e1 : (upd (upd H c (.lst ((ns.take (min 3 ns.length)).map V.int))) l (.lst ((ns.take (min 3 ns.length)).map V.int))) l = some (.lst ((ns.take (min 3 ns.length)).map V.int)) := upd_same
      generalize upd (upd H c (.lst ((ns.take (min 3 ns.length)).map V.int))) l (.lst ((ns.take (min 3 ns.length)).map V.int)) = H1 at s0 e1
      generalize ns.take (min 3 ns.length) = ms at e1 hl1
      have s1 := s0
      have nl := nlH
      have m1 : 1 ≤ ms.length := by omega
      have m3 : ms.length ≤ 3 := by omega
      have h3 : 3 < ns.length → ms.length = 3 := fun _ => by omega
      refine ⟨.ref a, rfl, .int 3, rfl, 3, rfl, 63, rfl, a, ns.map V.int, rfl, s1.seq hS, fun c2 nc2 => ?_⟩
      rw [cut3]
      have s2 : Same H (upd H1 c2 (.lst (((ns.drop (min 3 ns.length)).take (min 63 ns.length - min 3 ns.length)).map V.int))) := s1.trans (same_upd nc2)
      have ncl : c2 ≠ l := fun z => by
        rw [z, e1] at nc2
        cases nc2
      have hC : SqL K (upd H1 c2 (.lst (((ns.drop (min 3 ns.length)).take (min 63 ns.length - min 3 ns.length)).map V.int))) c2 (((ns.drop (min 3 ns.length)).take (min 63 ns.length - min 3 ns.length)).map V.int) := SqL.of upd_same
      have eL : (upd H1 c2 (.lst (((ns.drop (min 3 ns.length)).take (min 63 ns.length - min 3 ns.length)).map V.int))) l = some (.lst (ms.map V.int)) := by
        rw [upd_ne ncl.symm]
        exact e1
      have hlenr : ((ns.drop (min 3 ns.length)).take (min 63 ns.length - min 3 ns.length)).length = min 63 ns.length - min 3 ns.length := by
        rw [List.length_take, List.length_drop]
        omega
      generalize ((ns.drop (min 3 ns.length)).take (min 63 ns.length - min 3 ns.length)) = rest at s2 hC eL hlenr
      generalize upd H1 c2 (.lst (rest.map V.int)) = H2 at s2 hC eL
      refine ⟨c2, rest.map V.int, rfl, hC, for_it (walk_enum (K := K) (a := c2) (xs := rest.map V.int)) (fun i σ H' => ∃ (y3 y4 y5 : Option V) (zs : List Int), σ = [some (.ref a), some (.int 3), some (.ref l), y3, y4, y5] ∧ KeepTo H H2 l H' ∧ H' l = some (.lst (zs.map V.int)) ∧ zs.length = ms.length)
        ⟨none, none, none, ms, rfl, ⟨s2, fun _ _ _ e => e⟩, eL, rfl⟩ (fun i σ H' _ z => by
          obtain ⟨_, _, _, _, _, kk, _, _⟩ := z
          exact Keep.sqL (b := l) kk.2 ncl hC) ?_ ?_⟩
      · rintro i v σ H3 H4 hi ⟨y3, y4, y5, zs, rfl, kk, e3, hzl⟩ ⟨T, x, y, rfl, nT, rfl, hx, hy⟩
        cases hx
        replace hy : (rest.map V.int)[i]? = some y := hy
        rw [List.getElem?_map] at hy
        rw [List.length_map, hlenr] at hi
        cases e : rest[i]? with
        | none =>
          rw [e] at hy
          cases hy
        | some u =>
          rw [e] at hy
          cases hy
          have hz3 : zs.length = 3 := by rw [hzl]; exact h3 (by omega)
          have f0 := Int.fmod_nonneg_of_pos (i : Int) (b := 3) (by decide)
          have f1 := Int.fmod_lt_of_pos (i : Int) (b := 3) (by decide)
          have nlT : l ≠ T := ne_of_none e3 nT
          have e3T : (upd H3 T (.tup [.int (i : Nat), .int u])) l = some (.lst (zs.map V.int)) := by
            rw [upd_ne nlT]
            exact e3
          refine ⟨T, [.int (i : Nat), .int u], rfl, SqT.of upd_same, rfl, .int (i : Nat), [.int u], rfl, .int u, [], rfl, rfl, ?_⟩
          refine ⟨.int (i : Nat), rfl, .inl ⟨_, rfl, .int 3, rfl, _, _, rfl, rfl, (by show (3 : Int) ≠ 0; decide), ?_⟩⟩
          have hj : (Int.fmod (i : Int) 3).toNat < zs.length := by omega
          have hat : atI (zs.map V.int) (Int.fmod (i : Int) 3) = some (.int zs[(Int.fmod (i : Int) 3).toNat]) := by
            have za := atI_nat (j := (Int.fmod (i : Int) 3).toNat) (xs := zs.map V.int) (v := .int zs[(Int.fmod (i : Int) 3).toNat]) (by rw [List.getElem?_map, List.getElem?_eq_getElem hj]; rfl)
            rw [show (((Int.fmod (i : Int) 3).toNat : Nat) : Int) = Int.fmod (i : Int) 3 by omega] at za
            exact za
          refine ⟨.ref l, rfl, .int _, rfl, l, _, _, _, rfl, rfl, SqL.of e3T, hat, .int u, rfl, .int (i : Nat), rfl, _, _, rfl, rfl, _, _, rfl, rfl, .inr (by omega), _, _, rfl, rfl, ?_⟩
          refine ⟨.ref l, rfl, .int _, rfl, l, _, _, (Int.fmod (i : Int) 3).toNat, rfl, rfl, e3T, ?_, ?_⟩
          · unfold ixN
            rw [List.length_map, if_pos f0, if_pos (by omega)]
          · refine ⟨_, _, _, zs.set (Int.fmod (i : Int) 3).toNat (zs[(Int.fmod (i : Int) 3).toNat] + u * ((i : Int) + 2)), rfl, ⟨fun c o ec => ?_, fun c o nc ec => ?_⟩, ?_, ?_⟩
            · have q3 := kk.1 _ _ ec
              have ncl3 : c ≠ l := ne_of_none ec nl
              rw [upd_ne ncl3, upd_ne (ne_of_none q3 nT)]
              exact q3
            · have q3 := kk.2 _ _ nc ec
              rw [upd_ne nc, upd_ne (ne_of_none q3 nT)]
              exact q3
            · rw [upd_same, List.map_set]
            · rw [List.length_set]
              exact hzl
      · rintro σ H3 ⟨y3, y4, y5, zs, rfl, kk, e3, hzl⟩
        exact ⟨.ref l, rfl, q H3 l zs kk.1 nl e3 (by omega) (by omega)⟩
    · have hnil : ns.length = 0 := by
        cases ns with
        | nil => rfl
        | cons x r =>
          exfalso
          apply c1
          show (!(((x :: r).take (min 3 (r.length + 1))).map V.int).isEmpty) = true
          rw [show min 3 (r.length + 1) = (min 2 r.length) + 1 by omega]
          rfl
      refine ⟨(by show 1 ≤ sizeLine; decide), fun l2 nl2 => ?_⟩
      have s1 := s0.trans (same_upd (o := .lst [.int 0]) nl2)
      have nl : H l2 = none := s0.free nl2
      have e1 : (upd (upd (upd H c (.lst ((ns.take (min 3 ns.length)).map V.int))) l (.lst ((ns.take (min 3 ns.length)).map V.int))) l2 (.lst [.int 0])) l2 = some (.lst (([0] : List Int).map V.int)) := upd_same
      generalize upd (upd (upd H c (.lst ((ns.take (min 3 ns.length)).map V.int))) l (.lst ((ns.take (min 3 ns.length)).map V.int))) l2 (.lst [.int 0]) = H1 at s1 e1
      generalize l2 = l at nl e1
      generalize ems : ([0] : List Int) = ms at e1
      have m1 : 1 ≤ ms.length := by rw [← ems]; decide
      have m3 : ms.length ≤ 3 := by rw [← ems]; decide
      have h3 : 3 < ns.length → ms.length = 3 := fun z => by omega
      refine ⟨.ref a, rfl, .int 3, rfl, 3, rfl, 63, rfl, a, ns.map V.int, rfl, s1.seq hS, fun c2 nc2 => ?_⟩
      rw [cut3]
      have s2 : Same H (upd H1 c2 (.lst (((ns.drop (min 3 ns.length)).take (min 63 ns.length - min 3 ns.length)).map V.int))) := s1.trans (same_upd nc2)
      have ncl : c2 ≠ l := fun z => by
        rw [z, e1] at nc2
        cases nc2
      have hC : SqL K (upd H1 c2 (.lst (((ns.drop (min 3 ns.length)).take (min 63 ns.length - min 3 ns.length)).map V.int))) c2 (((ns.drop (min 3 ns.length)).take (min 63 ns.length - min 3 ns.length)).map V.int) := SqL.of upd_same
      have eL : (upd H1 c2 (.lst (((ns.drop (min 3 ns.length)).take (min 63 ns.length - min 3 ns.length)).map V.int))) l = some (.lst (ms.map V.int)) := by
        rw [upd_ne ncl.symm]
        exact e1
      have hlenr : ((ns.drop (min 3 ns.length)).take (min 63 ns.length - min 3 ns.length)).length = min 63 ns.length - min 3 ns.length := by
        rw [List.length_take, List.length_drop]
        omega
      generalize ((ns.drop (min 3 ns.length)).take (min 63 ns.length - min 3 ns.length)) = rest at s2 hC eL hlenr
      generalize upd H1 c2 (.lst (rest.map V.int)) = H2 at s2 hC eL
      refine ⟨c2, rest.map V.int, rfl, hC, for_it (walk_enum (K := K) (a := c2) (xs := rest.map V.int)) (fun i σ H' => ∃ (y3 y4 y5 : Option V) (zs : List Int), σ = [some (.ref a), some (.int 3), some (.ref l), y3, y4, y5] ∧ KeepTo H H2 l H' ∧ H' l = some (.lst (zs.map V.int)) ∧ zs.length = ms.length)
        ⟨none, none, none, ms, rfl, ⟨s2, fun _ _ _ e => e⟩, eL, rfl⟩ (fun i σ H' _ z => by
          obtain ⟨_, _, _, _, _, kk, _, _⟩ := z
          exact Keep.sqL (b := l) kk.2 ncl hC) ?_ ?_⟩
      · rintro i v σ H3 H4 hi ⟨y3, y4, y5, zs, rfl, kk, e3, hzl⟩ ⟨T, x, y, rfl, nT, rfl, hx, hy⟩
        cases hx
        replace hy : (rest.map V.int)[i]? = some y := hy
        rw [List.getElem?_map] at hy
        rw [List.length_map, hlenr] at hi
        cases e : rest[i]? with
        | none =>
          rw [e] at hy
          cases hy
        | some u =>
          rw [e] at hy
          cases hy
          have hz3 : zs.length = 3 := by rw [hzl]; exact h3 (by omega)
          have f0 := Int.fmod_nonneg_of_pos (i : Int) (b := 3) (by decide)
          have f1 := Int.fmod_lt_of_pos (i : Int) (b := 3) (by decide)
          have nlT : l ≠ T := ne_of_none e3 nT
          have e3T : (upd H3 T (.tup [.int (i : Nat), .int u])) l = some (.lst (zs.map V.int)) := by
            rw [upd_ne nlT]
            exact e3
          refine ⟨T, [.int (i : Nat), .int u], rfl, SqT.of upd_same, rfl, .int (i : Nat), [.int u], rfl, .int u, [], rfl, rfl, ?_⟩
          refine ⟨.int (i : Nat), rfl, .inl ⟨_, rfl, .int 3, rfl, _, _, rfl, rfl, (by show (3 : Int) ≠ 0; decide), ?_⟩⟩
          have hj : (Int.fmod (i : Int) 3).toNat < zs.length := by omega
          have hat : atI (zs.map V.int) (Int.fmod (i : Int) 3) = some (.int zs[(Int.fmod (i : Int) 3).toNat]) := by
            have za := atI_nat (j := (Int.fmod (i : Int) 3).toNat) (xs := zs.map V.int) (v := .int zs[(Int.fmod (i : Int) 3).toNat]) (by rw [List.getElem?_map, List.getElem?_eq_getElem hj]; rfl)
            rw [show (((Int.fmod (i : Int) 3).toNat : Nat) : Int) = Int.fmod (i : Int) 3 by omega] at za
            exact za
          refine ⟨.ref l, rfl, .int _, rfl, l, _, _, _, rfl, rfl, SqL.of e3T, hat, .int u, rfl, .int (i : Nat), rfl, _, _, rfl, rfl, _, _, rfl, rfl, .inr (by omega), _, _, rfl, rfl, ?_⟩
          refine ⟨.ref l, rfl, .int _, rfl, l, _, _, (Int.fmod (i : Int) 3).toNat, rfl, rfl, e3T, ?_, ?_⟩
          · unfold ixN
            rw [List.length_map, if_pos f0, if_pos (by omega)]
          · refine ⟨_, _, _, zs.set (Int.fmod (i : Int) 3).toNat (zs[(Int.fmod (i : Int) 3).toNat] + u * ((i : Int) + 2)), rfl, ⟨fun c o ec => ?_, fun c o nc ec => ?_⟩, ?_, ?_⟩
            · have q3 := kk.1 _ _ ec
              have ncl3 : c ≠ l := ne_of_none ec nl
              rw [upd_ne ncl3, upd_ne (ne_of_none q3 nT)]
              exact q3
            · have q3 := kk.2 _ _ nc ec
              rw [upd_ne nc, upd_ne (ne_of_none q3 nT)]
              exact q3
            · rw [upd_same, List.map_set]
            · rw [List.length_set]
              exact hzl
      · rintro σ H3 ⟨y3, y4, y5, zs, rfl, kk, e3, hzl⟩
        exact ⟨.ref l, rfl, q H3 l zs kk.1 nl e3 (by omega) (by omega)⟩
end
end K16
namespace K16
open PySem PySem.Spec PyProof.Rows L2 CS RZ
section
variable {P : Program} {w : World} {K : PySem.W.Frag} {mg : Str → Option Value} {base : Heap}
def spRight : Sp := fun vs H Q _ => ∃ (b : Addr), vs = [.ref b] ∧ BoxAt H b 0 ∧ ∀ H' : Hp, Keep b H H' → Q (.bl true) H'
def spLaw (K : PySem.W.Frag) : Sp := fun vs H Q _ => ∃ (a : Addr) (ns : List Int), vs = [.ref a] ∧ SqL K H a (ns.map V.int) ∧ ns.length ≤ 63 ∧ ∀ H', Q (.bl true) H'
abbrev nLaw : List Str := ["_law_script", "_law_cells_here", "_law_k"]
theorem scLaw : FnScope nLaw ["_law_script"] (defScope sLaw) := ⟨rfl, rfl, rfl, by decide +kernel, rfl, by decide +kernel, by decide +kernel⟩
theorem ok_law {f gc gr gb : Addr} {fd dc dr db : FuncData} {k : Nat} (F : Fun K "law" "law" sLaw f fd)
    (Gc : FnOk P w K mg base CX0 k gc dc ["_law_script", "_law_most_so"] (spCells K)) (bc : Binds K dc ["_law_script", "_law_most_so"] []) (kc : PySem.W.keepIn K (.ref gc) = true) (mc : mg "_law_cells" = some (.ref gc))
    (Gr : FnOk P w K mg base CX0 k gr dr ["_law_box_here"] spRight) (br : Binds K dr ["_law_box_here"] []) (kr : PySem.W.keepIn K (.ref gr) = true) (mR : mg "_law_right" = some (.ref gr))
    (Gb : FnOk P w K mg base CX0 k gb db ["_law_script", "_law_k"] (spBox K)) (bb : Binds K db ["_law_script", "_law_k"] []) (kb : PySem.W.keepIn K (.ref gb) = true) (mb : mg "_law_box" = some (.ref gb)) (mr : mg "range" = none) (ma : mg "all" = none) (ml : mg "len" = none) :
    FnOk P w K mg base CX0 (k + 1) f fd ["_law_script"] (spLaw K) := by
  refine F.ok scLaw (fun vs H Q E h => ?_) (fun cdv A outer s H vs Q E hr h => ?_)
  · obtain ⟨a, ns, rfl, _⟩ := h
    rfl
  · obtain ⟨a, ns, rfl, hS, hn, q⟩ := h
    refine ⟨_, pss_cons (ps_set (i := 1) scLaw.nd rfl (.inr rfl) (pe_call Gc hr (by rfl) mc kc bc .nil pass0 (pa_cons (pv 0) (pa_cons pe_int pa_nil))))
      (pss_one (ps_ret (pe_callB (cr_all rfl) (by rfl) ma (by decide +kernel) (pa_cons (pe_lc (own := [("_law_k", 2)]) (g := gName 2) (by rfl) scLaw.nd (pi_range1 (by rfl) mr (pa_cons (pe_callB call_len_seq (by rfl) ml PySem.boot_len (pa_cons (pv 1) pa_nil)) pa_nil))
        (blkOk_by (own := [("_law_k", 2)]) (N := nLaw) (sc := defScope sLaw) (by decide +kernel)) (fun _ _ _ _ _ => pg_name (i := 2) scLaw.nd rfl (Or.inl rfl) (.inr rfl)) (fun _ _ _ _ _ => pts_nil)
        (fun _ _ _ _ _ => pe_call Gr hr (by rfl) mR kr br .nil pass0 (pa_cons (pe_call Gb hr (by rfl) mb kb bb .nil pass0 (pa_cons (pv 1) (pa_cons (pv 2) pa_nil))) pa_nil))) pa_nil)))), ?_⟩
    refine ⟨.ref a, rfl, a, ns, rfl, hS, hn, fun H2 p ms s2 _ e2 m1 m3 => ?_⟩
    refine ⟨.ref p, rfl, p, _, rfl, .inl (SqL.of e2), _, rfl, (by rw [List.length_map]; omega), (by rw [List.length_map]; omega), fun D nD => lc_range (fun i H' => H' p = some (.lst (ms.map V.int)) ∧ H' D = some (.lst ((List.replicate i true).map V.bl))) ⟨?_, upd_same⟩ ?_ ?_⟩
    · rw [upd_ne (ne_of_none e2 nD)]
      exact e2
    · rintro i H3 hi ⟨e3, eD⟩
      rw [List.length_map] at hi
      have hi' : i < ms.length := by omega
      have npD : p ≠ D := ne_of_none e2 nD
      refine ⟨rfl, ?_⟩
      unfold tYes
      refine ite2 (fun _ => ?_) (fun z => absurd rfl z)
      refine ⟨.ref p, rfl, .int (0 + (i : Nat)), rfl, p, ms, i, (by rw [Int.zero_add]; rfl), SqL.of e3, hi', by omega, fun H4 b s4 nb b4 => ?_⟩
      have npb : p ≠ b := ne_of_none e3 nb
      have nDb : D ≠ b := ne_of_none eD nb
      refine ⟨b, rfl, b4, fun H5 k5 => ?_⟩
      refine ⟨_, k5 _ _ nDb (s4 _ _ eD), ?_, ?_, ?_⟩
      · rw [List.length_map, List.length_replicate]
        exact small1000 (by omega)
      · rw [upd_ne npD]
        exact k5 _ _ npb (s4 _ _ e3)
      · rw [upd_same, List.replicate_succ', List.map_append]
        rfl
    · rintro H3 ⟨e3, eD⟩
      refine ⟨D, _, rfl, SqL.of eD, ?_⟩
      rw [all_yes]
      exact q H3
end
end K16
/-! an error that is caught and used behind its except clause: it is tracked like any other object -/
namespace CS
open PySem PySem.Spec PyProof.Rows L2
/-- at a: an error of the class cls, its dict at d -/
def XO (cls : Value) (d : Option Addr) (a : Addr) : HO := .ext fun h => ∃ (ob : Obj) (ws : Array Value), h.get? a = some ob ∧ Zc cls d ob ∧ ob.data = .fields ws
end CS
set_option maxHeartbeats 4000000
/-! isinstance and the fields of an error that is tracked -/
namespace PySem.W
open PySem PySem.Spec PySem.Calls PyProof.Rows
section
variable {prog : Program} {w : World} {A : Around} {E : Value → Shared → Prop} {s : Shared} {K : Frag} {x D : Addr} {ox : Obj} {od : Option Obj}
/-- what the class D says of its instances' __class__ -/
structure CsxC (K : Frag) (D : Addr) : Prop where
  hg : findIn K (.ref D) "__getattribute__" = some (some (.builtin "BaseException.__getattribute__"))
  hk : findIn K (.ref D) "__getattr__" = some none
  hs : subIn K (.ref D) (.type "BaseException") = some true
  hd : hasDictIn K D = true
  ha : findIn K (.ref D) "__class__" = some (some (.builtin "object.__class__"))
  hn : specialIn K (.builtin "object.__class__") "__get__" = some (some (.builtin "getset_descriptor.__get__"))
  ht : takesIn K (.builtin "object.__class__") = some true
  hm : mroIn K D (.type "object") = some true
end
end PySem.W
namespace CS
open PySem PySem.Spec PyProof.Rows L2
end CS
set_option maxHeartbeats 4000000
/-! an own error class called by keywords alone -/
namespace PySem
end PySem
set_option maxHeartbeats 4000000
/-! own errors whose __init__ stores fields, as values; over ValueError or LookupError -/
namespace PySem
end PySem
namespace CS
open PySem PySem.Spec PyProof.Rows L2
end CS
set_option maxHeartbeats 4000000
namespace CS
open PySem PySem.Spec PyProof.Rows L2
/-! ### C(e, ..), C(k = e, ..): an error as a value -/
end CS
namespace CS
open PySem PySem.Spec PySem.Calls PyProof.Rows
/-! ### sorted of a tuple -/
end CS
namespace CS
open PySem PySem.Spec PyProof.Rows L2
/-! ### sorted of a list of data -/
/-! ### pairs of texts -/
def tx (p : Str × Str) : PyData := .tuple [.str p.1, .str p.2]
def leP (p q : Str × Str) : Bool := PySem.W.dataLe false tx p q
theorem leP_total : PySem.W.TotalLe leP := PySem.W.sortLe_total (listOrd itemOrd) false fun b => PySem.W.keyToks (tx b)
end CS
namespace RM
open PySem PySem.Spec PyProof.Rows L2 CS RZ
/-! ### values as data: dicts, objects, errors and the box of draws are marked dicts -/
abbrev D := PyData
def boxD : D := .dict [(.none, .none)]
def dK (kvs : List (D × D)) : D := .dict ((.none, .bool false) :: kvs)
def dT (kvs : List (D × D)) : D := .dict ((.none, .bool true) :: kvs)
def obj (c : Nat) (fs : List (D × D)) : D := .dict ((.none, .int (c : Nat)) :: fs)
def exc (c : Nat) (fs : List (D × D)) : D := .dict ((.none, .list [.int (c : Nat)]) :: fs)
def kD : L2.Key → D
  | .inl i => .int i
  | .inr s => .str s
/-- the program's classes, by number; the box -/
structure Tab where
  K : PySem.W.Frag
  cls : Nat → Addr
  bx : Option Addr
mutual
inductive Is (T : Tab) (H : Hp) : V → D → Prop
  | non : Is T H .non .none
  | bl (b : Bool) : Is T H (.bl b) (.bool b)
  | int (i : Int) : Is T H (.int i) (.int i)
  | str (x : Str) : Is T H (.str x) (.str x)
  | lst {a : Addr} {xs : List V} {ds : List D} : H a = some (.lst xs) → IsL T H xs ds → Is T H (.ref a) (.list ds)
  | tup {a : Addr} {xs : List V} {ds : List D} : SqT T.K H a xs → IsL T H xs ds → Is T H (.ref a) (.tuple ds)
  | box {a : Addr} : T.bx = some a → Is T H (.ref a) (.dict [(.none, .none)])
  | dk {a : Addr} {kvs : List (L2.Key × V)} {ks : List (D × D)} : Rd H a (.dK kvs) → IsK T H kvs ks → Is T H (.ref a) (.dict ((.none, .bool false) :: ks))
  | dt {a : Addr} {kvs : List (List L2.Key × V)} {ks : List (D × D)} : Rd H a (.dT kvs) → IsT T H kvs ks → Is T H (.ref a) (.dict ((.none, .bool true) :: ks))
  | obj {a dx : Addr} {c : Nat} {us : List (Str × V)} {fs : List (D × D)} : H a = some (.ins (T.cls c) dx us) → H dx = some (.own a) → IsF T H us fs → Is T H (.ref a) (.dict ((.none, .int (c : Nat)) :: fs))
  | exc {a dd : Addr} {c : Nat} {us : List (Str × V)} {fs : List (D × D)} : H a = some (XO (.ref (T.cls c)) (some dd) a) → H dd = some (.xd us) → IsF T H us fs → Is T H (.ref a) (.dict ((.none, .list [.int (c : Nat)]) :: fs))
  | exn {a : Addr} {c : Nat} : H a = some (XO (.ref (T.cls c)) none a) → Is T H (.ref a) (.dict ((.none, .list [.int (c : Nat)]) :: []))
inductive IsL (T : Tab) (H : Hp) : List V → List D → Prop
  | nil : IsL T H [] []
  | cons {v : V} {vs : List V} {d : D} {ds : List D} : Is T H v d → IsL T H vs ds → IsL T H (v :: vs) (d :: ds)
inductive IsK (T : Tab) (H : Hp) : List (L2.Key × V) → List (D × D) → Prop
  | nil : IsK T H [] []
  | cons {k : L2.Key} {v : V} {vs : List (L2.Key × V)} {d : D} {ds : List (D × D)} : Is T H v d → IsK T H vs ds → IsK T H ((k, v) :: vs) ((kD k, d) :: ds)
inductive IsT (T : Tab) (H : Hp) : List (List L2.Key × V) → List (D × D) → Prop
  | nil : IsT T H [] []
  | cons {k : List L2.Key} {v : V} {vs : List (List L2.Key × V)} {d : D} {ds : List (D × D)} : Is T H v d → IsT T H vs ds → IsT T H ((k, v) :: vs) ((.tuple (k.map kD), d) :: ds)
inductive IsF (T : Tab) (H : Hp) : List (Str × V) → List (D × D) → Prop
  | nil : IsF T H [] []
  | cons {f : Str} {v : V} {vs : List (Str × V)} {d : D} {ds : List (D × D)} : Is T H v d → IsF T H vs ds → IsF T H ((f, v) :: vs) ((.str f, d) :: ds)
end
section
variable {T : Tab} {H H' : Hp}
theorem rd_same {a : Addr} {u : HO} (s : Same H H') (h : Rd H a u) : Rd H' a u := by
  rcases h with h | ⟨o, h⟩
  · exact .inl (s _ _ h)
  · exact .inr ⟨o, s _ _ h⟩
theorem sqt_same {K : PySem.W.Frag} {a : Addr} {xs : List V} (e : Same H H') (h : SqT K H a xs) : SqT K H' a xs := by
  rcases h with h | h
  · exact .inl (rd_same e h)
  · exact .inr h
mutual
theorem Is.same (s : Same H H') : ∀ {v : V} {d : D}, Is T H v d → Is T H' v d
  | _, _, .non => .non
  | _, _, .bl b => .bl b
  | _, _, .int i => .int i
  | _, _, .str x => .str x
  | _, _, .lst h r => .lst (s _ _ h) (IsL.same s r)
  | _, _, .tup h r => .tup (sqt_same s h) (IsL.same s r)
  | _, _, .box h => .box h
  | _, _, .dk h r => .dk (rd_same s h) (IsK.same s r)
  | _, _, .dt h r => .dt (rd_same s h) (IsT.same s r)
  | _, _, .obj h1 h2 r => .obj (s _ _ h1) (s _ _ h2) (IsF.same s r)
  | _, _, .exc h1 h2 r => .exc (s _ _ h1) (s _ _ h2) (IsF.same s r)
  | _, _, .exn h => .exn (s _ _ h)
theorem IsL.same (s : Same H H') : ∀ {v : List V} {d : List D}, IsL T H v d → IsL T H' v d
  | _, _, .nil => .nil
  | _, _, .cons h r => .cons (Is.same s h) (IsL.same s r)
theorem IsK.same (s : Same H H') : ∀ {v : List (L2.Key × V)} {d : List (D × D)}, IsK T H v d → IsK T H' v d
  | _, _, .nil => .nil
  | _, _, .cons h r => .cons (Is.same s h) (IsK.same s r)
theorem IsT.same (s : Same H H') : ∀ {v : List (List L2.Key × V)} {d : List (D × D)}, IsT T H v d → IsT T H' v d
  | _, _, .nil => .nil
  | _, _, .cons h r => .cons (Is.same s h) (IsT.same s r)
theorem IsF.same (s : Same H H') : ∀ {v : List (Str × V)} {d : List (D × D)}, IsF T H v d → IsF T H' v d
  | _, _, .nil => .nil
  | _, _, .cons h r => .cons (Is.same s h) (IsF.same s r)
end
/-! data without marked dicts -/
mutual
def plain : D → Bool
  | .list ds => plains ds
  | .tuple ds => plains ds
  | .dict _ => false
  | _ => true
def plains : List D → Bool
  | [] => true
  | d :: ds => plain d && plains ds
end
mutual
theorem Is.dp : ∀ {v : V} {d : D}, Is T H v d → plain d = true → Dp T.K H v d
  | _, _, .non, _ => .non
  | _, _, .bl b, _ => .bl b
  | _, _, .int i, _ => .int i
  | _, _, .str x, _ => .str x
  | _, _, .lst h r, p => .lst (SqL.of h) (IsL.dp r p)
  | _, _, .tup h r, p => .tup h (IsL.dp r p)
  | _, _, .box _, p => by cases p
  | _, _, .dk _ _, p => by cases p
  | _, _, .dt _ _, p => by cases p
  | _, _, .obj _ _ _, p => by cases p
  | _, _, .exc _ _ _, p => by cases p
  | _, _, .exn _, p => by cases p
theorem IsL.dp : ∀ {v : List V} {d : List D}, IsL T H v d → plains d = true → DpAll T.K H v d
  | _, _, .nil, _ => .nil
  | _, _, .cons h r, p => .cons (Is.dp h (Bool.and_eq_true_iff.mp p).1) (IsL.dp r (Bool.and_eq_true_iff.mp p).2)
end
theorem IsL.length : ∀ {v : List V} {d : List D}, IsL T H v d → v.length = d.length
  | _, _, .nil => rfl
  | _, _, .cons _ r => by rw [List.length_cons, List.length_cons, r.length]
theorem IsL.get : ∀ {v : List V} {d : List D}, IsL T H v d → ∀ {i : Nat} {x : D}, d[i]? = some x → ∃ y, v[i]? = some y ∧ Is T H y x
  | _, _, .nil, _, _, e => by cases e
  | _, _, .cons h r, 0, _, e => by cases e; exact ⟨_, rfl, h⟩
  | _, _, .cons h r, i + 1, x, e => by
    obtain ⟨y, e1, e2⟩ := r.get (i := i) (x := x) e
    exact ⟨y, e1, e2⟩
theorem IsL.append : ∀ {v w : List V} {d e : List D}, IsL T H v d → IsL T H w e → IsL T H (v ++ w) (d ++ e)
  | _, _, _, _, .nil, s => s
  | _, _, _, _, .cons h r, s => .cons h (r.append s)
theorem IsL.take : ∀ {v : List V} {d : List D} (n : Nat), IsL T H v d → IsL T H (v.take n) (d.take n)
  | _, _, 0, _ => .nil
  | _, _, _ + 1, .nil => .nil
  | _, _, n + 1, .cons h r => .cons h (r.take n)
theorem IsL.drop : ∀ {v : List V} {d : List D} (n : Nat), IsL T H v d → IsL T H (v.drop n) (d.drop n)
  | _, _, 0, r => r
  | _, _, _ + 1, .nil => .nil
  | _, _, n + 1, .cons _ r => r.drop n
theorem IsL.set {x : V} {y : D} (hx : Is T H x y) : ∀ {v : List V} {d : List D} (n : Nat), IsL T H v d → IsL T H (v.set n x) (d.set n y)
  | _, _, _, .nil => .nil
  | _, _, 0, .cons _ t => .cons hx t
  | _, _, i + 1, .cons q t => .cons q (IsL.set hx i t)
theorem IsL.eraseIdx : ∀ {v : List V} {d : List D} (n : Nat), IsL T H v d → IsL T H (v.eraseIdx n) (d.eraseIdx n)
  | _, _, _, .nil => .nil
  | _, _, 0, .cons _ t => t
  | _, _, i + 1, .cons q t => .cons q (IsL.eraseIdx i t)
theorem IsL.reverse : ∀ {v : List V} {d : List D}, IsL T H v d → IsL T H v.reverse d.reverse
  | _, _, .nil => .nil
  | _, _, .cons h r => by
    rw [List.reverse_cons, List.reverse_cons]
    exact (IsL.reverse r).append (.cons h .nil)
end
end RM
namespace RM
open PySem PySem.Spec PyProof.Rows L2 CS RZ
/-- the box of draws at b: what is left of the number, the seed, how often it was asked -/
def BoxAt (H : Hp) (b : Addr) (n : Nat) : Prop := ∃ A B C : Int, H b = some (.lst [.int A, .int B, .int C]) ∧ 0 ≤ A ∧ 0 ≤ B ∧ B < 2 ^ 62 ∧ 0 ≤ C ∧ C ≤ n
/-- a def's activation: the classes and the box, the addresses hidden from its values, the heap at its entry -/
structure Ctx where
  T : Tab
  Z : Addr → Prop
  H0 : Hp
  slf : Option Addr := none
  B : Hp := fun _ => none
/-- a marked object -/
def isObjD : D → Bool
  | .dict ((.none, .int _) :: _) => true
  | _ => false
/-- a slot: a value, or a list, a dict, an object that this frame alone knows -/
inductive Sl where
  | v (d : D)
  | own (d : D)
abbrev En := List (Option Sl)
abbrev Ow := Nat → Option Addr
def now : Ow := fun _ => none
open Classical in
noncomputable def hid (C : Ctx) (O : Ow) (H : Hp) : Hp := fun a => if C.Z a ∨ ∃ i, O i = some a then none else H a
inductive OwnAt (T : Tab) (Hh H : Hp) (p : Addr) : D → Prop
  | lst {xs : List V} {ds : List D} : H p = some (.lst xs) → IsL T Hh xs ds → OwnAt T Hh H p (.list ds)
  | dk {kvs : List (L2.Key × V)} {ks : List (D × D)} : H p = some (.dK kvs) → IsK T Hh kvs ks → OwnAt T Hh H p (.dict ((.none, .bool false) :: ks))
  | dt {kvs : List (List L2.Key × V)} {ks : List (D × D)} : H p = some (.dT kvs) → IsT T Hh kvs ks → OwnAt T Hh H p (.dict ((.none, .bool true) :: ks))
  | obj {dx : Addr} {c : Nat} {us : List (Str × V)} {fs : List (D × D)} : H p = some (.ins (T.cls c) dx us) → Hh dx = some (.own p) → IsF T Hh us fs → OwnAt T Hh H p (.dict ((.none, .int (c : Nat)) :: fs))
theorem OwnAt.some {T : Tab} {Hh H : Hp} {p : Addr} {d : D} (h : OwnAt T Hh H p d) : ∃ o, H p = some o := by
  cases h with
  | lst h _ => exact ⟨_, h⟩
  | dk h _ => exact ⟨_, h⟩
  | dt h _ => exact ⟨_, h⟩
  | obj h _ _ => exact ⟨_, h⟩
theorem OwnAt.same {T : Tab} {Hh H Hh' H' : Hp} {p : Addr} {d : D} (h : OwnAt T Hh H p d) (s : Same Hh Hh') (e : H' p = H p) : OwnAt T Hh' H' p d := by
  cases h with
  | lst h r => exact .lst (e.trans h) (r.same s)
  | dk h r => exact .dk (e.trans h) (r.same s)
  | dt h r => exact .dt (e.trans h) (r.same s)
  | obj h h2 r => exact .obj (e.trans h) (s _ _ h2) (r.same s)
theorem OwnAt.notup {T : Tab} {Hh H : Hp} {p : Addr} {d : D} (h : OwnAt T Hh H p d) (xs : List V) : H p ≠ Option.some (HO.tup xs) := fun z => by
  cases h with
  | lst h _ => rw [h] at z; cases z
  | dk h _ => rw [h] at z; cases z
  | dt h _ => rw [h] at z; cases z
  | obj h _ _ => rw [h] at z; cases z
structure Ev (C : Ctx) (ρ : En) (n : Nat) (σ : L2.St) (H : Hp) (O : Ow) : Prop where
  len : ρ.length = σ.length
  val : ∀ (i : Nat) (d : D), ρ[i]? = some (some (Sl.v d)) → ∃ v, σ[i]? = some (some v) ∧ Is C.T (hid C O H) v d
  own : ∀ (i : Nat) (d : D), ρ[i]? = some (some (Sl.own d)) → ∃ p, O i = some p ∧ σ[i]? = some (some (.ref p)) ∧ OwnAt C.T (hid C O H) H p d
  only : ∀ (i : Nat) (p : Addr), O i = some p → (∃ d, ρ[i]? = some (some (Sl.own d))) ∧ C.H0 p = none
  inj : ∀ (i j : Nat) (p : Addr), O i = some p → O j = some p → i = j
  zs : ∀ a, C.Z a → ∃ o, C.H0 a = some o
  zt : ∀ a xs, C.Z a → C.H0 a ≠ some (.tup xs)
  keep : ∀ a o, C.H0 a = some o → C.T.bx ≠ some a → H a = some o
  box : ∀ b, C.T.bx = some b → C.Z b ∧ BoxAt H b n
  slf : ∀ (p : Addr), C.slf = some p → ∀ (i : Nat) (q : Addr) (d : D), O i = some q → ρ[i]? = some (some (Sl.own d)) → isObjD d = true → q = p
  vis : Same C.B (hid C O H)
section
variable {C : Ctx} {ρ : En} {n : Nat} {σ : L2.St} {H H' : Hp} {O : Ow}
theorem hid_some {a : Addr} {o : HO} (h : hid C O H a = some o) : H a = some o ∧ ¬ C.Z a ∧ ∀ i, O i ≠ some a := by
  unfold hid at h
  split at h
  · cases h
  · rename_i q
    exact ⟨h, fun z => q (.inl z), fun i z => q (.inr ⟨i, z⟩)⟩
theorem hid_of {a : Addr} {o : HO} (h : H a = some o) (z : ¬ C.Z a) (q : ∀ i, O i ≠ some a) : hid C O H a = some o := by
  unfold hid
  rw [if_neg]
  · exact h
  · rintro (w | ⟨i, w⟩)
    · exact z w
    · exact q i w
theorem hid_le : Same (hid C O H) H := fun a o h => (hid_some h).1
theorem hid_same (s : Same H H') : Same (hid C O H) (hid C O H') := fun a o h => by
  obtain ⟨h1, h2, h3⟩ := hid_some h
  exact hid_of (s _ _ h1) h2 h3
/-- all but the box is kept -/
def Kb (T : Tab) (H H' : Hp) : Prop := ∀ a o, H a = some o → T.bx ≠ some a → H' a = some o
theorem Kb.of_same {T : Tab} (s : Same H H') : Kb T H H' := fun a o h _ => s a o h
theorem Kb.refl {T : Tab} : Kb T H H := fun a o h _ => h
theorem Kb.trans {T : Tab} {H1 H2 H3 : Hp} (a : Kb T H1 H2) (b : Kb T H2 H3) : Kb T H1 H3 := fun x o h n => b x o (a x o h n) n
theorem Ev.nbx (E : Ev C ρ n σ H O) {i : Nat} {p : Addr} (h : O i = some p) : C.T.bx ≠ some p := fun z => by
  have h1 := (E.only i p h).2
  obtain ⟨o, h2⟩ := E.zs p (E.box p z).1
  rw [h1] at h2
  cases h2
theorem Ev.hidKb (E : Ev C ρ n σ H O) (s : Kb C.T H H') : Same (hid C O H) (hid C O H') := fun a o h => by
  obtain ⟨h1, h2, h3⟩ := hid_some h
  exact hid_of (s _ _ h1 fun z => h2 (E.box a z).1) h2 h3
theorem Ev.extB {n' : Nat} (E : Ev C ρ n σ H O) (s : Kb C.T H H') (hb : ∀ b, C.T.bx = some b → BoxAt H' b n') : Ev C ρ n' σ H' O where
  len := E.len
  val := fun i d e => let ⟨v, h1, h2⟩ := E.val i d e; ⟨v, h1, h2.same (E.hidKb s)⟩
  own := fun i d e => by
    obtain ⟨p, h1, h2, h3⟩ := E.own i d e
    obtain ⟨o, ho⟩ := h3.some
    exact ⟨p, h1, h2, h3.same (E.hidKb s) ((s _ _ ho (E.nbx h1)).trans ho.symm)⟩
  only := E.only
  inj := E.inj
  zs := E.zs
  zt := E.zt
  keep := fun a o h z => s _ _ (E.keep a o h z) z
  box := fun b h => ⟨(E.box b h).1, hb b h⟩
  slf := E.slf
  vis := E.vis.trans (E.hidKb s)
theorem BoxAt.same {b : Addr} (h : BoxAt H b n) (s : Same H H') : BoxAt H' b n := let ⟨A, B, C, e, r⟩ := h; ⟨A, B, C, s _ _ e, r⟩
theorem Ev.ext (E : Ev C ρ n σ H O) (s : Same H H') : Ev C ρ n σ H' O := E.extB (Kb.of_same s) fun b h => (E.box b h).2.same s
/-- a new address is nobody's -/
theorem Ev.fresh (E : Ev C ρ n σ H O) {p : Addr} (h : H p = none) : ¬ C.Z p ∧ (∀ i, O i ≠ some p) ∧ C.H0 p = none ∧ C.T.bx ≠ some p := by
  have h3 : C.T.bx ≠ some p := fun z => by
    obtain ⟨_, A, B, D, e, _⟩ := E.box p z
    rw [h] at e
    cases e
  have h4 : C.H0 p = none := by
    cases q : C.H0 p with
    | none => rfl
    | some o =>
      have := E.keep p o q h3
      rw [h] at this
      cases this
  refine ⟨fun z => ?_, fun i z => ?_, h4, h3⟩
  · obtain ⟨o, e⟩ := E.zs p z
    rw [h4] at e
    cases e
  · obtain ⟨⟨d, e⟩, _⟩ := E.only i p z
    obtain ⟨q, h1, _, h5⟩ := E.own i d e
    rw [z] at h1
    cases h1
    obtain ⟨o, ho⟩ := h5.some
    rw [h] at ho
    cases ho
theorem same_new {p : Addr} {o : HO} (h : H p = none) : Same H (upd H p o) := fun b x e => by
  rw [upd_ne (ne_of_none e h)]
  exact e
theorem Ev.new (E : Ev C ρ n σ H O) {p : Addr} {o : HO} (h : H p = none) : Ev C ρ n σ (upd H p o) O ∧ Same (hid C O H) (hid C O (upd H p o)) ∧ hid C O (upd H p o) p = some o := by
  have s := same_new (o := o) h
  obtain ⟨h1, h2, _⟩ := E.fresh h
  exact ⟨E.ext s, hid_same s, hid_of upd_same h1 h2⟩
/-- the slots of values -/
theorem lt_of_get {α : Type} {l : List α} {i : Nat} {x : α} (e : l[i]? = some x) : i < l.length := (List.getElem?_eq_some_iff.mp e).1
open Classical in
noncomputable def cutO (O : Ow) (i : Nat) : Ow := fun j => if j = i then none else O j
theorem cutO_some {i j : Nat} {p : Addr} (h : cutO O i j = some p) : j ≠ i ∧ O j = some p := by
  unfold cutO at h
  split at h
  · cases h
  · rename_i q
    exact ⟨q, h⟩
theorem hid_cut {i : Nat} : Same (hid C O H) (hid C (cutO O i) H) := fun a o h => by
  obtain ⟨h1, h2, h3⟩ := hid_some h
  exact hid_of h1 h2 fun j z => h3 j (cutO_some z).2
/-- a value is stored -/
theorem Ev.set (E : Ev C ρ n σ H O) {i : Nat} {v : V} {d : D} (hd : Is C.T (hid C O H) v d) : Ev C (ρ.set i (some (Sl.v d))) n (σ.set i (some v)) H (cutO O i) ∧ Same (hid C O H) (hid C (cutO O i) H) := by
  refine ⟨⟨?_, ?_, ?_, ?_, ?_, E.zs, E.zt, E.keep, E.box, fun p hp j q d h1 h2 h3 => (by
    obtain ⟨c, h1⟩ := cutO_some h1
    rw [List.getElem?_set_ne (Ne.symm c)] at h2
    exact E.slf p hp j q d h1 h2 h3), E.vis.trans hid_cut⟩, hid_cut⟩
  · rw [List.length_set, List.length_set, E.len]
  · intro j e h
    by_cases c : j = i
    · subst c
      have hl := lt_of_get h
      rw [List.length_set] at hl
      rw [List.getElem?_set_self hl] at h
      cases h
      rw [List.getElem?_set_self (by rw [← E.len]; exact hl)]
      exact ⟨v, rfl, hd.same hid_cut⟩
    · rw [List.getElem?_set_ne (Ne.symm c)] at h ⊢
      obtain ⟨u, h1, h2⟩ := E.val j e h
      exact ⟨u, h1, h2.same hid_cut⟩
  · intro j e h
    by_cases c : j = i
    · subst c
      have hl := lt_of_get h
      rw [List.length_set] at hl
      rw [List.getElem?_set_self hl] at h
      cases h
    · rw [List.getElem?_set_ne (Ne.symm c)] at h ⊢
      obtain ⟨p, h1, h2, h3⟩ := E.own j e h
      refine ⟨p, ?_, h2, h3.same hid_cut rfl⟩
      unfold cutO
      rw [if_neg c]
      exact h1
  · intro j p h
    obtain ⟨c, h⟩ := cutO_some h
    rw [List.getElem?_set_ne (Ne.symm c)]
    exact E.only j p h
  · intro j k p h1 h2
    exact E.inj j k p (cutO_some h1).2 (cutO_some h2).2
/-- a slot is forgotten -/
theorem Ev.wipe1 (E : Ev C ρ n σ H O) (i : Nat) : Ev C (ρ.set i none) n (σ.set i none) H (cutO O i) := by
  refine ⟨?_, ?_, ?_, ?_, ?_, E.zs, E.zt, E.keep, E.box, fun p hp j q d h1 h2 h3 => (by
    obtain ⟨c, h1⟩ := cutO_some h1
    rw [List.getElem?_set_ne (Ne.symm c)] at h2
    exact E.slf p hp j q d h1 h2 h3), E.vis.trans hid_cut⟩
  · rw [List.length_set, List.length_set, E.len]
  · intro j e h
    by_cases c : j = i
    · subst c
      have hl := lt_of_get h
      rw [List.length_set] at hl
      rw [List.getElem?_set_self hl] at h
      cases h
    · rw [List.getElem?_set_ne (Ne.symm c)] at h ⊢
      obtain ⟨u, h1, h2⟩ := E.val j e h
      exact ⟨u, h1, h2.same hid_cut⟩
  · intro j e h
    by_cases c : j = i
    · subst c
      have hl := lt_of_get h
      rw [List.length_set] at hl
      rw [List.getElem?_set_self hl] at h
      cases h
    · rw [List.getElem?_set_ne (Ne.symm c)] at h ⊢
      obtain ⟨p, h1, h2, h3⟩ := E.own j e h
      refine ⟨p, ?_, h2, h3.same hid_cut rfl⟩
      unfold cutO
      rw [if_neg c]
      exact h1
  · intro j p h
    obtain ⟨c, h⟩ := cutO_some h
    rw [List.getElem?_set_ne (Ne.symm c)]
    exact E.only j p h
  · intro j k p h1 h2
    exact E.inj j k p (cutO_some h1).2 (cutO_some h2).2
open Classical in
noncomputable def putO (O : Ow) (i : Nat) (p : Addr) : Ow := fun j => if j = i then some p else O j
theorem putO_some {i j : Nat} {p q : Addr} (h : putO O i p j = some q) : (j = i ∧ q = p) ∨ (j ≠ i ∧ O j = some q) := by
  unfold putO at h
  split at h
  · rename_i c
    exact .inl ⟨c, (Option.some.inj h).symm⟩
  · rename_i c
    exact .inr ⟨c, h⟩
theorem fresh_hid (E : Ev C ρ n σ H O) {p : Addr} {i : Nat} (h : H p = none) (s : Same H H') : Same (hid C O H) (hid C (putO O i p) H') := fun a o e => by
  obtain ⟨h1, h2, h3⟩ := hid_some e
  refine hid_of (s _ _ h1) h2 fun j z => ?_
  rcases putO_some z with ⟨_, e⟩ | ⟨_, e⟩
  · rw [e, h] at h1
    cases h1
  · exact h3 j e
/-- a new thing that this slot alone knows -/
theorem Ev.setOwn (E : Ev C ρ n σ H O) {i : Nat} {p : Addr} {d : D} (hi : i < ρ.length) (hn : H p = none) (s : Same H H') (hd : OwnAt C.T (hid C O H) H' p d) (no : isObjD d = false) :
    Ev C (ρ.set i (some (Sl.own d))) n (σ.set i (some (.ref p))) H' (putO O i p) ∧ Same (hid C O H) (hid C (putO O i p) H') := by
  have S := fresh_hid (i := i) E hn s
  obtain ⟨f1, f2, f3, f4⟩ := E.fresh hn
  refine ⟨⟨?_, ?_, ?_, ?_, ?_, E.zs, E.zt, fun a o h z => s _ _ (E.keep a o h z), fun b h => ⟨(E.box b h).1, (E.box b h).2.same s⟩, fun p' hp j q d' h1 h2 h3 => ?_, E.vis.trans S⟩, S⟩
  · rw [List.length_set, List.length_set, E.len]
  · intro j e h
    by_cases c : j = i
    · subst c
      rw [List.getElem?_set_self hi] at h
      cases h
    · rw [List.getElem?_set_ne (Ne.symm c)] at h ⊢
      obtain ⟨u, h1, h2⟩ := E.val j e h
      exact ⟨u, h1, h2.same S⟩
  · intro j e h
    by_cases c : j = i
    · subst c
      rw [List.getElem?_set_self hi] at h
      cases h
      rw [List.getElem?_set_self (by rw [← E.len]; exact hi)]
      refine ⟨p, ?_, rfl, hd.same S rfl⟩
      unfold putO
      rw [if_pos rfl]
    · rw [List.getElem?_set_ne (Ne.symm c)] at h ⊢
      obtain ⟨q, h1, h2, h3⟩ := E.own j e h
      obtain ⟨o, ho⟩ := h3.some
      refine ⟨q, ?_, h2, h3.same S ((s _ _ ho).trans ho.symm)⟩
      unfold putO
      rw [if_neg c]
      exact h1
  · intro j q h
    rcases putO_some h with ⟨rfl, rfl⟩ | ⟨c, h⟩
    · rw [List.getElem?_set_self hi]
      exact ⟨⟨d, rfl⟩, f3⟩
    · rw [List.getElem?_set_ne (Ne.symm c)]
      exact E.only j q h
  · intro j k q h1 h2
    rcases putO_some h1 with ⟨a1, a2⟩ | ⟨c, a1⟩
    · rcases putO_some h2 with ⟨b1, _⟩ | ⟨_, b1⟩
      · rw [a1, b1]
      · exact absurd (a2 ▸ b1) (f2 k)
    · rcases putO_some h2 with ⟨_, b2⟩ | ⟨_, b1⟩
      · exact absurd (b2 ▸ a1) (f2 j)
      · exact E.inj j k q a1 b1
  · rcases putO_some h1 with ⟨rfl, rfl⟩ | ⟨c, h1⟩
    · rw [List.getElem?_set_self hi] at h2
      cases h2
      rw [no] at h3
      cases h3
    · rw [List.getElem?_set_ne (Ne.symm c)] at h2
      exact E.slf p' hp j q d' h1 h2 h3
/-- the thing of an own slot changes -/
theorem Ev.chg (E : Ev C ρ n σ H O) {i : Nat} {p : Addr} {d : D} {o : HO} (hi : i < ρ.length) (hO : O i = some p) (hd : OwnAt C.T (hid C O H) (upd H p o) p d) (ho : isObjD d = true → ∃ d0, ρ[i]? = some (some (Sl.own d0)) ∧ isObjD d0 = true := by exact fun h => nomatch h) :
    Ev C (ρ.set i (some (Sl.own d))) n σ (upd H p o) O ∧ Same (hid C O H) (hid C O (upd H p o)) := by
  have S : Same (hid C O H) (hid C O (upd H p o)) := fun a u e => by
    obtain ⟨h1, h2, h3⟩ := hid_some e
    refine hid_of ?_ h2 h3
    rw [upd_ne fun z => h3 i (by rw [z]; exact hO)]
    exact h1
  have hs : σ[i]? = some (some (.ref p)) := by
    obtain ⟨d', e⟩ := (E.only i p hO).1
    obtain ⟨q, h1, h2, _⟩ := E.own i d' e
    rw [hO] at h1
    cases h1
    exact h2
  refine ⟨⟨?_, ?_, ?_, ?_, E.inj, E.zs, E.zt, fun a u h z => ?_, fun b h => ⟨(E.box b h).1, ?_⟩, fun p' hp j q d' h1 h2 h3 => ?_, E.vis.trans S⟩, S⟩
  · rw [List.length_set, E.len]
  · intro j e h
    by_cases c : j = i
    · subst c
      rw [List.getElem?_set_self hi] at h
      cases h
    · rw [List.getElem?_set_ne (Ne.symm c)] at h
      obtain ⟨u, h1, h2⟩ := E.val j e h
      exact ⟨u, h1, h2.same S⟩
  · intro j e h
    by_cases c : j = i
    · subst c
      rw [List.getElem?_set_self hi] at h
      cases h
      exact ⟨p, hO, hs, hd.same S rfl⟩
    · rw [List.getElem?_set_ne (Ne.symm c)] at h
      obtain ⟨q, h1, h2, h3⟩ := E.own j e h
      refine ⟨q, h1, h2, h3.same S (upd_ne fun z => c (E.inj j i p (z ▸ h1) hO))⟩
  · intro j q h
    by_cases c : j = i
    · subst c
      rw [List.getElem?_set_self hi]
      exact ⟨⟨d, rfl⟩, (E.only j q h).2⟩
    · rw [List.getElem?_set_ne (Ne.symm c)]
      exact E.only j q h
  · rw [upd_ne fun q => ?_]
    · exact E.keep a u h z
    · rw [q, (E.only i p hO).2] at h
      cases h
  · obtain ⟨A, B, D, e, r⟩ := (E.box b h).2
    refine ⟨A, B, D, ?_, r⟩
    rw [upd_ne fun z => E.nbx hO (h.trans (congrArg some z))]
    exact e
  · by_cases c : j = i
    · subst c
      rw [List.getElem?_set_self hi] at h2
      cases h2
      obtain ⟨d0, e0, e1⟩ := ho h3
      exact E.slf p' hp j q d0 h1 e0 e1
    · rw [List.getElem?_set_ne (Ne.symm c)] at h2
      exact E.slf p' hp j q d' h1 h2 h3
/-- an own slot becomes a value: its list -/
theorem Ev.frz (E : Ev C ρ n σ H O) {i : Nat} {v : V} {d : D} (hi : i < ρ.length) (hs : σ[i]? = some (some v)) (hd : Is C.T (hid C (cutO O i) H) v d) : Ev C (ρ.set i (some (Sl.v d))) n σ H (cutO O i) := by
  refine ⟨?_, ?_, ?_, ?_, ?_, E.zs, E.zt, E.keep, E.box, fun p hp j q d h1 h2 h3 => (by
    obtain ⟨c, h1⟩ := cutO_some h1
    rw [List.getElem?_set_ne (Ne.symm c)] at h2
    exact E.slf p hp j q d h1 h2 h3), E.vis.trans hid_cut⟩
  · rw [List.length_set, E.len]
  · intro j e h
    by_cases c : j = i
    · subst c
      rw [List.getElem?_set_self hi] at h
      cases h
      exact ⟨v, hs, hd⟩
    · rw [List.getElem?_set_ne (Ne.symm c)] at h
      obtain ⟨u, h1, h2⟩ := E.val j e h
      exact ⟨u, h1, h2.same hid_cut⟩
  · intro j e h
    by_cases c : j = i
    · subst c
      rw [List.getElem?_set_self hi] at h
      cases h
    · rw [List.getElem?_set_ne (Ne.symm c)] at h
      obtain ⟨p, h1, h2, h3⟩ := E.own j e h
      refine ⟨p, ?_, h2, h3.same hid_cut rfl⟩
      unfold cutO
      rw [if_neg c]
      exact h1
  · intro j p h
    obtain ⟨c, h⟩ := cutO_some h
    rw [List.getElem?_set_ne (Ne.symm c)]
    exact E.only j p h
  · intro j k p h1 h2
    exact E.inj j k p (cutO_some h1).2 (cutO_some h2).2
/-- a tuple is hidden from nobody -/
theorem Ev.tup (E : Ev C ρ n σ H O) {a : Addr} {xs : List V} (h : H a = some (.tup xs)) : hid C O H a = some (.tup xs) := by
  refine hid_of h (fun z => ?_) fun i z => ?_
  · by_cases c : C.T.bx = some a
    · obtain ⟨A, B, F, e, _⟩ := (E.box a c).2
      rw [h] at e
      cases e
    · obtain ⟨o, ho⟩ := E.zs a z
      have := E.keep a o ho c
      rw [h] at this
      cases this
      exact E.zt a xs z ho
  · obtain ⟨⟨d, e⟩, _⟩ := E.only i a z
    obtain ⟨p, h1, _, h3⟩ := E.own i d e
    rw [z] at h1
    cases h1
    exact h3.notup xs h
end
end RM
namespace RM
open PySem PySem.Spec PyProof.Rows L2 CS RZ
/-! ### readings over data -/
abbrev Xv := Nat × List (D × D)
abbrev KE := Xv → En → Nat → Prop
abbrev CE := En → Nat → (D → En → Nat → Prop) → KE → Prop
abbrev CA := En → Nat → (List D → En → Nat → Prop) → KE → Prop
abbrev CT := En → Nat → (Bool → En → Nat → Prop) → KE → Prop
def XIs (T : Tab) (Hh : Hp) (dd : Option Addr) (fs : List (D × D)) : Prop := (dd = none ∧ fs = []) ∨ ∃ a us, dd = some a ∧ Hh a = some (.xd us) ∧ IsF T Hh us fs
theorem XIs.same {T : Tab} {H H' : Hp} {dd : Option Addr} {fs : List (D × D)} (h : XIs T H dd fs) (s : Same H H') : XIs T H' dd fs := by
  rcases h with h | ⟨a, us, e, h1, h2⟩
  · exact .inl h
  · exact .inr ⟨a, us, e, s _ _ h1, h2.same s⟩
def XL (C : Ctx) (xk : WX) (ke : KE) : Prop := ∀ (c : Nat) (fs : List (D × D)) (ρ : En) (n : Nat) (σ : L2.St) (H : Hp) (O : Ow) (dd : Option Addr), ke (c, fs) ρ n → Ev C ρ n σ H O → XIs C.T (hid C O H) dd fs → xk (.ref (C.T.cls c)) dd σ H
/-- the written part and the classes by number -/
structure Glob where
  K : PySem.W.Frag
  cls : Nat → Addr
def Ctx.On (C : Ctx) (g : Glob) : Prop := C.T.K = g.K ∧ C.T.cls = g.cls
def xF : WX := fun _ _ _ _ => False
def lift (g : Glob) (xk : WX) (td : CE) : TE := fun σ H Q => ∃ (C : Ctx) (ρ : En) (n : Nat) (O : Ow) (k : D → En → Nat → Prop) (ke : KE), C.On g ∧ Ev C ρ n σ H O ∧ td ρ n k ke ∧ XL C xk ke ∧
  ∀ (d : D) (ρ' : En) (n' : Nat) (v : V) (H' : Hp) (O' : Ow), k d ρ' n' → Ev C ρ' n' σ H' O' → Same (hid C O H) (hid C O' H') → Is C.T (hid C O' H') v d → Q v H'
def liftT (g : Glob) (xk : WX) (td : CT) : TT := fun σ H Q => ∃ (C : Ctx) (ρ : En) (n : Nat) (O : Ow) (k : Bool → En → Nat → Prop) (ke : KE), C.On g ∧ Ev C ρ n σ H O ∧ td ρ n k ke ∧ XL C xk ke ∧
  ∀ (b : Bool) (ρ' : En) (n' : Nat) (H' : Hp) (O' : Ow), k b ρ' n' → Ev C ρ' n' σ H' O' → Same (hid C O H) (hid C O' H') → Q b H'
def liftA (g : Glob) (xk : WX) (td : CA) : TA := fun σ H Q => ∃ (C : Ctx) (ρ : En) (n : Nat) (O : Ow) (k : List D → En → Nat → Prop) (ke : KE), C.On g ∧ Ev C ρ n σ H O ∧ td ρ n k ke ∧ XL C xk ke ∧
  ∀ (ds : List D) (ρ' : En) (n' : Nat) (vs : List V) (H' : Hp) (O' : Ow), k ds ρ' n' → Ev C ρ' n' σ H' O' → Same (hid C O H) (hid C O' H') → IsL C.T (hid C O' H') vs ds → Q vs H'
/-- a new thing at p, of which nobody else knows -/
def liftF (g : Glob) (xk : WX) (td : CE) : TE := fun σ H Q => ∃ (C : Ctx) (ρ : En) (n : Nat) (O : Ow) (k : D → En → Nat → Prop) (ke : KE), C.On g ∧ Ev C ρ n σ H O ∧ td ρ n k ke ∧ XL C xk ke ∧
  ∀ (d : D) (ρ' : En) (n' : Nat) (p : Addr) (H1 H' : Hp) (O' : Ow), k d ρ' n' → Ev C ρ' n' σ H1 O' → Same (hid C O H) (hid C O' H1) → H1 p = none → Same H1 H' → OwnAt C.T (hid C O' H1) H' p d → isObjD d = false → Q (.ref p) H'
structure Good (X : Cx) (g : Glob) : Prop where
  K : g.K = X.K
structure PD (X : Cx) (g : Glob) (xk : WX) (e : Expr) (td : CE) : Prop where
  pe : PE X e (lift g xk td)
structure PDT (X : Cx) (g : Glob) (xk : WX) (e : Expr) (td : CT) : Prop where
  pt : PT X e (liftT g xk td)
structure PDA (X : Cx) (g : Glob) (xk : WX) (es : List Expr) (td : CA) : Prop where
  pa : PA X es (liftA g xk td)
structure PDF (X : Cx) (g : Glob) (xk : WX) (e : Expr) (td : CE) : Prop where
  pe : PE X e (liftF g xk td)
theorem PE.imp {X : Cx} {e : Expr} {t t' : TE} (h : PE X e t) (q : ∀ σ H Q, t' σ H Q → t σ H Q) : PE X e t' := ⟨fun pins s σ H Q I r => h.run pins s σ H Q I (q _ _ _ r)⟩
theorem PT.imp {X : Cx} {e : Expr} {t t' : TT} (h : PT X e t) (q : ∀ σ H Q, t' σ H Q → t σ H Q) : PT X e t' := ⟨fun pins s σ H Q I r => h.run pins s σ H Q I (q _ _ _ r)⟩
theorem PA.imp {X : Cx} {e : List Expr} {t t' : TA} (h : PA X e t) (q : ∀ σ H Q, t' σ H Q → t σ H Q) : PA X e t' := ⟨fun pos pins s σ H Q I r => h.run pos pins s σ H Q I (q _ _ _ r)⟩
theorem Dp.len {K : PySem.W.Frag} {H : Hp} : True := trivial
def lim : Nat := 10000000
theorem lim_le {n : Nat} (h : n ≤ lim) : n ≤ sizeLine := Nat.le_trans h (by decide)
theorem lim_lt {n : Nat} (h : n < lim) : n < sizeLine := Nat.lt_of_lt_of_le h (by decide)
section
variable {X : Cx} {g : Glob} {C : Ctx} {xk : WX} {pos : Pos}
/-! ### names -/
def cVar (i : Nat) : CE := fun ρ n k _ => match ρ[i]? with
  | some (some (Sl.v d)) => k d ρ n
  | some (some (Sl.own d)) => k d (ρ.set i (some (Sl.v d))) n
  | _ => False
theorem same_at {ρ : En} {n : Nat} {σ : L2.St} {H : Hp} {O : Ow} {i : Nat} {p : Addr} {u : HO} (E : Ev C ρ n σ H O) (hO : O i = some p) : Same (hid C O H) (hid C O (upd H p u)) := fun a o w => by
  obtain ⟨w1, w2, w3⟩ := hid_some w
  have ne : a ≠ p := fun z => w3 i (z ▸ hO)
  refine hid_of ?_ w2 w3
  rw [upd_ne ne]
  exact w1
theorem melt2 {ρ : En} {n : Nat} {σ : L2.St} {H : Hp} {O : Ow} {i : Nat} {p : Addr} {d d0 : D} {u : HO} (E : Ev C ρ n σ H O) (e : ρ[i]? = some (some (Sl.own d0))) (hO : O i = some p) (hs : σ[i]? = some (some (.ref p))) (is : Is C.T (hid C (cutO O i) (upd H p u)) (.ref p) d) :
    Ev C (ρ.set i (some (Sl.v d))) n σ (upd H p u) (cutO O i) ∧ Same (hid C O H) (hid C (cutO O i) (upd H p u)) := by
  have hi := lt_of_get e
  have S1 := same_at (u := u) E hO
  refine ⟨⟨?_, ?_, ?_, ?_, ?_, E.zs, E.zt, ?_, ?_, fun p hp j q d h1 h2 h3 => (by
    obtain ⟨c, h1⟩ := cutO_some h1
    rw [List.getElem?_set_ne (Ne.symm c)] at h2
    exact E.slf p hp j q d h1 h2 h3), E.vis.trans (S1.trans hid_cut)⟩, S1.trans hid_cut⟩
  · rw [List.length_set, E.len]
  · intro j d' h
    by_cases c : j = i
    · subst c
      rw [List.getElem?_set_self hi] at h
      cases h
      exact ⟨_, hs, is⟩
    · rw [List.getElem?_set_ne (Ne.symm c)] at h
      obtain ⟨v, a1, a2⟩ := E.val j d' h
      exact ⟨v, a1, (a2.same S1).same hid_cut⟩
  · intro j d' h
    by_cases c : j = i
    · subst c
      rw [List.getElem?_set_self hi] at h
      cases h
    · rw [List.getElem?_set_ne (Ne.symm c)] at h
      obtain ⟨q, a1, a2, a3⟩ := E.own j d' h
      have ne : q ≠ p := fun z => c (E.inj j i p (z ▸ a1) hO)
      refine ⟨q, ?_, a2, (a3.same S1 (upd_ne ne)).same hid_cut rfl⟩
      unfold cutO
      rw [if_neg c]
      exact a1
  · intro j q h
    obtain ⟨c, h⟩ := cutO_some h
    rw [List.getElem?_set_ne (Ne.symm c)]
    exact E.only j q h
  · intro j k q h1 h2
    exact E.inj j k q (cutO_some h1).2 (cutO_some h2).2
  · intro a o h z
    have ne : a ≠ p := fun q => by
      rw [q, (E.only i p hO).2] at h
      cases h
    rw [upd_ne ne]
    exact E.keep a o h z
  · intro b h
    obtain ⟨A, B, F, e', r'⟩ := (E.box b h).2
    have ne : b ≠ p := fun q => E.nbx hO (h.trans (congrArg some q))
    exact ⟨(E.box b h).1, A, B, F, by rw [upd_ne ne]; exact e', r'⟩
/-- what was a frame's own turns into a value: dicts are locked -/
theorem melt {pins : List (Addr × Obj)} {ρ : En} {n : Nat} {σ : L2.St} {H : Hp} {O : Ow} {s : Shared} {i : Nat} {p : Addr} {d : D} (E : Ev C ρ n σ H O) (I : Inv X pins σ H s) (e : ρ[i]? = some (some (Sl.own d))) (hO : O i = some p) :
    ∃ H', Inv X pins σ H' s ∧ Ev C (ρ.set i (some (Sl.v d))) n σ H' (cutO O i) ∧ Same (hid C O H) (hid C (cutO O i) H') ∧ Is C.T (hid C (cutO O i) H') (.ref p) d ∧ σ[i]? = some (some (.ref p)) := by
  obtain ⟨q, h1, h2, h3⟩ := E.own i d e
  rw [hO] at h1
  cases h1
  have hi := lt_of_get e
  have pz : ¬ C.Z p := fun z => by
    obtain ⟨o, u⟩ := E.zs p z
    rw [(E.only i p hO).2] at u
    cases u
  have pn : ∀ j, cutO O i j ≠ some p := fun j z => by
    obtain ⟨c, z⟩ := cutO_some z
    exact c (E.inj j i p z hO)
  cases h3 with
  | lst g r =>
    have is : Is C.T (hid C (cutO O i) H) (.ref p) (.list _) := .lst (hid_of g pz pn) (r.same hid_cut)
    exact ⟨H, I, E.frz hi h2 is, hid_cut, is, h2⟩
  | @obj dx c us fs g g2 r =>
    have is : Is C.T (hid C (cutO O i) H) (.ref p) (.dict ((.none, .int (c : Nat)) :: fs)) := .obj (hid_of g pz pn) (hid_cut _ _ g2) (r.same hid_cut)
    exact ⟨H, I, E.frz hi h2 is, hid_cut, is, h2⟩
  | @dk kvs ks g r =>
    obtain ⟨od, J⟩ := I.lock g trivial
    have is : Is C.T (hid C (cutO O i) (upd H p (.frz od (.dK kvs)))) (.ref p) (.dict ((.none, .bool false) :: ks)) := .dk (.inr ⟨od, hid_of upd_same pz pn⟩) ((r.same (same_at E hO)).same hid_cut)
    obtain ⟨a, b⟩ := melt2 E e hO h2 is
    exact ⟨_, J, a, b, is, h2⟩
  | @dt kvs ks g r =>
    obtain ⟨od, J⟩ := I.lock g trivial
    have is : Is C.T (hid C (cutO O i) (upd H p (.frz od (.dT kvs)))) (.ref p) (.dict ((.none, .bool true) :: ks)) := .dt (.inr ⟨od, hid_of upd_same pz pn⟩) ((r.same (same_at E hO)).same hid_cut)
    obtain ⟨a, b⟩ := melt2 E e hO h2 is
    exact ⟨_, J, a, b, is, h2⟩
theorem pd_var (i : Nat) {x : Str} (hN : X.N[i]? = some x := by rfl) (hv : Vis X.env.scope x := by first | exact Or.inl rfl | exact Or.inr (Or.inl rfl) | exact Or.inr (Or.inr rfl)) (hd : (x == ("__debug__" : Str)) = false := by decide)
    (hcd : (x == ("__classdict__" : Str)) = false := by decide) : PD X g xk (.Name x pos) (cVar i) := by
  refine ⟨⟨fun pins s σ H Q I h => ?_⟩⟩
  obtain ⟨C, ρ, n, O, k, ke, hK, E, t, _, q⟩ := h
  unfold cVar at t
  split at t
  · rename_i d e
    obtain ⟨v, h1, h2⟩ := E.val i d e
    exact (pe_var hN hv hd hcd).run pins s σ H Q I ⟨v, h1, q _ _ _ _ _ _ t E (Same.refl _) h2⟩
  · rename_i d e
    obtain ⟨p, h1, _⟩ := E.own i d e
    obtain ⟨H', J, E', S, is, hs⟩ := melt E I e h1
    exact (pe_var hN hv hd hcd).run pins s σ H' Q J ⟨_, hs, q _ _ _ _ _ _ t E' S is⟩
  · exact t.elim
/-! ### constants -/
def cC (d : D) : CE := fun ρ n k _ => k d ρ n
theorem pd_c {e : Expr} {v : V} {d : D} (h : PE X e (tC v)) (hd : ∀ T H, Is T H v d) : PD X g xk e (cC d) := ⟨PE.imp h fun σ H Q ⟨C, ρ, n, O, k, ke, hK, E, t, _, q⟩ => q _ _ _ _ _ _ t E (Same.refl _) (hd _ _)⟩
theorem pd_int {i : Int} {j} : PD X g xk (.Constant (.int i) j pos) (cC (.int i)) := pd_c pe_int fun _ _ => .int i
theorem pd_bl {i : Bool} {j} : PD X g xk (.Constant (.bool i) j pos) (cC (.bool i)) := pd_c pe_bl fun _ _ => .bl i
/-! ### lists of expressions, displays -/
def cNil : CA := fun ρ n k _ => k [] ρ n
def cCons (t : CE) (u : CA) : CA := fun ρ n k ke => t ρ n (fun d ρ1 n1 => u ρ1 n1 (fun ds ρ2 n2 => k (d :: ds) ρ2 n2) ke) ke
theorem pda_nil : PDA X g xk [] cNil := ⟨PA.imp pa_nil fun σ H Q ⟨C, ρ, n, O, k, ke, hK, E, t, _, q⟩ => q _ _ _ _ _ _ t E (Same.refl _) .nil⟩
theorem pda_cons {e : Expr} {es : List Expr} {t : CE} {u : CA} (ha : PD X g xk e t) (hr : PDA X g xk es u) (hs : starEach (e :: es) X.env = (false, eval e X.env) :: starEach es X.env := by rfl) : PDA X g xk (e :: es) (cCons t u) :=
  ⟨PA.imp (pa_cons ha.pe hr.pa hs) fun σ H Q ⟨C, ρ, n, O, k, ke, hK, E, t, x, q⟩ => ⟨C, ρ, n, O, _, ke, hK, E, t, x, fun d ρ1 n1 v H1 O1 k1 E1 S1 i1 => ⟨C, ρ1, n1, O1, _, ke, hK, E1, k1, x, fun ds ρ2 n2 vs H2 O2 k2 E2 S2 i2 =>
    q _ _ _ _ _ _ k2 E2 (S1.trans S2) (.cons (i1.same S2) i2)⟩⟩⟩
def cTup (ta : CA) : CE := fun ρ n k ke => ta ρ n (fun ds ρ' n' => ds.length ≤ lim ∧ k (.tuple ds) ρ' n') ke
def cLst (ta : CA) : CE := fun ρ n k ke => ta ρ n (fun ds ρ' n' => ds.length ≤ lim ∧ k (.list ds) ρ' n') ke
theorem pd_tup {es : List Expr} {ta : CA} {x1} (h : PDA X g xk es ta) : PD X g xk (.Tuple es x1 pos) (cTup ta) :=
  ⟨PE.imp (pe_tup h.pa) fun σ H Q ⟨C, ρ, n, O, k, ke, hK, E, t, x, q⟩ => ⟨C, ρ, n, O, _, ke, hK, E, t, x, fun ds ρ1 n1 vs H1 O1 k1 E1 S1 i1 => ⟨by rw [i1.length]; exact lim_le k1.1, fun p hp => by
    obtain ⟨a, b, c⟩ := E1.new (o := .tup vs) hp
    exact q _ _ _ _ _ _ k1.2 a (S1.trans b) (.tup (.inl (.inl c)) (i1.same b))⟩⟩⟩
theorem pf_lst {es : List Expr} {ta : CA} (h : PDA X g xk es ta) : PDF X g xk (.List es pos) (cLst ta) :=
  ⟨PE.imp (pe_lst h.pa) fun σ H Q ⟨C, ρ, n, O, k, ke, hK, E, t, x, q⟩ => ⟨C, ρ, n, O, _, ke, hK, E, t, x, fun ds ρ1 n1 vs H1 O1 k1 E1 S1 i1 => ⟨by rw [i1.length]; exact lim_le k1.1, fun p hp =>
    q _ _ _ _ _ _ _ k1.2 E1 S1 hp (same_new hp) (.lst upd_same i1) rfl⟩⟩⟩
/-- a new thing used as a value -/
theorem PDF.pd {e : Expr} {td : CE} (h : PDF X g xk e td) (nd : True := trivial) : PD X g xk e td := by
  refine ⟨⟨fun pins s σ H Q I r => ?_⟩⟩
  obtain ⟨C, ρ, n, O, k, ke, hK, E, t, x, q⟩ := r
  refine thn (h.pe.run pins s σ H (fun v H' => ∃ (d : D) (ρ' : En) (n' : Nat) (p : Addr) (H1 : Hp) (O' : Ow), v = .ref p ∧ k d ρ' n' ∧ Ev C ρ' n' σ H1 O' ∧ Same (hid C O H) (hid C O' H1) ∧ H1 p = none ∧ Same H1 H' ∧ OwnAt C.T (hid C O' H1) H' p d) I
    ⟨C, ρ, n, O, k, ke, hK, E, t, x, fun d ρ' n' p H1 H' O' a b c d' e f _ => ⟨d, ρ', n', p, H1, O', rfl, a, b, c, d', e, f⟩⟩) fun u s' ⟨v, H', J, rv, d, ρ', n', p, H1, O', ev, kk, E', S, hn, s1, ow⟩ => ?_
  subst ev
  obtain ⟨f1, f2, _, _⟩ := E'.fresh hn
  cases ow with
  | lst g r => exact ⟨_, _, J, rv, q _ _ _ _ _ _ kk (E'.ext s1) (S.trans (hid_same s1)) (.lst (hid_of g f1 f2) (r.same (hid_same s1)))⟩
  | obj g g2 r => exact ⟨_, _, J, rv, q _ _ _ _ _ _ kk (E'.ext s1) (S.trans (hid_same s1)) (.obj (hid_of g f1 f2) (hid_same s1 _ _ g2) (r.same (hid_same s1)))⟩
  | @dk kvs ks g r =>
    obtain ⟨od, J2⟩ := J.lock g trivial
    have s2 : Same H1 (upd H' p (.frz od (.dK kvs))) := fun b o w => by
      rw [upd_ne (ne_of_none w hn)]
      exact s1 _ _ w
    exact ⟨_, _, J2, rv, q _ _ _ _ _ _ kk (E'.ext s2) (S.trans (hid_same s2)) (.dk (.inr ⟨od, hid_of upd_same f1 f2⟩) (r.same (hid_same s2)))⟩
  | @dt kvs ks g r =>
    obtain ⟨od, J2⟩ := J.lock g trivial
    have s2 : Same H1 (upd H' p (.frz od (.dT kvs))) := fun b o w => by
      rw [upd_ne (ne_of_none w hn)]
      exact s1 _ _ w
    exact ⟨_, _, J2, rv, q _ _ _ _ _ _ kk (E'.ext s2) (S.trans (hid_same s2)) (.dt (.inr ⟨od, hid_of upd_same f1 f2⟩) (r.same (hid_same s2)))⟩
/-! ### operators -/
/-- the result's own objects are new -/
def NewQ (T : Tab) (Hh H : Hp) (z : D) (Q : VK) : Prop := ∀ (v : V) (H' : Hp), Same H H' → (∀ Hx, Same Hh Hx → (∀ a o, H' a = some o → H a = none → Hx a = some o) → Is T Hx v z) → Q v H'
theorem NewQ.flat {T : Tab} {Hh H : Hp} {z : D} {Q : VK} {v : V} (h : NewQ T Hh H z Q) (i : ∀ Hx, Is T Hx v z) : Q v H := h v H (Same.refl _) fun Hx _ _ => i Hx
def OpD (X : Cx) (f : Value → Value → Sem Value) (g : D → D → Option D) : Prop := ∃ r, OpR X f r ∧ ∀ (T : Tab) (Hh H : Hp) (x y : V) (dx dy z : D) (Q : VK), T.K = X.K → Same Hh H → Is T Hh x dx → Is T Hh y dy → g dx dy = some z → NewQ T Hh H z Q → r x y H Q
def cOp (g : D → D → Option D) (ta tb : CE) : CE := fun ρ n k ke => ta ρ n (fun x ρ1 n1 => tb ρ1 n1 (fun y ρ2 n2 => ∃ z, g x y = some z ∧ k z ρ2 n2) ke) ke
theorem newq {ρ : En} {n : Nat} {σ : L2.St} {H : Hp} {O : Ow} {z : D} {Q : VK} (E : Ev C ρ n σ H O) (h : ∀ (v : V) (H' : Hp), Ev C ρ n σ H' O → Same (hid C O H) (hid C O H') → Is C.T (hid C O H') v z → Q v H') : NewQ C.T (hid C O H) H z Q := fun v H' s i =>
  h v H' (E.ext s) (hid_same s) (i _ (hid_same s) fun a o e1 e2 => let ⟨f1, f2, _, _⟩ := E.fresh e2; hid_of e1 f1 f2)
theorem op_use {f : Value → Value → Sem Value} {u : D → D → Option D} {ta tb : CE} {r : R2} (G : Good X g) (hg : ∀ (T : Tab) (Hh H : Hp) (x y : V) (dx dy z : D) (Q : VK), T.K = X.K → Same Hh H → Is T Hh x dx → Is T Hh y dy → u dx dy = some z → NewQ T Hh H z Q → r x y H Q)
    {σ : L2.St} {H : Hp} {Q : VK} (h : lift g xk (cOp u ta tb) σ H Q) : tOp r (lift g xk ta) (lift g xk tb) σ H Q := by
  obtain ⟨C, ρ, n, O, k, ke, hK, E, t, x, q⟩ := h
  refine ⟨C, ρ, n, O, _, ke, hK, E, t, x, fun d ρ1 n1 v H1 O1 k1 E1 S1 i1 => ⟨C, ρ1, n1, O1, _, ke, hK, E1, k1, x, fun d2 ρ2 n2 v2 H2 O2 k2 E2 S2 i2 => ?_⟩⟩
  obtain ⟨z, hz, k2⟩ := k2
  exact hg C.T (hid C O2 H2) H2 v v2 d d2 z Q (hK.1.trans G.K) hid_le (i1.same S2) i2 hz (newq E2 fun v3 H3 E3 S3 i3 => q _ _ _ _ _ _ k2 E3 ((S1.trans S2).trans S3) i3)
theorem pd_op {op : Operator} {u : D → D → Option D} {a b : Expr} {ta tb : CE} (ho : OpD X (binaryOp op) u) (G : Good X g) (ha : PD X g xk a ta) (hb : PD X g xk b tb) : PD X g xk (.BinOp a op b pos) (cOp u ta tb) := by
  obtain ⟨r, hr, hg⟩ := ho
  exact ⟨PE.imp (pe_op hr ha.pe hb.pe) fun σ H Q h => op_use (f := binaryOp op) G hg h⟩
theorem pd_cmp {op : CmpOp} {u : D → D → Option D} {a b : Expr} {ta tb : CE} (ho : OpD X (compareOp op) u) (G : Good X g) (ha : PD X g xk a ta) (hb : PD X g xk b tb) (hm : behindInMarks op b = false) : PD X g xk (.Compare a [op] [b] pos) (cOp u ta tb) := by
  obtain ⟨r, hr, hg⟩ := ho
  exact ⟨PE.imp (pe_cmpR hr ha.pe hb.pe hm) fun σ H Q h => op_use (f := compareOp op) G hg h⟩
/-! ### tests -/
/-- the truth of a value -/
def cB (t : CE) : CT := fun ρ n k ke => t ρ n (fun d ρ' n' => ∃ b, d = .bool b ∧ k b ρ' n') ke
theorem isBl {T : Tab} {H : Hp} {v : V} {b : Bool} (h : Is T H v (.bool b)) : v = .bl b := by
  cases h
  rfl
theorem pdt_cmp {op : CmpOp} {u : D → D → Option D} {a b : Expr} {ta tb : CE} (ho : OpD X (compareOp op) u) (G : Good X g) (ha : PD X g xk a ta) (hb : PD X g xk b tb) (hm : behindInMarks op b = false) : PDT X g xk (.Compare a [op] [b] pos) (cB (cOp u ta tb)) := by
  obtain ⟨r, hr, hg⟩ := ho
  refine ⟨PT.imp (pt_cmpR hr ha.pe hb.pe hm) fun σ H Q h => ?_⟩
  obtain ⟨C, ρ, n, O, k, ke, hK, E, t, x, q⟩ := h
  refine op_use (f := compareOp op) G hg ⟨C, ρ, n, O, _, ke, hK, E, t, x, fun d ρ1 n1 v H1 O1 k1 E1 S1 i1 => ?_⟩
  obtain ⟨b, rfl, k1⟩ := k1
  exact ⟨b, isBl i1, q _ _ _ _ _ k1 E1 S1⟩
theorem pdt_val {e : Expr} {t : CE} (h : PD X g xk e t) (he : ∀ whole, isTrue e X.env whole = (do let v ← whole; standAt e.pos; holding [v] (truthy v)) := by intro _; rfl) : PDT X g xk e (cB t) := by
  refine ⟨PT.imp (pt_val h.pe he) fun σ H Q r => ?_⟩
  obtain ⟨C, ρ, n, O, k, ke, hK, E, t, x, q⟩ := r
  refine ⟨C, ρ, n, O, _, ke, hK, E, t, x, fun d ρ1 n1 v H1 O1 k1 E1 S1 i1 => ?_⟩
  obtain ⟨b, rfl, k1⟩ := k1
  have e := isBl i1
  subst e
  exact ⟨b, rfl, q _ _ _ _ _ k1 E1 S1⟩
def cNotT (t : CT) : CT := fun ρ n k ke => t ρ n (fun b ρ' n' => k (!b) ρ' n') ke
theorem pdt_not {e : Expr} {t : CT} (h : PDT X g xk e t) : PDT X g xk (.UnaryOp .Not e pos) (cNotT t) :=
  ⟨PT.imp (pt_not h.pt) fun σ H Q ⟨C, ρ, n, O, k, ke, hK, E, t, x, q⟩ => ⟨C, ρ, n, O, _, ke, hK, E, t, x, fun b ρ1 n1 H1 O1 k1 E1 S1 => q _ _ _ _ _ k1 E1 S1⟩⟩
def cIf (tc : CT) (ta tb : CE) : CE := fun ρ n k ke => tc ρ n (fun b ρ' n' => if b = true then ta ρ' n' k ke else tb ρ' n' k ke) ke
theorem pd_if {c a b : Expr} {tc : CT} {ta tb : CE} (hc : PDT X g xk c tc) (ha : PD X g xk a ta) (hb : PD X g xk b tb) : PD X g xk (.IfExp c a b pos) (cIf tc ta tb) := by
  refine ⟨PE.imp (pe_ifExp hc.pt ha.pe hb.pe) fun σ H Q r => ?_⟩
  obtain ⟨C, ρ, n, O, k, ke, hK, E, t, x, q⟩ := r
  refine ⟨C, ρ, n, O, _, ke, hK, E, t, x, fun b ρ1 n1 H1 O1 k1 E1 S1 => ?_⟩
  cases b with
  | true => exact ⟨C, ρ1, n1, O1, k, ke, hK, E1, k1, x, fun d ρ2 n2 v H2 O2 k2 E2 S2 i2 => q _ _ _ _ _ _ k2 E2 (S1.trans S2) i2⟩
  | false => exact ⟨C, ρ1, n1, O1, k, ke, hK, E1, k1, x, fun d ρ2 n2 v H2 O2 k2 E2 S2 i2 => q _ _ _ _ _ _ k2 E2 (S1.trans S2) i2⟩
end
end RM
namespace RM
open PySem PySem.Spec PyProof.Rows L2 CS RZ
/-! ### what the operators make of data -/
def addD : D → D → Option D
  | .int i, .int j => some (.int (i + j))
  | .str a, .str b => if a.length + b.length ≤ lim then some (.str (a ++ b)) else none
  | .list a, .list b => if a.length + b.length ≤ lim then some (.list (a ++ b)) else none
  | .tuple a, .tuple b => if a.length + b.length ≤ lim then some (.tuple (a ++ b)) else none
  | _, _ => none
def subD : D → D → Option D
  | .int i, .int j => some (.int (i - j))
  | _, _ => none
def modD : D → D → Option D
  | .int i, .int j => if 0 < j then some (.int (i % j)) else none
  | _, _ => none
def powD : D → D → Option D
  | .int i, .int j => if 0 ≤ j ∧ j ≤ 1000000 ∧ i.natAbs < 2 ^ 64 then some (.int (i ^ j.toNat)) else none
  | _, _ => none
/-- what may be compared as data -/
def okE (d : D) : Bool := plain d && SeqAt.shaped d
def eqD (x y : D) : Option D := if (okE x && okE y) = true then some (.bool (PyData.eqv x y)) else none
def neD (x y : D) : Option D := if (okE x && okE y) = true then some (.bool (!PyData.eqv x y)) else none
def gtD : D → D → Option D
  | .int i, .int j => some (.bool (decide (j < i)))
  | .str i, .str j => some (.bool (decide (j.cps.toList < i.cps.toList)))
  | _, _ => none
def geD : D → D → Option D
  | .int i, .int j => some (.bool (decide (j ≤ i)))
  | _, _ => none
def noneB : D → Bool
  | .none => true
  | _ => false
def anyD (ds : List D) (x : D) : Bool := ds.any fun z => PyData.eqv z x
def memD (x : D) : D → Option Bool
  | .list ds => if (okE x && okE (.list ds)) = true then some (anyD ds x) else none
  | .tuple ds => if (okE x && okE (.tuple ds)) = true then some (anyD ds x) else none
  | _ => none
def inD (x y : D) : Option D := (memD x y).map .bool
section
variable {X : Cx}
theorem ifs {c : Prop} [Decidable c] {α : Type} {a b : α} (h : (if c then some a else none) = some b) : c ∧ a = b := by
  split at h
  · rename_i q
    exact ⟨q, Option.some.inj h⟩
  · cases h
theorem Is.int' {T : Tab} {H : Hp} {v : V} {i : Int} (h : Is T H v (.int i)) : v = .int i := by cases h; rfl
theorem Is.str' {T : Tab} {H : Hp} {v : V} {i : Str} (h : Is T H v (.str i)) : v = .str i := by cases h; rfl
theorem Is.list' {T : Tab} {H : Hp} {v : V} {ds : List D} (h : Is T H v (.list ds)) : ∃ a xs, v = .ref a ∧ H a = some (.lst xs) ∧ IsL T H xs ds := by
  cases h with
  | lst g r => exact ⟨_, _, rfl, g, r⟩
theorem Is.tup' {T : Tab} {H : Hp} {v : V} {ds : List D} (h : Is T H v (.tuple ds)) : ∃ a xs, v = .ref a ∧ SqT T.K H a xs ∧ IsL T H xs ds := by
  cases h with
  | tup g r => exact ⟨_, _, rfl, g, r⟩
theorem newL {T : Tab} {Hh H : Hp} {ds : List D} {xs : List V} {Q : VK} (q : NewQ T Hh H (.list ds) Q) (i : IsL T Hh xs ds) : ∀ p, H p = none → Q (.ref p) (upd H p (.lst xs)) := fun p hp =>
  q _ _ (same_new hp) fun Hx s1 s2 => .lst (s2 _ _ upd_same hp) (i.same s1)
theorem newT {T : Tab} {Hh H : Hp} {ds : List D} {xs : List V} {Q : VK} (q : NewQ T Hh H (.tuple ds) Q) (i : IsL T Hh xs ds) : ∀ p, H p = none → Q (.ref p) (upd H p (.tup xs)) := fun p hp =>
  q _ _ (same_new hp) fun Hx s1 s2 => .tup (.inl (.inl (s2 _ _ upd_same hp))) (i.same s1)
theorem oldV {T : Tab} {Hh H : Hp} {d : D} {v : V} {Q : VK} (q : NewQ T Hh H d Q) (i : Is T Hh v d) : Q v H := q _ _ (Same.refl _) fun Hx s1 _ => i.same s1
theorem od_add : OpD X (binaryOp .Add) addD := by
  refine ⟨_, op_add.or (op_add_str.or (op_cat.or op_catA)), fun T Hh H x y dx dy z Q hK s ix iy hg q => ?_⟩
  unfold addD at hg
  split at hg
  · cases hg
    rw [ix.int', iy.int']
    exact .inl ⟨_, _, rfl, rfl, q.flat fun _ => .int _⟩
  · obtain ⟨c, rfl⟩ := ifs hg
    rw [ix.str', iy.str']
    exact .inr (.inl ⟨_, _, rfl, rfl, lim_le c, q.flat fun _ => .str _⟩)
  · obtain ⟨c, rfl⟩ := ifs hg
    obtain ⟨a, xs, rfl, ha, ra⟩ := ix.list'
    obtain ⟨b, ys, rfl, hb, rb⟩ := iy.list'
    exact .inr (.inr (.inl ⟨a, b, xs, ys, rfl, rfl, s _ _ ha, s _ _ hb, by rw [ra.length, rb.length]; exact lim_le c, newL q (ra.append rb)⟩))
  · obtain ⟨c, rfl⟩ := ifs hg
    obtain ⟨a, xs, rfl, ha, ra⟩ := ix.tup'
    obtain ⟨b, ys, rfl, hb, rb⟩ := iy.tup'
    refine .inr (.inr (.inr ⟨a, b, xs, ys, rfl, rfl, hK ▸ sqt_same s ha, hK ▸ sqt_same s hb, by rw [ra.length, rb.length]; exact lim_le c, fun e => ?_, fun _ e => ?_, fun _ _ => newT q (ra.append rb)⟩))
    · subst e
      cases ra
      exact oldV q (.tup hb rb)
    · subst e
      cases rb
      rw [List.append_nil] at q
      exact oldV q (.tup ha ra)
  · cases hg
theorem od_sub : OpD X (binaryOp .Sub) subD := by
  refine ⟨_, op_sub, fun T Hh H x y dx dy z Q hK s ix iy hg q => ?_⟩
  unfold subD at hg
  split at hg
  · cases hg
    rw [ix.int', iy.int']
    exact ⟨_, _, rfl, rfl, q.flat fun _ => .int _⟩
  · cases hg
theorem od_mod : OpD X (binaryOp .Mod) modD := by
  refine ⟨_, op_mod, fun T Hh H x y dx dy z Q hK s ix iy hg q => ?_⟩
  unfold modD at hg
  split at hg
  · obtain ⟨c, rfl⟩ := ifs hg
    rw [ix.int', iy.int']
    exact ⟨_, _, rfl, rfl, c, q.flat fun _ => .int _⟩
  · cases hg
theorem od_pow : OpD X (binaryOp .Pow) powD := by
  refine ⟨_, op_pow, fun T Hh H x y dx dy z Q hK s ix iy hg q => ?_⟩
  unfold powD at hg
  split at hg
  · obtain ⟨c, rfl⟩ := ifs hg
    rw [ix.int', iy.int']
    exact ⟨_, _, rfl, rfl, c, q.flat fun _ => .int _⟩
  · cases hg
theorem okE2 {x y : D} (h : (okE x && okE y) = true) : plain x = true ∧ SeqAt.shaped x = true ∧ plain y = true ∧ SeqAt.shaped y = true := by
  unfold okE at h
  simp only [Bool.and_eq_true] at h
  exact ⟨h.1.1, h.1.2, h.2.1, h.2.2⟩
theorem od_eq (hu : X.A.units + 64 < cLine) : OpD X (compareOp .Eq) eqD := by
  refine ⟨_, op_eqD hu, fun T Hh H x y dx dy z Q hK s ix iy hg q => ?_⟩
  obtain ⟨c, rfl⟩ := ifs hg
  obtain ⟨p1, s1, p2, s2⟩ := okE2 c
  exact ⟨dx, dy, hK ▸ (ix.same s).dp p1, hK ▸ (iy.same s).dp p2, s1, s2, q.flat fun _ => .bl _⟩
theorem od_ne (hu : X.A.units + 64 < cLine) : OpD X (compareOp .NotEq) neD := by
  refine ⟨_, op_neD hu, fun T Hh H x y dx dy z Q hK s ix iy hg q => ?_⟩
  obtain ⟨c, rfl⟩ := ifs hg
  obtain ⟨p1, s1, p2, s2⟩ := okE2 c
  exact ⟨dx, dy, hK ▸ (ix.same s).dp p1, hK ▸ (iy.same s).dp p2, s1, s2, q.flat fun _ => .bl _⟩
theorem od_gt : OpD X (compareOp .Gt) gtD := by
  refine ⟨_, op_gt.or op_gt_str, fun T Hh H x y dx dy z Q hK s ix iy hg q => ?_⟩
  unfold gtD at hg
  split at hg
  · cases hg
    rw [ix.int', iy.int']
    exact .inl ⟨_, _, rfl, rfl, q.flat fun _ => .bl _⟩
  · cases hg
    rw [ix.str', iy.str']
    exact .inr ⟨_, _, rfl, rfl, q.flat fun _ => .bl _⟩
  · cases hg
theorem od_ge : OpD X (compareOp .GtE) geD := by
  refine ⟨_, op_ge, fun T Hh H x y dx dy z Q hK s ix iy hg q => ?_⟩
  unfold geD at hg
  split at hg
  · cases hg
    rw [ix.int', iy.int']
    exact ⟨_, _, rfl, rfl, q.flat fun _ => .bl _⟩
  · cases hg
/-! x in a tuple of data -/
end
end RM
namespace RM
open PySem PySem.Spec PyProof.Rows L2 CS RZ
/-! ### calls of built-ins -/
def CallD (X : Cx) (f : Value) (g : List D → D → Prop) : Prop := ∃ r, CallR X f r ∧ ∀ (T : Tab) (Hh H : Hp) (vs : List V) (ds : List D) (z : D) (Q : VK), T.K = X.K → Same Hh H → IsL T Hh vs ds → g ds z → NewQ T Hh H z Q → r vs H Q
/-- .. whose result is a new list -/
def CallF (X : Cx) (f : Value) (g : List D → List D → Prop) : Prop := ∃ r, CallR X f r ∧ ∀ (T : Tab) (Hh H : Hp) (vs : List V) (ds : List D) (z : List D) (Q : VK), T.K = X.K → Same Hh H → IsL T Hh vs ds → g ds z → (∀ xs, IsL T Hh xs z → ∀ p, H p = none → Q (.ref p) (upd H p (.lst xs))) → r vs H Q
def cCB (g : List D → D → Prop) (ta : CA) : CE := fun ρ n k ke => ta ρ n (fun ds ρ' n' => ∃ z, g ds z ∧ k z ρ' n') ke
def cCF (g : List D → List D → Prop) (ta : CA) : CE := fun ρ n k ke => ta ρ n (fun ds ρ' n' => ∃ z, g ds z ∧ k (.list z) ρ' n') ke
theorem CallD.or {X : Cx} {f : Value} {g g' : List D → D → Prop} (h : CallD X f g) (h' : CallD X f g') : CallD X f (fun ds z => g ds z ∨ g' ds z) := by
  obtain ⟨r, h1, h2⟩ := h
  obtain ⟨r', h1', h2'⟩ := h'
  exact ⟨_, h1.or h1', fun T Hh H vs ds z Q a b c d e => d.elim (fun d => .inl (h2 T Hh H vs ds z Q a b c d e)) fun d => .inr (h2' T Hh H vs ds z Q a b c d e)⟩
theorem CallF.or {X : Cx} {f : Value} {g g' : List D → List D → Prop} (h : CallF X f g) (h' : CallF X f g') : CallF X f (fun ds z => g ds z ∨ g' ds z) := by
  obtain ⟨r, h1, h2⟩ := h
  obtain ⟨r', h1', h2'⟩ := h'
  exact ⟨_, h1.or h1', fun T Hh H vs ds z Q a b c d e => d.elim (fun d => .inl (h2 T Hh H vs ds z Q a b c d e)) fun d => .inr (h2' T Hh H vs ds z Q a b c d e)⟩
section
variable {X : Cx} {g : Glob} {xk : WX} {pos p : Pos} {x : Str} {e : Expr} {es : List Expr} {ta : CA} {id : String} {u : List D → D → Prop} {gl : List D → List D → Prop}
theorem cb_use {r : List V → Hp → VK → Prop} (G : Good X g) (hg : ∀ (T : Tab) (Hh H : Hp) (vs : List V) (ds : List D) (z : D) (Q : VK), T.K = X.K → Same Hh H → IsL T Hh vs ds → u ds z → NewQ T Hh H z Q → r vs H Q)
    {σ : L2.St} {H : Hp} {Q : VK} (h : lift g xk (cCB u ta) σ H Q) : tCB r (liftA g xk ta) σ H Q := by
  obtain ⟨C, ρ, n, O, k, ke, hK, E, t, x, q⟩ := h
  refine ⟨C, ρ, n, O, _, ke, hK, E, t, x, fun ds ρ1 n1 vs H1 O1 k1 E1 S1 i1 => ?_⟩
  obtain ⟨z, hz, k1⟩ := k1
  exact hg C.T (hid C O1 H1) H1 vs ds z Q (hK.1.trans G.K) hid_le i1 hz (newq E1 fun v3 H3 E3 S3 i3 => q _ _ _ _ _ _ k1 E3 (S1.trans S3) i3)
theorem cf_use {r : List V → Hp → VK → Prop} (G : Good X g) (hg : ∀ (T : Tab) (Hh H : Hp) (vs : List V) (ds : List D) (z : List D) (Q : VK), T.K = X.K → Same Hh H → IsL T Hh vs ds → gl ds z → (∀ xs, IsL T Hh xs z → ∀ p, H p = none → Q (.ref p) (upd H p (.lst xs))) → r vs H Q)
    {σ : L2.St} {H : Hp} {Q : VK} (h : liftF g xk (cCF gl ta) σ H Q) : tCB r (liftA g xk ta) σ H Q := by
  obtain ⟨C, ρ, n, O, k, ke, hK, E, t, x, q⟩ := h
  refine ⟨C, ρ, n, O, _, ke, hK, E, t, x, fun ds ρ1 n1 vs H1 O1 k1 E1 S1 i1 => ?_⟩
  obtain ⟨z, hz, k1⟩ := k1
  exact hg C.T (hid C O1 H1) H1 vs ds z Q (hK.1.trans G.K) hid_le i1 hz fun xs ix p hp => q _ _ _ _ _ _ _ k1 E1 S1 hp (same_new hp) (.lst upd_same ix) rfl
theorem pd_callB (hc : CallD X (.builtin id) u) (G : Good X g) (hg : Gl X x) (hm : X.mg x = none) (hv : bootBuiltins x = some (.builtin id)) (ha : PDA X g xk (e :: es) ta) (hn : x ≠ "__name__" := by decide) (hdb : (x == ("__debug__" : Str)) = false := by decide)
    (he : starEach (e :: es) X.env = (false, eval e X.env) :: starEach es X.env := by rfl) (hpl : (backTo pos (starEach es X.env)).any (·.1) = false := by rfl) : PD X g xk (.Call (.Name x p) (e :: es) [] pos) (cCB u ta) := by
  obtain ⟨r, hr, hg'⟩ := hc
  exact ⟨PE.imp (pe_callB hr hg hm hv ha.pa hn hdb he hpl) fun σ H Q h => cb_use G hg' h⟩
theorem pd_callTy (hc : CallD X (.type id) u) (G : Good X g) (hg : Gl X x) (hm : X.mg x = none) (hv : bootBuiltins x = some (.type id)) (ha : PDA X g xk (e :: es) ta) (hn : x ≠ "__name__" := by decide) (hdb : (x == ("__debug__" : Str)) = false := by decide)
    (he : starEach (e :: es) X.env = (false, eval e X.env) :: starEach es X.env := by rfl) (hpl : (backTo pos (starEach es X.env)).any (·.1) = false := by rfl) : PD X g xk (.Call (.Name x p) (e :: es) [] pos) (cCB u ta) := by
  obtain ⟨r, hr, hg'⟩ := hc
  exact ⟨PE.imp (pe_callTy hr hg hm hv ha.pa hn hdb he hpl) fun σ H Q h => cb_use G hg' h⟩
theorem pf_callTy (hc : CallF X (.type id) gl) (G : Good X g) (hg : Gl X x) (hm : X.mg x = none) (hv : bootBuiltins x = some (.type id)) (ha : PDA X g xk (e :: es) ta) (hn : x ≠ "__name__" := by decide) (hdb : (x == ("__debug__" : Str)) = false := by decide)
    (he : starEach (e :: es) X.env = (false, eval e X.env) :: starEach es X.env := by rfl) (hpl : (backTo pos (starEach es X.env)).any (·.1) = false := by rfl) : PDF X g xk (.Call (.Name x p) (e :: es) [] pos) (cCF gl ta) := by
  obtain ⟨r, hr, hg'⟩ := hc
  exact ⟨PE.imp (pe_callTy hr hg hm hv ha.pa hn hdb he hpl) fun σ H Q h => cf_use G hg' h⟩
/-! which built-ins -/
def lenD : D → Option Nat
  | .list ds => some ds.length
  | .tuple ds => some ds.length
  | .str z => if z.length ≤ lim then some z.length else none
  | _ => none
def gLen (ds : List D) (z : D) : Prop := ∃ x n, ds = [x] ∧ lenD x = some n ∧ z = .int (n : Nat)
def seqD : D → Option (List D)
  | .list ds => some ds
  | .tuple ds => some ds
  | _ => none
def gTuple (ds : List D) (z : D) : Prop := ∃ x xs, ds = [x] ∧ seqD x = some xs ∧ z = .tuple xs
def gList (ds : List D) (z : List D) : Prop := ∃ x, ds = [x] ∧ seqD x = some z
def intsD (is : List Int) : List D := is.map PyData.int
def gSum (ds : List D) (z : D) : Prop := ∃ is, ds = [.list (intsD is)] ∧ z = .int is.sum
def gInt (ds : List D) (z : D) : Prop := (∃ i, ds = [.int i] ∧ z = .int i) ∨ ∃ b, ds = [.bool b] ∧ z = .int (if b then 1 else 0)
def leD' (a b : D) : Bool := PySem.W.dataLe false (fun d : D => d) a b
theorem IsL.one {T : Tab} {H : Hp} {vs : List V} {d : D} (h : IsL T H vs [d]) : ∃ v, vs = [v] ∧ Is T H v d := by
  cases h with
  | cons a b => cases b; exact ⟨_, rfl, a⟩
theorem IsL.two {T : Tab} {H : Hp} {vs : List V} {d e : D} (h : IsL T H vs [d, e]) : ∃ v u, vs = [v, u] ∧ Is T H v d ∧ Is T H u e := by
  cases h with
  | cons a b => obtain ⟨u, rfl, hu⟩ := b.one; exact ⟨_, _, rfl, a, hu⟩
theorem IsL.ints {T : Tab} {H : Hp} : ∀ {vs : List V} {is : List Int}, IsL T H vs (intsD is) → vs = is.map V.int
  | _, [], .nil => rfl
  | _, i :: is, .cons a b => by rw [List.map_cons, a.int', IsL.ints (is := is) b]
theorem Is.seq {T : Tab} {H : Hp} {v : V} {d : D} {ds : List D} (h : Is T H v d) (e : seqD d = some ds) : ∃ a xs, v = .ref a ∧ IsL T H xs ds ∧ ((d = .list ds ∧ H a = some (.lst xs)) ∨ (d = .tuple ds ∧ SqT T.K H a xs)) := by
  cases h with
  | lst g r => cases e; exact ⟨_, _, rfl, r, .inl ⟨rfl, g⟩⟩
  | tup g r => cases e; exact ⟨_, _, rfl, r, .inr ⟨rfl, g⟩⟩
  | _ => cases e
theorem cd_len : CallD X (.builtin "len") gLen := by
  refine ⟨_, call_len_seq.or call_len_str, fun T Hh H vs ds z Q hK s il hg q => ?_⟩
  obtain ⟨y, n, rfl, hn, rfl⟩ := hg
  obtain ⟨v, rfl, iv⟩ := il.one
  unfold lenD at hn
  split at hn
  · cases hn
    obtain ⟨a, xs, rfl, ha, r⟩ := iv.list'
    exact .inl ⟨a, xs, rfl, .inl (SqL.of (s _ _ ha)), by rw [r.length]; exact q.flat fun _ => .int _⟩
  · cases hn
    obtain ⟨a, xs, rfl, ha, r⟩ := iv.tup'
    exact .inl ⟨a, xs, rfl, .inr (hK ▸ sqt_same s ha), by rw [r.length]; exact q.flat fun _ => .int _⟩
  · obtain ⟨c, rfl⟩ := ifs hn
    rw [iv.str']
    exact .inr ⟨_, rfl, lim_le c, q.flat fun _ => .int _⟩
  · cases hn
theorem cd_tuple : CallD X (.type "tuple") gTuple := by
  refine ⟨_, call_tuple_of, fun T Hh H vs ds z Q hK s il hg q => ?_⟩
  obtain ⟨y, xs, rfl, hs, rfl⟩ := hg
  obtain ⟨v, rfl, iv⟩ := il.one
  obtain ⟨a, us, rfl, r, c⟩ := iv.seq hs
  rcases c with ⟨_, c⟩ | ⟨_, c⟩
  · exact ⟨a, us, rfl, .inl ⟨SqL.of (s _ _ c), newT q r⟩⟩
  · exact ⟨a, us, rfl, .inr ⟨hK ▸ sqt_same s c, oldV q (.tup c r)⟩⟩
theorem cf_list : CallF X (.type "list") gList := by
  refine ⟨_, call_list_of, fun T Hh H vs ds z Q hK s il hg q => ?_⟩
  obtain ⟨y, rfl, hs⟩ := hg
  obtain ⟨v, rfl, iv⟩ := il.one
  obtain ⟨a, us, rfl, r, c⟩ := iv.seq hs
  rcases c with ⟨_, c⟩ | ⟨_, c⟩
  · exact ⟨a, us, rfl, .inl (SqL.of (s _ _ c)), q _ r⟩
  · exact ⟨a, us, rfl, .inr (hK ▸ sqt_same s c), q _ r⟩
theorem cd_sum (hc : X.calm = true) : CallD X (.builtin "sum") gSum := by
  refine ⟨_, cr_sum hc, fun T Hh H vs ds z Q hK s il hg q => ?_⟩
  obtain ⟨is, rfl, rfl⟩ := hg
  obtain ⟨v, rfl, iv⟩ := il.one
  obtain ⟨a, xs, rfl, ha, r⟩ := iv.list'
  rw [r.ints] at ha
  exact ⟨a, is, rfl, SqL.of (s _ _ ha), q.flat fun _ => .int _⟩
theorem cd_int : CallD X (.type "int") gInt := by
  refine ⟨_, call_int1, fun T Hh H vs ds z Q hK s il hg q => ?_⟩
  rcases hg with ⟨i, rfl, rfl⟩ | ⟨i, rfl, rfl⟩
  · obtain ⟨v, rfl, iv⟩ := il.one
    rw [iv.int']
    exact .inl ⟨i, rfl, q.flat fun _ => .int _⟩
  · obtain ⟨v, rfl, iv⟩ := il.one
    rw [isBl iv]
    exact .inr ⟨i, rfl, q.flat fun _ => .int _⟩
/-! ### subscripts, slices -/
def atD : D → D → Option D
  | .list ds, .int i => atI ds i
  | .tuple ds, .int i => atI ds i
  | .str z, .int i => if z.length ≤ lim then (atI z.cps.toList i).map fun c => .str ⟨#[c]⟩ else none
  | _, _ => none
def IxD (X : Cx) (g : D → D → Option D) : Prop := ∃ r, IxR X r ∧ ∀ (T : Tab) (Hh H : Hp) (x y : V) (dx dy z : D) (Q : VK), T.K = X.K → Same Hh H → Is T Hh x dx → Is T Hh y dy → g dx dy = some z → NewQ T Hh H z Q → r x y H Q
theorem atI_is {T : Tab} {H : Hp} {xs : List V} {ds : List D} {i : Int} {z : D} (h : IsL T H xs ds) (e : atI ds i = some z) : ∃ v, atI xs i = some v ∧ Is T H v z := by
  unfold atI at e ⊢
  rw [h.length]
  cases q : ixN ds.length i with
  | none => rw [q] at e; cases e
  | some j =>
    rw [q] at e
    exact h.get e
theorem ix_at : IxD X atD := by
  refine ⟨_, ix_seq, fun T Hh H x y dx dy z Q hK s ix iy hg q => ?_⟩
  unfold atD at hg
  split at hg
  · obtain ⟨a, xs, rfl, ha, r⟩ := ix.list'
    obtain ⟨v, h1, h2⟩ := atI_is r hg
    rw [iy.int']
    exact .inl ⟨a, xs, _, v, rfl, rfl, SqL.of (s _ _ ha), h1, oldV q h2⟩
  · obtain ⟨a, xs, rfl, ha, r⟩ := ix.tup'
    obtain ⟨v, h1, h2⟩ := atI_is r hg
    rw [iy.int']
    exact .inr (.inl ⟨a, xs, _, v, rfl, rfl, hK ▸ sqt_same s ha, h1, oldV q h2⟩)
  · rw [ix.str', iy.int']
    split at hg
    · rename_i z0 i c
      cases h : atI z0.cps.toList i with
      | none =>
        rw [h] at hg
        cases hg
      | some c' =>
        rw [h] at hg
        cases hg
        exact .inr (.inr ⟨_, _, c', rfl, rfl, lim_le c, h, q.flat fun _ => .str _⟩)
    · cases hg
  · cases hg
theorem pd_ix {u : D → D → Option D} {a b : Expr} {ta tb : CE} (hi : IxD X u) (G : Good X g) (ha : PD X g xk a ta) (hb : PD X g xk b tb) (hs : PlainIx b) : PD X g xk (.Subscript a b pos) (cOp u ta tb) := by
  obtain ⟨r, hr, hg⟩ := hi
  exact ⟨PE.imp (pe_ix hr ha.pe hb.pe hs) fun σ H Q h => op_use (f := getItem) G hg h⟩
abbrev CO := En → Nat → (Option Int → En → Nat → Prop) → KE → Prop
def liftO (g : Glob) (xk : WX) (td : CO) : TO := fun σ H Q => ∃ (C : Ctx) (ρ : En) (n : Nat) (O : Ow) (k : Option Int → En → Nat → Prop) (ke : KE), C.On g ∧ Ev C ρ n σ H O ∧ td ρ n k ke ∧ XL C xk ke ∧
  ∀ (b : Option Int) (ρ' : En) (n' : Nat) (H' : Hp) (O' : Ow), k b ρ' n' → Ev C ρ' n' σ H' O' → Same (hid C O H) (hid C O' H') → Q b H'
structure PDO (X : Cx) (g : Glob) (xk : WX) (e : Option Expr) (td : CO) : Prop where
  po : PO X e (liftO g xk td)
def cNo : CO := fun ρ n k _ => k none ρ n
def cPart (t : CE) : CO := fun ρ n k ke => t ρ n (fun d ρ' n' => ∃ i, d = .int i ∧ k (some i) ρ' n') ke
theorem po_imp {e : Option Expr} {t t' : TO} (h : PO X e t) (q : ∀ σ H Q, t' σ H Q → t σ H Q) : PO X e t' := ⟨fun pins s σ H Q I r => h.run pins s σ H Q I (q _ _ _ r)⟩
theorem pdo_none : PDO X g xk none cNo := ⟨po_imp po_none fun σ H Q ⟨C, ρ, n, O, k, ke, hK, E, t, x, q⟩ => q _ _ _ _ _ t E (Same.refl _)⟩
theorem pdo_some {t : CE} (h : PD X g xk e t) : PDO X g xk (some e) (cPart t) := by
  refine ⟨po_imp (po_some h.pe) fun σ H Q r => ?_⟩
  obtain ⟨C, ρ, n, O, k, ke, hK, E, t, x, q⟩ := r
  refine ⟨C, ρ, n, O, _, ke, hK, E, t, x, fun d ρ1 n1 v H1 O1 k1 E1 S1 i1 => ?_⟩
  obtain ⟨i, rfl, k1⟩ := k1
  have e := i1.int'
  subst e
  exact ⟨i, rfl, q _ _ _ _ _ k1 E1 S1⟩
def cutL (ds : List D) (lo hi : Option Int) : List D := (ds.drop (HT.sIx ds.length 0 lo)).take (HT.sIx ds.length ds.length hi - HT.sIx ds.length 0 lo)
def sliceD : D → Option Int → Option Int → Option D
  | .list ds, lo, hi => some (.list (cutL ds lo hi))
  | .tuple ds, lo, hi => some (.tuple (cutL ds lo hi))
  | .str z, lo, hi => if z.length ≤ lim then some (.str (cutS z lo hi)) else none
  | _, _, _ => none
def cSl (ta : CE) (tl th : CO) : CE := fun ρ n k ke => ta ρ n (fun x ρ1 n1 => tl ρ1 n1 (fun lo ρ2 n2 => th ρ2 n2 (fun hi ρ3 n3 => ∃ z, sliceD x lo hi = some z ∧ k z ρ3 n3) ke) ke) ke
theorem cutV_is {T : Tab} {H : Hp} {xs : List V} {ds : List D} (lo hi : Option Int) (h : IsL T H xs ds) : IsL T H (cutV xs lo hi) (cutL ds lo hi) := by
  unfold cutV cutL
  rw [h.length]
  exact (h.drop _).take _
theorem pd_slice {a : Expr} {lo hi : Option Expr} {ta : CE} {tl th : CO} {p2 : Pos} (G : Good X g) (ha : PD X g xk a ta) (hl : PDO X g xk lo tl) (hh : PDO X g xk hi th) : PD X g xk (.Subscript a (.Slice lo hi none p2) pos) (cSl ta tl th) := by
  refine ⟨PE.imp (pe_slice (SlR.or sl_list (SlR.or sl_tupA sl_str)) ha.pe hl.po hh.po) fun σ H Q h => ?_⟩
  obtain ⟨C, ρ, n, O, k, ke, hK, E, t, x, q⟩ := h
  refine ⟨C, ρ, n, O, _, ke, hK, E, t, x, fun d ρ1 n1 v H1 O1 k1 E1 S1 i1 => ⟨C, ρ1, n1, O1, _, ke, hK, E1, k1, x, fun lo ρ2 n2 H2 O2 k2 E2 S2 => ⟨C, ρ2, n2, O2, _, ke, hK, E2, k2, x, fun hi ρ3 n3 H3 O3 k3 E3 S3 => ?_⟩⟩⟩
  obtain ⟨z, hz, k3⟩ := k3
  have i3 := (i1.same S2).same S3
  have nq : NewQ C.T (hid C O3 H3) H3 z Q := newq E3 fun v4 H4 E4 S4 i4 => q _ _ _ _ _ _ k3 E4 (((S1.trans S2).trans S3).trans S4) i4
  unfold sliceD at hz
  split at hz
  · cases hz
    obtain ⟨a, xs, rfl, ha, r⟩ := i3.list'
    exact .inl ⟨a, xs, rfl, SqL.of (hid_le _ _ ha), newL nq (cutV_is _ _ r)⟩
  · cases hz
    obtain ⟨a, xs, rfl, ha, r⟩ := i3.tup'
    refine .inr (.inl ⟨a, xs, rfl, (hK.1.trans G.K) ▸ sqt_same hid_le ha, fun c => ?_, fun _ => newT nq (cutV_is _ _ r)⟩)
    have e : cutV xs lo hi = xs := by
      unfold cutV
      rw [c.1, c.2, Nat.sub_zero]
      exact List.take_length
    have r2 := cutV_is lo hi r
    rw [e] at r2
    exact oldV nq (.tup ha r2)
  · obtain ⟨c, rfl⟩ := ifs hz
    rw [i3.str']
    exact .inr (.inr ⟨_, rfl, lim_le c, nq.flat fun _ => .str _⟩)
  · cases hz
end
end RM
namespace RM
open PySem PySem.Spec PyProof.Rows L2 CS RZ
/-! ### what is walked -/
structure WalkD (T : Tab) (J : It) (ds : List D) (Hb : Hp) : Prop where
  ex : ∃ (G : Hp → Prop) (Y : Nat → Hp → V → Hp → Prop), Walk J ds.length G Y ∧ (∀ H, Same Hb H → G H) ∧ ∀ (i : Nat) (x : V) (H H2 : Hp) (d : D), Same Hb H → Y i H x H2 → ds[i]? = some d →
    Same H H2 ∧ ∀ Hx, Same Hb Hx → (∀ a o, H2 a = some o → H a = none → Hx a = some o) → Is T Hx x d
def liftI (g : Glob) (xk : WX) (td : CA) : TI := fun σ H R => ∃ (C : Ctx) (ρ : En) (n : Nat) (O : Ow) (k : List D → En → Nat → Prop) (ke : KE), C.On g ∧ Ev C ρ n σ H O ∧ td ρ n k ke ∧ XL C xk ke ∧
  ∀ (ds : List D) (ρ' : En) (n' : Nat) (J : It) (H' : Hp) (O' : Ow), k ds ρ' n' → Ev C ρ' n' σ H' O' → Same (hid C O H) (hid C O' H') → WalkD C.T J ds (hid C O' H') → R J H'
structure PDI (X : Cx) (g : Glob) (xk : WX) (tg : Expr) (e : Expr) (td : CA) : Prop where
  pi : PI X tg e (liftI g xk td)
theorem pi_imp {X : Cx} {tg e : Expr} {t t' : TI} (h : PI X tg e t) (q : ∀ σ H Q, t' σ H Q → t σ H Q) : PI X tg e t' := ⟨fun pins s σ H Q I r => h.run pins s σ H Q I (q _ _ _ r)⟩
section
variable {X : Cx} {g : Glob} {xk : WX} {tg : Expr} {pos p : Pos}
def iSeqV (K : PySem.W.Frag) (tl : TE) : TI := fun σ H R => tl σ H fun x H1 => ∃ a, x = .ref a ∧ (((∃ xs, SqL K H1 a xs) ∧ R (Itl K a) H1) ∨ ((∃ xs, SqT K H1 a xs) ∧ R (Itt K a) H1))
theorem pi_seqV {l : Expr} {tl : TE} (hl : PE X l tl) : PI X tg l (iSeqV X.K tl) := by
  refine ⟨fun pins s σ H R I h => ?_⟩
  refine thn (hl.run pins s σ H _ I h) fun v s1 ⟨x, H1, I1, r1, q1⟩ => ?_
  obtain ⟨a, e, q1⟩ := q1
  subst e
  cases r1
  have own : ∀ b ∈ [s1.heap.objs.size], _ := fun b hb => (List.mem_singleton.mp hb) ▸ I1.fpOk (Nat.le_refl _) (I1.hok.fresh (Nat.le_refl _))
  have up : ∀ (u : Obj) b o, s1.heap.get? b = some o → (s1.heap.push u).get? b = some o := fun _ _ _ e => Heap.get?_push_of_some _ e
  rcases q1 with ⟨⟨xs, hq⟩, q⟩ | ⟨⟨xs, hq⟩, q⟩
  · obtain ⟨_, _, p, _⟩ := I1.list hq
    exact wpAny_pyIter_list p.isList ⟨_, [s1.heap.objs.size], _, _, H1, rfl, I1.kept (t' := s1.toks) (up _), turn_list a _, ⟨_, Heap.get?_push_size _ rfl, rfl, rfl⟩, own, q⟩
  · obtain ⟨its, _, p, _⟩ := I1.tuple hq
    exact wpAny_pyIter_tuple (show s1.heap.IsTuple a its.toArray from p) ⟨_, [s1.heap.objs.size], _, _, H1, rfl, I1.kept (t' := s1.toks) (up _), turn_tuple a _, ⟨_, Heap.get?_push_size _ rfl, rfl, rfl⟩, own, q⟩
def cSeq (t : CE) : CA := fun ρ n k ke => t ρ n (fun d ρ' n' => ∃ ds, seqD d = some ds ∧ k ds ρ' n') ke
theorem walkd_list {T : Tab} {a : Addr} {xs : List V} {ds : List D} {Hb : Hp} (h : Hb a = some (.lst xs)) (r : IsL T Hb xs ds) : WalkD T (Itl T.K a) ds Hb :=
  ⟨⟨_, _, by rw [← r.length]; exact walk_list, fun H s => SqL.of (s _ _ h), fun i x H H2 d s y e => by
    obtain ⟨rfl, y⟩ := y
    obtain ⟨v, h1, h2⟩ := r.get e
    rw [y] at h1
    cases h1
    exact ⟨Same.refl _, fun Hx s2 _ => h2.same s2⟩⟩⟩
theorem walkd_tup {T : Tab} {a : Addr} {xs : List V} {ds : List D} {Hb : Hp} (h : SqT T.K Hb a xs) (r : IsL T Hb xs ds) : WalkD T (Itt T.K a) ds Hb :=
  ⟨⟨_, _, by rw [← r.length]; exact walk_tup, fun H s => sqt_same s h, fun i x H H2 d s y e => by
    obtain ⟨rfl, y⟩ := y
    obtain ⟨v, h1, h2⟩ := r.get e
    rw [y] at h1
    cases h1
    exact ⟨Same.refl _, fun Hx s2 _ => h2.same s2⟩⟩⟩
theorem pdi_seq {e : Expr} {t : CE} (G : Good X g) (h : PD X g xk e t) : PDI X g xk tg e (cSeq t) := by
  refine ⟨pi_imp (pi_seqV h.pe) fun σ H R r => ?_⟩
  obtain ⟨C, ρ, n, O, k, ke, hK, E, t, x, q⟩ := r
  refine ⟨C, ρ, n, O, _, ke, hK, E, t, x, fun d ρ1 n1 v H1 O1 k1 E1 S1 i1 => ?_⟩
  obtain ⟨ds, hs, k1⟩ := k1
  obtain ⟨a, us, rfl, r, c⟩ := i1.seq hs
  have eK := hK.1.trans G.K
  rcases c with ⟨_, c⟩ | ⟨_, c⟩
  · exact ⟨a, rfl, .inl ⟨⟨us, SqL.of (hid_le _ _ c)⟩, q _ _ _ _ _ _ k1 E1 S1 (eK ▸ walkd_list c r)⟩⟩
  · exact ⟨a, rfl, .inr ⟨⟨us, eK ▸ sqt_same hid_le c⟩, q _ _ _ _ _ _ k1 E1 S1 (eK ▸ walkd_tup c r)⟩⟩
def rangeD (lo : Int) (n : Nat) : List D := (List.range n).map fun i => .int (lo + (i : Nat))
theorem walkd_range {T : Tab} {lo : Int} {n : Nat} {Hb : Hp} : WalkD T (Itr lo n) (rangeD lo n) Hb :=
  ⟨⟨_, _, by unfold rangeD; rw [List.length_map, List.length_range]; exact walk_range, fun _ _ => trivial, fun i x H H2 d s y e => by
    obtain ⟨rfl, rfl⟩ := y
    unfold rangeD at e
    rw [List.getElem?_map] at e
    cases h : (List.range n)[i]? with
    | none => rw [h] at e; cases e
    | some j =>
      rw [h] at e
      obtain ⟨h1, h2⟩ := List.getElem?_eq_some_iff.mp h
      rw [List.getElem_range] at h2
      cases e
      rw [h2]
      exact ⟨Same.refl _, fun _ _ _ => .int _⟩⟩⟩
def cRange1 (ta : CA) : CA := fun ρ n k ke => ta ρ n (fun ds ρ' n' => ∃ j : Int, ds = [.int j] ∧ (-(2 ^ 62) ≤ j ∧ j < 2 ^ 62) ∧ k (rangeD 0 j.toNat) ρ' n') ke
theorem pdi_range1 {a : Expr} {ta : CA} (hg : Gl X "range") (hm : X.mg "range" = none) (ha : PDA X g xk [a] ta) (hs : starEach [a] X.env = [(false, eval a X.env)] := by rfl) : PDI X g xk tg (.Call (.Name "range" p) [a] [] pos) (cRange1 ta) := by
  refine ⟨pi_imp (pi_range1 hg hm ha.pa hs) fun σ H R r => ?_⟩
  obtain ⟨C, ρ, n, O, k, ke, hK, E, t, x, q⟩ := r
  refine ⟨C, ρ, n, O, _, ke, hK, E, t, x, fun d ρ1 n1 v H1 O1 k1 E1 S1 i1 => ?_⟩
  obtain ⟨j, rfl, ⟨c1, c2⟩, k1⟩ := k1
  obtain ⟨v, rfl, iv⟩ := i1.one
  rw [iv.int']
  exact ⟨j, rfl, c1, c2, q _ _ _ _ _ _ k1 E1 S1 walkd_range⟩
/-! ### targets -/
abbrev CG := D → En → Option En
def AgreeOff (js : List Nat) (σ σ' : L2.St) : Prop := σ'.length = σ.length ∧ ∀ j, j ∉ js → σ'[j]? = σ[j]?
def liftG (g : Glob) (js : List Nat) (cg : CG) : TG := fun v σ H Q => ∃ (C : Ctx) (ρ ρ' : En) (n : Nat) (O : Ow) (d : D), C.On g ∧ Ev C ρ n σ H O ∧ Is C.T (hid C O H) v d ∧ cg d ρ = some ρ' ∧
  ∀ (σ' : L2.St) (O' : Ow), Ev C ρ' n σ' H O' → Same (hid C O H) (hid C O' H) → AgreeOff js σ σ' → Q σ' H
def liftGs (g : Glob) (js : List Nat) (cg : List D → En → Option En) : TGs := fun vs σ H Q => ∃ (C : Ctx) (ρ ρ' : En) (n : Nat) (O : Ow) (ds : List D), C.On g ∧ Ev C ρ n σ H O ∧ IsL C.T (hid C O H) vs ds ∧ cg ds ρ = some ρ' ∧
  ∀ (σ' : L2.St) (O' : Ow), Ev C ρ' n σ' H O' → Same (hid C O H) (hid C O' H) → AgreeOff js σ σ' → Q σ' H
structure PDG (X : Cx) (g : Glob) (js : List Nat) (e : Expr) (cg : CG) : Prop where
  pg : PG X e (liftG g js cg)
structure PDGs (X : Cx) (g : Glob) (js : List Nat) (es : List Expr) (cg : List D → En → Option En) : Prop where
  pgs : PGs X es (liftGs g js cg)
def stN (i : Nat) : CG := fun d ρ => some (ρ.set i (some (Sl.v d)))
def stNil : List D → En → Option En
  | [], ρ => some ρ
  | _, _ => none
def stCons (s : CG) (t : List D → En → Option En) : List D → En → Option En
  | d :: ds, ρ => (s d ρ).bind (t ds)
  | _, _ => none
def stT (t : List D → En → Option En) : CG := fun d ρ => (seqD d).bind fun ds => t ds ρ
theorem AgreeOff.refl (σ : L2.St) : AgreeOff [] σ σ := ⟨rfl, fun _ _ => rfl⟩
theorem AgreeOff.trans {js ks : List Nat} {a b c : L2.St} (h : AgreeOff js a b) (h' : AgreeOff ks b c) : AgreeOff (js ++ ks) a c := ⟨h'.1.trans h.1, fun j n => by
  rw [List.mem_append, not_or] at n
  exact (h'.2 j n.2).trans (h.2 j n.1)⟩
theorem agree_set {σ : L2.St} {i : Nat} {x : Option V} : AgreeOff [i] σ (σ.set i x) := ⟨List.length_set, fun j n => by
  rw [List.mem_singleton] at n
  exact List.getElem?_set_ne (Ne.symm n)⟩
theorem pdg_name {i : Nat} {x : Str} (hN : X.N.Nodup) (hi : X.N[i]? = some x) (hx : Loc X.env.scope x) (hf : X.fn x = true ∨ X.env.scope.names.lookup x = some .local := by first | exact .inl rfl | exact .inr rfl | assumption) : PDG X g [i] (.Name x pos) (stN i) := by
  refine ⟨⟨fun pins s σ H v u Q I r h => ?_⟩⟩
  obtain ⟨C, ρ, ρ', n, O, d, hK, E, iv, e, q⟩ := h
  cases e
  obtain ⟨a, b⟩ := E.set (i := i) iv
  exact (pg_name hN hi hx hf).run pins s σ H v u Q I r (q _ _ a b agree_set)
theorem pdgs_nil : PDGs X g [] [] stNil := by
  refine ⟨⟨fun pins s σ H vs us Q I r h => ?_⟩⟩
  obtain ⟨C, ρ, ρ', n, O, ds, hK, E, iv, e, q⟩ := h
  cases ds with
  | nil =>
    cases e
    cases iv
    exact pgs_nil.run pins s σ H [] us Q I r ⟨rfl, q _ _ E (Same.refl _) (.refl _)⟩
  | cons d ds => cases e
theorem pdgs_cons {js ks : List Nat} {e : Expr} {es : List Expr} {t : CG} {u : List D → En → Option En} (h1 : PDG X g js e t) (h2 : PDGs X g ks es u)
    (hs : (assignEach (e :: es) X.env).map (·.2) = assign e X.env :: (assignEach es X.env).map (·.2) := by rfl) : PDGs X g (js ++ ks) (e :: es) (stCons t u) := by
  refine ⟨⟨fun pins s σ H vs us Q I r h => ?_⟩⟩
  obtain ⟨C, ρ, ρ', n, O, ds, hK, E, iv, e', q⟩ := h
  cases ds with
  | nil => cases e'
  | cons d ds =>
    cases iv with
    | cons a b =>
      replace e' : (t d ρ).bind (u ds) = some ρ' := e'
      cases hd : t d ρ with
      | none => rw [hd] at e'; cases e'
      | some ρ1 =>
        rw [hd] at e'
        exact (pgs_cons h1.pg h2.pgs hs).run pins s σ H _ us Q I r ⟨_, _, rfl, C, ρ, ρ1, n, O, d, hK, E, a, hd, fun σ1 O1 E1 S1 A1 => ⟨C, ρ1, ρ', n, O1, ds, hK, E1, b.same S1, e', fun σ2 O2 E2 S2 A2 => q _ _ E2 (S1.trans S2) (A1.trans A2)⟩⟩
theorem pg_or {e : Expr} {t u : TG} (h1 : PG X e t) (h2 : PG X e u) : PG X e (fun v σ H Q => t v σ H Q ∨ u v σ H Q) :=
  ⟨fun pins s σ H v w Q I r h => h.elim (h1.run pins s σ H v w Q I r) (h2.run pins s σ H v w Q I r)⟩
theorem pdg_tup {js : List Nat} {es : List Expr} {k : Nat} {t : List D → En → Option En} {m : Nat} (hc : X.calm = true) (G : Good X g) (h : PDGs X g js es t) (hl : ∀ ds ρ ρ', t ds ρ = some ρ' → ds.length = m)
    (hn : (assignEach es X.env).length = m := by rfl) (hst : (assignEach es X.env).findIdx? (·.1) = none := by rfl) : PDG X g js (.Tuple es k pos) (stT t) := by
  refine ⟨⟨fun pins s σ H v u Q I r h' => ?_⟩⟩
  obtain ⟨C, ρ, ρ', n, O, d, hK, E, iv, e, q⟩ := h'
  unfold stT at e
  cases hs : seqD d with
  | none => rw [hs] at e; cases e
  | some ds =>
    rw [hs] at e
    obtain ⟨a, us, rfl, r', c⟩ := iv.seq hs
    have l := hl ds ρ ρ' e
    have rest : liftGs g js t us σ H Q := ⟨C, ρ, ρ', n, O, ds, hK, E, r', e, q⟩
    have eK := hK.1.trans G.K
    refine (pg_or (pg_tup hc h.pgs hn hst) (pg_lst hc h.pgs hn hst)).run pins s σ H _ u Q I r ?_
    rcases c with ⟨_, c⟩ | ⟨_, c⟩
    · exact .inr ⟨a, us, rfl, SqL.of (hid_le _ _ c), by rw [r'.length, l], rest⟩
    · exact .inl ⟨a, us, rfl, eK ▸ sqt_same hid_le c, by rw [r'.length, l], rest⟩
theorem stNil_len (ds : List D) (ρ ρ' : En) (h : stNil ds ρ = some ρ') : ds.length = 0 := by
  cases ds with
  | nil => rfl
  | cons => cases h
theorem stCons_len {s : CG} {t : List D → En → Option En} {m : Nat} (ht : ∀ ds ρ ρ', t ds ρ = some ρ' → ds.length = m) (ds : List D) (ρ ρ' : En) (h : stCons s t ds ρ = some ρ') : ds.length = m + 1 := by
  cases ds with
  | nil => cases h
  | cons d ds =>
    replace h : (s d ρ).bind (t ds) = some ρ' := h
    cases hd : s d ρ with
    | none => rw [hd] at h; cases h
    | some ρ1 =>
      rw [hd] at h
      rw [List.length_cons, ht ds ρ1 ρ' h]
end
end RM
namespace RM
open PySem PySem.Spec PyProof.Rows L2 CS RZ
/-! ### a list in the making -/
def out (H : Hp) (a : Addr) : Hp := fun b => if b = a then none else H b
theorem out_same {H : Hp} {a : Addr} : out H a a = none := by unfold out; rw [if_pos rfl]
theorem out_ne {H : Hp} {a b : Addr} (h : b ≠ a) : out H a b = H b := by unfold out; rw [if_neg h]
theorem out_le {H : Hp} {a : Addr} : Same (out H a) H := fun b o h => by
  unfold out at h
  split at h
  · cases h
  · exact h
theorem out_upd {H : Hp} {a : Addr} {o : HO} : out (upd H a o) a = out H a := by
  funext b
  by_cases c : b = a
  · rw [c, out_same, out_same]
  · rw [out_ne c, out_ne c, upd_ne c]
theorem out_new {H : Hp} {a : Addr} {o : HO} (h : H a = none) : out (upd H a o) a = H := by
  funext b
  by_cases c : b = a
  · rw [c, out_same, h]
  · rw [out_ne c, upd_ne c]
/-- one more address is hidden, its object stays -/
def Ctx.plus (C : Ctx) (a : Addr) (o : HO) : Ctx := { C with Z := fun b => C.Z b ∨ b = a, H0 := upd C.H0 a o }
section
variable {C : Ctx} {ρ : En} {n : Nat} {σ : L2.St} {H H' : Hp} {O : Ow} {a : Addr} {o : HO}
theorem hid_plus : hid (C.plus a o) O H = hid C O (out H a) := by
  funext b
  unfold hid
  by_cases c : b = a
  · subst c
    rw [if_pos (.inl (.inr rfl)), out_same]
    split <;> rfl
  · rw [out_ne c]
    by_cases z : C.Z b ∨ ∃ i, O i = some b
    · rw [if_pos z, if_pos]
      rcases z with z | z
      · exact .inl (.inl z)
      · exact .inr z
    · rw [if_neg z, if_neg]
      rintro ((w | w) | w)
      · exact z (.inl w)
      · exact c w
      · exact z (.inr w)
theorem Ev.hide (E : Ev C ρ n σ (out H a) O) (h : H a = some o) (no : ∀ xs, o ≠ HO.tup xs := by intro xs z; cases z) : Ev (C.plus a o) ρ n σ H O := by
  obtain ⟨f1, f2, f3, f4⟩ := E.fresh (p := a) out_same
  have keepO : ∀ i p, O i = some p → p ≠ a := fun i p e z => f2 i (e.trans (congrArg some z))
  refine ⟨E.len, fun i d e => ?_, fun i d e => ?_, fun i p e => ⟨(E.only i p e).1, ?_⟩, E.inj, fun b z => ?_, fun b xs z e => ?_, fun b u e z => ?_, fun b e => ⟨.inl (E.box b e).1, ?_⟩, E.slf, by rw [hid_plus]; exact E.vis⟩
  · rw [hid_plus]
    exact E.val i d e
  · rw [hid_plus]
    obtain ⟨p, h1, h2, h3⟩ := E.own i d e
    exact ⟨p, h1, h2, h3.same (Same.refl _) (out_ne (keepO i p h1)).symm⟩
  · show upd C.H0 a o p = none
    rw [upd_ne (keepO i p e)]
    exact (E.only i p e).2
  · by_cases c : b = a
    · exact ⟨o, by show upd C.H0 a o b = some o; rw [c, upd_same]⟩
    · rcases z with z | z
      · obtain ⟨u, hu⟩ := E.zs b z
        exact ⟨u, by show upd C.H0 a o b = some u; rw [upd_ne c]; exact hu⟩
      · exact absurd z c
  · replace e : upd C.H0 a o b = some (.tup xs) := e
    by_cases c : b = a
    · subst c
      rw [upd_same] at e
      exact no xs (Option.some.inj e)
    · rw [upd_ne c] at e
      rcases z with z | z
      · exact E.zt b xs z e
      · exact c z
  · replace e : upd C.H0 a o b = some u := e
    by_cases c : b = a
    · subst c
      rw [upd_same] at e
      exact h.trans e
    · rw [upd_ne c] at e
      exact (out_ne c).symm.trans (E.keep b u e z)
  · exact (E.box b e).2.same out_le
theorem Ev.unhide (E : Ev (C.plus a o) ρ n σ H O) (hz : ¬ C.Z a) (hb : C.T.bx ≠ some a) (h0 : C.H0 a = none) : Ev C ρ n σ (out H a) O ∧ H a = some o := by
  have ha : H a = some o := E.keep a o (by show upd C.H0 a o a = some o; exact upd_same) hb
  have keepO : ∀ i p, O i = some p → p ≠ a := fun i p e z => by
    have h1 : upd C.H0 a o p = none := (E.only i p e).2
    rw [z, upd_same] at h1
    cases h1
  refine ⟨⟨E.len, fun i d e => ?_, fun i d e => ?_, fun i p e => ⟨(E.only i p e).1, ?_⟩, E.inj, fun b z => ?_, fun b xs z e => ?_, fun b u e z => ?_, fun b e => ⟨?_, ?_⟩, E.slf, by have := E.vis; rw [hid_plus] at this; exact this⟩, ha⟩
  · have := E.val i d e
    rw [hid_plus] at this
    exact this
  · obtain ⟨p, h1, h2, h3⟩ := E.own i d e
    rw [hid_plus] at h3
    exact ⟨p, h1, h2, h3.same (Same.refl _) (out_ne (keepO i p h1))⟩
  · have h1 : upd C.H0 a o p = none := (E.only i p e).2
    rw [upd_ne (keepO i p e)] at h1
    exact h1
  · obtain ⟨u, hu⟩ := E.zs b (.inl z)
    replace hu : upd C.H0 a o b = some u := hu
    have c : b ≠ a := fun q => hz (q ▸ z)
    rw [upd_ne c] at hu
    exact ⟨u, hu⟩
  · have c : b ≠ a := fun q => hz (q ▸ z)
    refine E.zt b xs (.inl z) ?_
    show upd C.H0 a o b = _
    rw [upd_ne c]
    exact e
  · have c : b ≠ a := fun q => by rw [q, h0] at e; cases e
    rw [out_ne c]
    exact E.keep b u (by show upd C.H0 a o b = some u; rw [upd_ne c]; exact e) z
  · have c : b ≠ a := fun q => hb (e.trans (congrArg some q))
    rcases (E.box b e).1 with z | z
    · exact z
    · exact absurd z c
  · have c : b ≠ a := fun q => hb (e.trans (congrArg some q))
    obtain ⟨A, B, F, h1, h2⟩ := (E.box b e).2
    exact ⟨A, B, F, (out_ne c).trans h1, h2⟩
/-! slots forgotten -/
def wipeE (ρ : En) : List Nat → En
  | [] => ρ
  | v :: vs => (wipeE ρ vs).set v none
noncomputable def cutOs (O : Ow) : List Nat → Ow
  | [] => O
  | v :: vs => cutO (cutOs O vs) v
theorem hid_cuts : ∀ vs : List Nat, Same (hid C O H) (hid C (cutOs O vs) H)
  | [] => Same.refl _
  | _ :: vs => (hid_cuts vs).trans hid_cut
theorem Ev.wipes (E : Ev C ρ n σ H O) : ∀ vs : List Nat, Ev C (wipeE ρ vs) n (wipe σ vs) H (cutOs O vs)
  | [] => E
  | v :: vs => (E.wipes vs).wipe1 v
theorem Ev.unwipe {vs : List Nat} (E : Ev C ρ n (wipe σ vs) H O) : Ev C ρ n σ H O where
  len := by rw [E.len, wipe_length]
  val := fun i d e => let ⟨v, h1, h2⟩ := E.val i d e; ⟨v, (wipe_some h1).1, h2⟩
  own := fun i d e => let ⟨p, h1, h2, h3⟩ := E.own i d e; ⟨p, h1, (wipe_some h2).1, h3⟩
  only := E.only
  inj := E.inj
  zs := E.zs
  zt := E.zt
  keep := E.keep
  box := E.box
  slf := E.slf
  vis := E.vis
theorem wipe_get (σ : L2.St) (j : Nat) : ∀ vs : List Nat, (wipe σ vs)[j]? = if j ∈ vs then (σ[j]?).map (fun _ => none) else σ[j]?
  | [] => by simp [wipe]
  | v :: vs => by
    unfold wipe
    by_cases c : v = j
    · subst c
      rw [List.getElem?_set_self']
      rw [wipe_get σ v vs]
      simp only [List.mem_cons, true_or, if_true]
      split
      · cases σ[v]? <;> rfl
      · rfl
    · rw [List.getElem?_set_ne c, wipe_get σ j vs]
      have e : (j ∈ v :: vs) = (j ∈ vs) := by
        rw [List.mem_cons, eq_iff_iff]
        exact ⟨fun h => h.elim (fun z => absurd z.symm c) id, .inr⟩
      simp only [e]
theorem wipe_agree {σ σ' : L2.St} {js vs : List Nat} (h : AgreeOff js σ σ') (hs : ∀ j ∈ js, j ∈ vs) : wipe σ' vs = wipe σ vs := by
  refine List.ext_getElem? fun j => ?_
  rw [wipe_get, wipe_get]
  by_cases c : j ∈ vs
  · rw [if_pos c, if_pos c]
    by_cases l : j < σ.length
    · rw [List.getElem?_eq_getElem l, List.getElem?_eq_getElem (by rw [h.1]; exact l)]
      rfl
    · have hl := h.1
      rw [List.getElem?_eq_none (by omega), List.getElem?_eq_none (by omega)]
  · rw [if_neg c, if_neg c]
    exact h.2 j fun z => c (hs j z)
end
def kF : KE := fun _ _ _ => False
theorem xl_F {C : Ctx} {xk : WX} : XL C xk kF := fun _ _ _ _ _ _ _ _ h => h.elim
structure PDTs (X : Cx) (g : Glob) (xk : WX) (es : List Expr) (td : CT) : Prop where
  pts : PTs X es (liftT g xk td)
def cYes : CT := fun ρ n k _ => k true ρ n
section
variable {X : Cx} {g : Glob} {xk : WX} {pos : Pos}
theorem pdts_nil : PDTs X g xk [] cYes := ⟨⟨fun pins s σ H Q I h => by
  obtain ⟨C, ρ, n, O, k, ke, hK, E, t, x, q⟩ := h
  exact pts_nil.run pins s σ H Q I (q _ _ _ _ _ t E (Same.refl _))⟩⟩
theorem pdts_one {e : Expr} {td : CT} (h : PDT X g xk e td) : PDTs X g xk [e] td := ⟨pts_one h.pt⟩
/-- the turns of a comprehension -/
def cLcL (cg : CG) (tt : CT) (te : CE) (vs : List Nat) : List D → En → Nat → List D → (List D → En → Nat → Prop) → Prop
  | [], ρ, n, acc, k => k acc ρ n
  | d :: ds, ρ, n, acc, k => ∃ ρ1, cg d ρ = some ρ1 ∧ tt ρ1 n (fun b ρ2 n2 => if b = true then te ρ2 n2 (fun y ρ3 n3 => acc.length < lim ∧ cLcL cg tt te vs ds (wipeE ρ3 vs) n3 (acc ++ [y]) k) kF
      else cLcL cg tt te vs ds (wipeE ρ2 vs) n2 acc k) kF
def cLc (ci : CA) (cg : CG) (tt : CT) (te : CE) (vs : List Nat) : CE := fun ρ n k ke => ci ρ n (fun ds ρ' n' => cLcL cg tt te vs ds (wipeE ρ' vs) n' [] (fun acc ρ2 n2 => k (.list acc) ρ2 n2)) ke
theorem lc_use {ci : CA} {cg : CG} {js vs : List Nat} {tt : CT} {te : CE} (hj : ∀ j ∈ js, j ∈ vs) {σ : L2.St} {H : Hp} {Q : VK} (r : liftF g xk (cLc ci cg tt te vs) σ H Q) : tLc (liftI g xk ci) (liftG g js cg) (liftT g xF tt) (lift g xF te) vs σ H Q := by
  obtain ⟨C, ρ, n, O, k, ke, hK, E, t, x, q⟩ := r
  refine ⟨C, ρ, n, O, _, ke, hK, E, t, x, fun ds ρ1 n1 J H1 O1 k1 E1 S1 WD => ?_⟩
  intro Da nD
  obtain ⟨f1, f2, f3, f4⟩ := E1.fresh nD
  obtain ⟨Gd, Y, WK, hG, hY⟩ := WD.ex
  refine lc_it WK (fun i H => ∃ (ρ : En) (n : Nat) (O : Ow) (acc : List D) (accV : List V), Ev C ρ n (wipe σ vs) (out H Da) O ∧ H Da = some (.lst accV) ∧ IsL C.T (hid C O (out H Da)) accV acc ∧
    cLcL cg tt te vs (ds.drop i) ρ n acc (fun acc ρ2 n2 => k (.list acc) ρ2 n2) ∧ Same (hid C O1 H1) (hid C O (out H Da))) ?_ ?_ ?_ ?_
  · refine ⟨_, n1, _, [], [], (by rw [out_new nD]; exact E1.wipes vs), upd_same, .nil, k1, ?_⟩
    rw [out_new nD]
    exact hid_cuts vs
  · rintro i H2 _ ⟨ρ2, n2, O2, acc, accV, E2, eD, iA, c2, S2⟩
    exact hG _ ((S2.trans hid_le).trans out_le)
  · rintro i x0 H2 H3 hi' ⟨ρ2, n2, O2, acc, accV, E2, eD, iA, c2, S2⟩ y
    have hd : ds.drop i = ds[i] :: ds.drop (i + 1) := List.drop_eq_getElem_cons hi'
    rw [hd] at c2
    obtain ⟨ρ3, e3, c3⟩ := c2
    have S2' : Same (hid C O1 H1) H2 := (S2.trans hid_le).trans out_le
    obtain ⟨sY, iY⟩ := hY i x0 H2 H3 ds[i] S2' y (List.getElem?_eq_getElem hi')
    have E4 := E2.hide eD
    have E5 := E4.ext sY
    have h45 := hid_same (C := C.plus Da (.lst accV)) (O := O2) sY
    have S6 : Same (hid C O1 H1) (hid (C.plus Da (.lst accV)) O2 H3) := by
      refine Same.trans ?_ h45
      rw [hid_plus]
      exact S2
    have ix : Is C.T (hid (C.plus Da (.lst accV)) O2 H3) x0 ds[i] := iY _ S6 fun b u h1 h2 => let ⟨g1, g2, _, _⟩ := E4.fresh h2; hid_of h1 g1 g2
    refine ⟨C.plus Da (.lst accV), ρ2, ρ3, n2, O2, ds[i], hK, E5, ix, e3, fun σ4 O4 E6 S7 A4 => ⟨wipe_agree (σ := wipe σ vs) A4 hj |>.trans (by
      refine List.ext_getElem? fun j => ?_
      rw [wipe_get, wipe_get]
      split
      · cases σ[j]? <;> rfl
      · rfl), ?_⟩⟩
    have wp : wipe σ4 vs = wipe σ vs := wipe_agree (σ := wipe σ vs) A4 hj |>.trans (by
      refine List.ext_getElem? fun j => ?_
      rw [wipe_get, wipe_get]
      split
      · cases σ[j]? <;> rfl
      · rfl)
    refine ⟨C.plus Da (.lst accV), ρ3, n2, O4, _, kF, hK, E6, c3, xl_F, fun b ρ5 n5 H5 O5 c5 E7 S8 => ?_⟩
    cases b with
    | false =>
      show ∃ _, _
      obtain ⟨E8, eD8⟩ := E7.unhide f1 f4 f3
      have E9 := E8.wipes vs
      rw [wp] at E9
      have S10 := ((S6.trans S7).trans S8)
      rw [hid_plus] at S10
      have iA2 : IsL C.T (hid C O5 (out H5 Da)) accV acc := iA.same (by
        have := (h45.trans S7).trans S8
        rw [hid_plus, hid_plus] at this
        exact this)
      exact ⟨_, _, _, acc, accV, E9, eD8, iA2.same (hid_cuts vs), c5, S10.trans (hid_cuts vs)⟩
    | true =>
      refine ⟨C.plus Da (.lst accV), ρ5, n5, O5, _, kF, hK, E7, c5, xl_F, fun yd ρ6 n6 yv H6 O6 c6 E8 S9 iy => ?_⟩
      obtain ⟨E9, eD9⟩ := E8.unhide f1 f4 f3
      refine ⟨accV, eD9, by rw [iA.length]; exact lim_lt c6.1, ?_⟩
      have E10 := E9.wipes vs
      rw [wp] at E10
      have S10 := (((S6.trans S7).trans S8).trans S9)
      rw [hid_plus] at S10 iy
      have iA2 : IsL C.T (hid C O6 (out H6 Da)) accV acc := iA.same (by
        have := ((h45.trans S7).trans S8).trans S9
        rw [hid_plus, hid_plus] at this
        exact this)
      refine ⟨_, _, cutOs O6 vs, acc ++ [yd], accV ++ [yv], ?_, upd_same, ?_, c6.2, ?_⟩
      · rw [out_upd]
        exact E10
      · rw [out_upd]
        exact (iA2.append (.cons iy .nil)).same (hid_cuts vs)
      · rw [out_upd]
        exact S10.trans (hid_cuts vs)
  · rintro H2 ⟨ρ2, n2, O2, acc, accV, E2, eD, iA, c2, S2⟩
    rw [List.drop_length] at c2
    exact q _ _ _ _ _ _ _ c2 E2.unwipe (S1.trans S2) out_same out_le (.lst eD iA) rfl
theorem pf_lc {elt tg iter : Expr} {ifs : List Expr} {scope : Scope} {own : List (Str × Nat)} {ci : CA} {cg : CG} {js : List Nat} {tt : CT} {te : CE} (hc : X.calm = true) (hN : X.N.Nodup) (hi : PDI X g xk tg iter ci) (ok : BlkOk X.N X.env.scope scope own)
    (hg : ∀ (s : Shared) (H : Hp) (C : Addr) (cl : List (Str × Addr)) (fp : List Addr), PDG (X.blk s H scope (compEnvC scope cl C X.env) fp) g js tg cg) (ht : ∀ (s : Shared) (H : Hp) (C : Addr) (cl : List (Str × Addr)) (fp : List Addr), PDTs (X.blk s H scope (compEnvC scope cl C X.env) fp) g xF ifs tt)
    (he : ∀ (s : Shared) (H : Hp) (C : Addr) (cl : List (Str × Addr)) (fp : List Addr), PD (X.blk s H scope (compEnvC scope cl C X.env) fp) g xF elt te) (hj : ∀ j ∈ js, j ∈ own.map (·.2) := by decide) (hs : ∀ x, foldedSetIterable iter X.env x = pure x := by intro _; rfl) :
    PDF X g xk (.ListComp elt [⟨tg, iter, ifs, 0⟩] scope pos) (cLc ci cg tt te (own.map (·.2))) :=
  ⟨PE.imp (pe_lc hc hN hi.pi ok (fun s H C cl fp => (hg s H C cl fp).pg) (fun s H C cl fp => (ht s H C cl fp).pts) (fun s H C cl fp => (he s H C cl fp).pe) hs) fun σ H Q r => lc_use hj r⟩
end
end RM
namespace RM
open PySem PySem.Spec PyProof.Rows L2 CS RZ
/-! ### statements -/
structure EndsD where
  nx : En → Nat → Prop
  rt : D → Nat → Prop
  bk : En → Nat → Prop
  ct : En → Nat → Prop
  xc : KE
abbrev CS := En → Nat → EndsD → Prop
/-- a def is left: what was there is kept, the box is at its count -/
structure Fin (C : Ctx) (n : Nat) (H : Hp) : Prop where
  keep : ∀ a o, C.H0 a = some o → C.T.bx ≠ some a → H a = some o
  box : ∀ b, C.T.bx = some b → BoxAt H b n
theorem Ev.fin {C : Ctx} {ρ : En} {n : Nat} {σ : L2.St} {H : Hp} {O : Ow} (E : Ev C ρ n σ H O) : Fin C n H := ⟨E.keep, fun b h => (E.box b h).2⟩
theorem hid_now {C : Ctx} {H : Hp} {O : Ow} : Same (hid C O H) (hid C now H) := fun a o h => by
  obtain ⟨h1, h2, _⟩ := hid_some h
  exact hid_of h1 h2 fun i z => nomatch z
structure LinkS (C : Ctx) (xk : WX) (e : EndsD) (Hb : Hp) (F : Ends) : Prop where
  nx : ∀ (ρ : En) (n : Nat) (σ : L2.St) (H : Hp) (O : Ow), e.nx ρ n → Ev C ρ n σ H O → Same Hb (hid C O H) → F.nx σ H
  rt : ∀ (d : D) (n : Nat) (v : V) (H : Hp), e.rt d n → Fin C n H → Is C.T (hid C now H) v d → F.rt v H
  bk : ∀ (ρ : En) (n : Nat) (σ : L2.St) (H : Hp) (O : Ow), e.bk ρ n → Ev C ρ n σ H O → Same Hb (hid C O H) → F.bk σ H
  ct : ∀ (ρ : En) (n : Nat) (σ : L2.St) (H : Hp) (O : Ow), e.ct ρ n → Ev C ρ n σ H O → Same Hb (hid C O H) → F.ct σ H
  xc : XL C xk e.xc
theorem LinkS.mono {C : Ctx} {xk : WX} {e : EndsD} {Hb Hb' : Hp} {F : Ends} (l : LinkS C xk e Hb F) (s : Same Hb Hb') : LinkS C xk e Hb' F :=
  ⟨fun ρ n σ H O a b c => l.nx ρ n σ H O a b (s.trans c), l.rt, fun ρ n σ H O a b c => l.bk ρ n σ H O a b (s.trans c), fun ρ n σ H O a b c => l.ct ρ n σ H O a b (s.trans c), l.xc⟩
def liftS (g : Glob) (xk : WX) (cs : CS) : TS := fun F σ H => ∃ (C : Ctx) (ρ : En) (n : Nat) (O : Ow) (e : EndsD), C.On g ∧ Ev C ρ n σ H O ∧ cs ρ n e ∧ LinkS C xk e (hid C O H) F
structure PDS (X : Cx) (g : Glob) (xk : WX) (st : Stmt) (cs : CS) : Prop where
  ps : PS X st (liftS g xk cs)
structure PDSs (X : Cx) (g : Glob) (xk : WX) (st : List Stmt) (cs : CS) : Prop where
  pss : PSs X st (liftS g xk cs)
theorem ps_imp {X : Cx} {e : Stmt} {t t' : TS} (h : PS X e t) (q : ∀ D σ H, t' D σ H → t D σ H) : PS X e t' := ⟨fun pins s σ H D I r => h.run pins s σ H D I (q _ _ _ r)⟩
theorem pss_imp {X : Cx} {e : List Stmt} {t t' : TS} (h : PSs X e t) (q : ∀ D σ H, t' D σ H → t D σ H) : PSs X e t' := ⟨fun pins s σ H D I r => h.run pins s σ H D I (q _ _ _ r)⟩
def cNext : CS := fun ρ n e => e.nx ρ n
def cSq (a b : CS) : CS := fun ρ n e => a ρ n { e with nx := fun ρ' n' => b ρ' n' e }
def cDrop (t : CE) : CS := fun ρ n e => t ρ n (fun _ ρ' n' => e.nx ρ' n') e.xc
def cRet (t : CE) : CS := fun ρ n e => t ρ n (fun d _ n' => e.rt d n') e.xc
def cSet (i : Nat) (t : CE) : CS := fun ρ n e => t ρ n (fun d ρ' n' => e.nx (ρ'.set i (some (Sl.v d))) n') e.xc
def cOwn (i : Nat) (t : CE) : CS := fun ρ n e => t ρ n (fun d ρ' n' => i < ρ'.length ∧ e.nx (ρ'.set i (some (Sl.own d))) n') e.xc
def cAsg (cg : CG) (t : CE) : CS := fun ρ n e => t ρ n (fun d ρ' n' => ∃ ρ2, cg d ρ' = some ρ2 ∧ e.nx ρ2 n') e.xc
def cIfS (c : CT) (a b : CS) : CS := fun ρ n e => c ρ n (fun t ρ' n' => if t = true then a ρ' n' e else b ρ' n' e) e.xc
def cForL (cg : CG) (body : CS) : List D → En → Nat → EndsD → Prop
  | [], ρ, n, e => e.nx ρ n
  | d :: ds, ρ, n, e => ∃ ρ1, cg d ρ = some ρ1 ∧ body ρ1 n { e with nx := fun ρ' n' => cForL cg body ds ρ' n' e, ct := fun ρ' n' => cForL cg body ds ρ' n' e, bk := e.nx }
def cFor (ci : CA) (cg : CG) (body : CS) : CS := fun ρ n e => ci ρ n (fun ds ρ' n' => cForL cg body ds ρ' n' e) e.xc
def cWhL (c : CT) (body : CS) : Nat → En → Nat → EndsD → Prop
  | 0, _, _, _ => False
  | m + 1, ρ, n, e => c ρ n (fun b ρ' n' => if b = true then body ρ' n' { e with nx := fun ρ2 n2 => cWhL c body m ρ2 n2 e, ct := fun ρ2 n2 => cWhL c body m ρ2 n2 e, bk := e.nx } else e.nx ρ' n') e.xc
def cWh (c : CT) (body : CS) : CS := fun ρ n e => ∃ m, cWhL c body m ρ n e
section
variable {X : Cx} {g : Glob} {xk : WX} {pos : Pos}
theorem pdss_nil : PDSs X g xk [] cNext := ⟨pss_imp pss_nil fun D σ H ⟨C, ρ, n, O, e, hK, E, t, l⟩ => l.nx _ _ _ _ _ t E (Same.refl _)⟩
theorem pdss_cons {st : Stmt} {rest : List Stmt} {a b : CS} (h1 : PDS X g xk st a) (h2 : PDSs X g xk rest b) : PDSs X g xk (st :: rest) (cSq a b) :=
  ⟨pss_imp (pss_cons h1.ps h2.pss) fun D σ H ⟨C, ρ, n, O, e, hK, E, t, l⟩ => ⟨C, ρ, n, O, _, hK, E, t, ⟨fun ρ' n' σ' H' O' x E' S => ⟨C, ρ', n', O', e, hK, E', x, l.mono S⟩, l.rt, l.bk, l.ct, l.xc⟩⟩⟩
theorem pdss_one {st : Stmt} {a : CS} (h1 : PDS X g xk st a) : PDSs X g xk [st] a := ⟨pss_one h1.ps⟩
theorem pds_expr {e : Expr} {t : CE} (he : PD X g xk e t) (hs : swapsWith e none pos.line X.env = pure false := by rfl) : PDS X g xk (.Expr e pos) (cDrop t) :=
  ⟨ps_imp (ps_expr he.pe hs) fun D σ H ⟨C, ρ, n, O, e, hK, E, t, l⟩ => ⟨C, ρ, n, O, _, _, hK, E, t, l.xc, fun d ρ' n' v H' O' x E' S i => l.nx _ _ _ _ _ x E' S⟩⟩
theorem pds_ret {e : Expr} {t : CE} (he : PD X g xk e t) : PDS X g xk (.Return (some e) pos) (cRet t) :=
  ⟨ps_imp (ps_ret he.pe) fun D σ H ⟨C, ρ, n, O, e, hK, E, t, l⟩ => ⟨C, ρ, n, O, _, _, hK, E, t, l.xc, fun d ρ' n' v H' O' x E' S i => l.rt _ _ _ _ x E'.fin (i.same hid_now)⟩⟩
theorem set_use {t : CE} {i : Nat} {D : Ends} {σ : L2.St} {H : Hp} (h : liftS g xk (cSet i t) D σ H) : tAsg (lift g xk t) (gName i) D σ H := by
  obtain ⟨C, ρ, n, O, e, hK, E, t, l⟩ := h
  refine ⟨C, ρ, n, O, _, _, hK, E, t, l.xc, fun d ρ' n' v H' O' x E' S iv => ?_⟩
  obtain ⟨a, b⟩ := E'.set (i := i) iv
  exact l.nx _ _ _ _ _ x a (S.trans b)
theorem own_use {t : CE} {i : Nat} {D : Ends} {σ : L2.St} {H : Hp} (h : liftS g xk (cOwn i t) D σ H) : tAsg (liftF g xk t) (gName i) D σ H := by
  obtain ⟨C, ρ, n, O, e, hK, E, t, l⟩ := h
  refine ⟨C, ρ, n, O, _, _, hK, E, t, l.xc, fun d ρ' n' p H1 H' O' x E' S hp s ow no => ?_⟩
  obtain ⟨a, b⟩ := E'.setOwn (i := i) x.1 hp s ow no
  exact l.nx _ _ _ _ _ x.2 a (S.trans b)
theorem pds_set {i : Nat} {x : Str} {e : Expr} {t : CE} {pos' : Pos} (hN : X.N.Nodup) (hi : X.N[i]? = some x) (hx : Loc X.env.scope x) (he : PD X g xk e t) (hs : swapsWith e (some (.Name x pos')) pos.line X.env = pure false := by rfl)
    (hf : X.fn x = true ∨ X.env.scope.names.lookup x = some .local := by first | exact .inl rfl | exact .inr rfl | assumption) : PDS X g xk (.Assign [.Name x pos'] e pos) (cSet i t) :=
  ⟨ps_imp (ps_set hN hi hx he.pe hs hf) fun D σ H h => set_use h⟩
theorem pds_own {i : Nat} {x : Str} {e : Expr} {t : CE} {pos' : Pos} (hN : X.N.Nodup) (hi : X.N[i]? = some x) (hx : Loc X.env.scope x) (he : PDF X g xk e t) (hs : swapsWith e (some (.Name x pos')) pos.line X.env = pure false := by rfl)
    (hf : X.fn x = true ∨ X.env.scope.names.lookup x = some .local := by first | exact .inl rfl | exact .inr rfl | assumption) : PDS X g xk (.Assign [.Name x pos'] e pos) (cOwn i t) :=
  ⟨ps_imp (ps_set hN hi hx he.pe hs hf) fun D σ H h => own_use h⟩
theorem pds_ownLc {i : Nat} {y : Str} {py : Pos} {elt tg iter : Expr} {ifs : List Expr} {scope : Scope} {own : List (Str × Nat)} {pos spos : Pos} {ci : CA} {cg : CG} {js : List Nat} {tt : CT} {te : CE} (hc : X.calm = true) (hN : X.N.Nodup) (hy : X.N[i]? = some y) (hyl : X.env.scope.names.lookup y = some .local)
    (hi : PDI X g xk tg iter ci) (ok : BlkOk X.N X.env.scope scope own)
    (hg : ∀ (s : Shared) (H : Hp) (C : Addr) (cl : List (Str × Addr)) (fp : List Addr), PDG (X.blk s H scope (compEnvC scope cl C X.env) fp) g js tg cg) (ht : ∀ (s : Shared) (H : Hp) (C : Addr) (cl : List (Str × Addr)) (fp : List Addr), PDTs (X.blk s H scope (compEnvC scope cl C X.env) fp) g xF ifs tt)
    (he : ∀ (s : Shared) (H : Hp) (C : Addr) (cl : List (Str × Addr)) (fp : List Addr), PD (X.blk s H scope (compEnvC scope cl C X.env) fp) g xF elt te)
    (hsw : swapsWith (.ListComp elt [⟨tg, iter, ifs, 0⟩] scope pos) (some (.Name y py)) spos.line X.env = pure true := by rfl) (hj : ∀ j ∈ js, j ∈ own.map (·.2) := by decide) (hs : ∀ x, foldedSetIterable iter X.env x = pure x := by intro _; rfl) :
    PDS X g xk (.Assign [.Name y py] (.ListComp elt [⟨tg, iter, ifs, 0⟩] scope pos) spos) (cOwn i (cLc ci cg tt te (own.map (·.2)))) :=
  ⟨ps_imp (ps_setLc hc hN hy hyl hsw hi.pi ok (fun s H C cl fp => (hg s H C cl fp).pg) (fun s H C cl fp => (ht s H C cl fp).pts) (fun s H C cl fp => (he s H C cl fp).pe) hs) fun D σ H h => lc_use hj (own_use h)⟩
theorem pds_asg {tg e : Expr} {t : CE} {cg : CG} {js : List Nat} (he : PD X g xk e t) (hg : PDG X g js tg cg) (hs : swapsWithSole [tg] e pos.line X.env = pure false := by rfl) (hw : swappedStores [tg] e X.env = pure none := by rfl)
    (h1 : (assignEach [tg] X.env).map (·.2) = [assign tg X.env] := by rfl) : PDS X g xk (.Assign [tg] e pos) (cAsg cg t) :=
  ⟨ps_imp (ps_asg he.pe hg.pg hs hw h1) fun D σ H ⟨C, ρ, n, O, e, hK, E, t, l⟩ => ⟨C, ρ, n, O, _, _, hK, E, t, l.xc, fun d ρ' n' v H' O' x E' S i => let ⟨ρ2, h2, x⟩ := x; ⟨C, ρ', ρ2, n', O', d, hK, E', i, h2, fun σ2 O2 E2 S2 _ => l.nx _ _ _ _ _ x E2 (S.trans S2)⟩⟩⟩
theorem pds_if {c : Expr} {p q : List Stmt} {tc : CT} {a b : CS} (hc : PDT X g xk c tc) (ha : PDSs X g xk p a) (hb : PDSs X g xk q b) : PDS X g xk (.If c p q pos) (cIfS tc a b) := by
  refine ⟨ps_imp (ps_if hc.pt ha.pss hb.pss) fun D σ H h => ?_⟩
  obtain ⟨C, ρ, n, O, e, hK, E, t, l⟩ := h
  refine ⟨C, ρ, n, O, _, _, hK, E, t, l.xc, fun b ρ' n' H' O' x E' S => ?_⟩
  cases b with
  | true => exact ⟨C, ρ', n', O', e, hK, E', x, l.mono S⟩
  | false => exact ⟨C, ρ', n', O', e, hK, E', x, l.mono S⟩
theorem pds_for {tg iter : Expr} {body : List Stmt} {ci : CA} {cg : CG} {js : List Nat} {cb : CS} (hp : PassesOwn (model X.prog X.w) X.A X.env X.xe) (hc : X.calm = true) (hi : PDI X g xk tg iter ci) (hg : PDG X g js tg cg) (hb : PDSs X g xk body cb)
    (hs : ∀ x, foldedSetIterable iter X.env x = pure x := by intro _; rfl) : PDS X g xk (.For tg iter body [] pos) (cFor ci cg cb) := by
  refine ⟨ps_imp (ps_for hp hc hi.pi hg.pg hb.pss hs) fun D σ H h => ?_⟩
  obtain ⟨C, ρ, n, O, e, hK, E, t, l⟩ := h
  refine ⟨C, ρ, n, O, _, _, hK, E, t, l.xc, fun ds ρ1 n1 J H1 O1 k1 E1 S1 WD => ?_⟩
  obtain ⟨Gd, Y, WK, hG, hY⟩ := WD.ex
  refine for_it WK (fun i σ H => ∃ (ρ : En) (n : Nat) (O : Ow), Ev C ρ n σ H O ∧ cForL cg cb (ds.drop i) ρ n e ∧ Same (hid C O1 H1) (hid C O H)) ⟨ρ1, n1, O1, E1, k1, Same.refl _⟩ ?_ ?_ ?_
  · rintro i σ2 H2 _ ⟨ρ2, n2, O2, E2, c2, S2⟩
    exact hG _ (S2.trans hid_le)
  · rintro i x0 σ2 H2 H3 hi' ⟨ρ2, n2, O2, E2, c2, S2⟩ y
    have hd : ds.drop i = ds[i] :: ds.drop (i + 1) := List.drop_eq_getElem_cons hi'
    rw [hd] at c2
    obtain ⟨ρ3, e3, c3⟩ := c2
    obtain ⟨sY, iY⟩ := hY i x0 H2 H3 ds[i] (S2.trans hid_le) y (List.getElem?_eq_getElem hi')
    have E5 := E2.ext sY
    have S6 : Same (hid C O1 H1) (hid C O2 H3) := S2.trans (hid_same sY)
    have ix : Is C.T (hid C O2 H3) x0 ds[i] := iY _ S6 fun b u h1 h2 => let ⟨g1, g2, _, _⟩ := E2.fresh h2; hid_of h1 g1 g2
    refine ⟨C, ρ2, ρ3, n2, O2, ds[i], hK, E5, ix, e3, fun σ4 O4 E6 S7 A4 => ?_⟩
    refine ⟨C, ρ3, n2, O4, _, hK, E6, c3, ⟨fun ρ5 n5 σ5 H5 O5 x E7 S8 => ⟨ρ5, n5, O5, E7, x, (S6.trans S7).trans S8⟩, l.rt, fun ρ5 n5 σ5 H5 O5 x E7 S8 => l.nx _ _ _ _ _ x E7 (((S1.trans S6).trans S7).trans S8), fun ρ5 n5 σ5 H5 O5 x E7 S8 => ⟨ρ5, n5, O5, E7, x, (S6.trans S7).trans S8⟩, l.xc⟩⟩
  · rintro σ2 H2 ⟨ρ2, n2, O2, E2, c2, S2⟩
    rw [List.drop_length] at c2
    exact l.nx _ _ _ _ _ c2 E2 (S1.trans S2)
theorem pds_while {c : Expr} {body : List Stmt} {tc : CT} {cb : CS} (hp : PassesOwn (model X.prog X.w) X.A X.env X.xe) (hc : PDT X g xk c tc) (hb : PDSs X g xk body cb) : PDS X g xk (.While c body [] pos) (cWh tc cb) := by
  refine ⟨ps_imp (ps_while hp hc.pt hb.pss) fun D σ H h => ?_⟩
  obtain ⟨C, ρ, n, O, e, hK, E, ⟨m0, t⟩, l⟩ := h
  refine ⟨fun m σ' H' => ∃ (ρ' : En) (n' : Nat) (O' : Ow), Ev C ρ' n' σ' H' O' ∧ cWhL tc cb m ρ' n' e ∧ Same (hid C O H) (hid C O' H'), ⟨m0, ρ, n, O, E, t, Same.refl _⟩, ?_⟩
  rintro m σ1 H1 ⟨ρ1, n1, O1, E1, c1, S1⟩
  cases m with
  | zero => exact c1.elim
  | succ m =>
    refine ⟨C, ρ1, n1, O1, _, _, hK, E1, c1, l.xc, fun b ρ2 n2 H2 O2 x E2 S2 => ?_⟩
    cases b with
    | false => exact l.nx _ _ _ _ _ x E2 (S1.trans S2)
    | true =>
      exact ⟨fun σ3 H3 => ∃ (ρ' : En) (n' : Nat) (O' : Ow), Ev C ρ' n' σ3 H3 O' ∧ cWhL tc cb m ρ' n' e ∧ Same (hid C O H) (hid C O' H3), fun σ3 H3 z => ⟨m, Nat.lt_succ_self m, z⟩,
        C, ρ2, n2, O2, _, hK, E2, x, ⟨fun ρ5 n5 σ5 H5 O5 x E7 S8 => ⟨ρ5, n5, O5, E7, x, (S1.trans S2).trans S8⟩, l.rt, fun ρ5 n5 σ5 H5 O5 x E7 S8 => l.nx _ _ _ _ _ x E7 ((S1.trans S2).trans S8), fun ρ5 n5 σ5 H5 O5 x E7 S8 => ⟨ρ5, n5, O5, E7, x, (S1.trans S2).trans S8⟩, l.xc⟩⟩
end
end RM
namespace RM
open PySem PySem.Spec PyProof.Rows L2 CS RZ
/-! ### defs and calls -/
abbrev SpD := List D → Nat → (D → Nat → Prop) → (Xv → Nat → Prop) → Prop
def spD (g : Glob) (sd : SpD) : Sp := fun vs H Q E => ∃ (C : Ctx) (ds : List D) (n : Nat) (k : D → Nat → Prop) (ke : Xv → Nat → Prop), C.On g ∧ C.H0 = H ∧ Ev C [] n [] H now ∧ IsL C.T (hid C now H) vs ds ∧ sd ds n k ke ∧
  (∀ (d : D) (n' : Nat) (v : V) (H' : Hp), k d n' → Fin C n' H' → Is C.T (hid C now H') v d → Q v H') ∧
  ∀ (c : Nat) (fs : List (D × D)) (n' : Nat) (dd : Option Addr) (H' : Hp), ke (c, fs) n' → Fin C n' H' → XIs C.T (hid C now H') dd fs → E (.ref (C.T.cls c)) dd H'
def startE (N : List Str) (ds : List D) : En := ds.map (fun d => some (Sl.v d)) ++ List.replicate (N.length - ds.length) none
section
variable {X : Cx} {g : Glob} {xk : WX} {pos : Pos} {C : Ctx} {ρ : En} {n : Nat} {σ : L2.St} {H H' : Hp} {O : Ow}
theorem startE_get {N : List Str} {ds : List D} {i : Nat} {d : D} (h : (startE N ds)[i]? = some (some (Sl.v d))) : ds[i]? = some d := by
  unfold startE at h
  by_cases c : i < ds.length
  · rw [List.getElem?_append_left (by rw [List.length_map]; exact c), List.getElem?_map] at h
    rw [List.getElem?_eq_getElem c] at h ⊢
    cases h
    rfl
  · rw [List.getElem?_append_right (by rw [List.length_map]; omega), List.getElem?_replicate] at h
    split at h <;> cases h
theorem startE_own {N : List Str} {ds : List D} {i : Nat} {d : D} (h : (startE N ds)[i]? = some (some (Sl.own d))) : False := by
  unfold startE at h
  by_cases c : i < ds.length
  · rw [List.getElem?_append_left (by rw [List.length_map]; exact c), List.getElem?_map] at h
    rw [List.getElem?_eq_getElem c] at h
    cases h
  · rw [List.getElem?_append_right (by rw [List.length_map]; omega), List.getElem?_replicate] at h
    split at h <;> cases h
theorem ev_start {N : List Str} {vs : List V} {ds : List D} (E : Ev C [] n [] H now) (i : IsL C.T (hid C now H) vs ds) : Ev C (startE N ds) n (start N vs) H now := by
  refine ⟨?_, fun j d h => ?_, fun j d h => (startE_own h).elim, fun j p h => (by cases h), fun j k p h => (by cases h), E.zs, E.zt, E.keep, E.box, fun p hp j q d h => (by cases h), E.vis⟩
  · unfold startE L2.start
    rw [List.length_append, List.length_append, List.length_map, List.length_map, List.length_replicate, List.length_replicate, i.length]
  · obtain ⟨v, h1, h2⟩ := i.get (startE_get h)
    refine ⟨v, ?_, h2⟩
    unfold L2.start
    rw [List.getElem?_append_left (by rw [List.length_map]; exact lt_of_get h1), List.getElem?_map, h1]
    rfl
/-- the end of a call, sorted by what it gives back -/
theorem cr_out {CX : CXT} {P : Program} {w : World} {outer : List Env} {s : Shared} {Q : VK} {E : XK} {R : Result → Shared → Prop} (he : ∀ e s', CX outer H s E e s' → R (.error e) s') (hv : ∀ u s', L2.CE outer P w H s Q u s' → R (.ok (.ret u)) s') : ∀ r s', CR CX outer P w H s Q E r s' → R r s'
  | .error e, s', h => he e s' h
  | .ok (.ret u), s', h => hv u s' h
  | .ok .next, _, h => h.elim
  | .ok .brk, _, h => h.elim
  | .ok .cont, _, h => h.elim
/-- a caller's slots are out of the callee's sight -/
def Ctx.sub (C : Ctx) (O : Ow) (H : Hp) : Ctx := { C with Z := fun a => C.Z a ∨ ∃ i, O i = some a, H0 := H, B := fun _ => none }
theorem hid_sub : hid (C.sub O H) now H' = hid C O H' := by
  funext a
  unfold hid
  by_cases c : C.Z a ∨ ∃ i, O i = some a
  · rw [if_pos c, if_pos (.inl c)]
  · rw [if_neg c, if_neg]
    rintro (z | ⟨i, z⟩)
    · exact c z
    · cases z
theorem ev_sub (E : Ev C ρ n σ H O) : Ev (C.sub O H) [] n [] H now := by
  refine ⟨rfl, fun i d h => by simp at h, fun i d h => by simp at h, fun i p h => (by cases h), fun i j p h => (by cases h), fun a z => ?_, fun a xs z e => ?_, fun a o h _ => h, fun b h => ⟨.inl (E.box b h).1, (E.box b h).2⟩, fun p hp j q d h => (by cases h), fun a o h => (by cases h)⟩
  rcases z with z | ⟨i, z⟩
  · obtain ⟨o, ho⟩ := E.zs a z
    by_cases c : C.T.bx = some a
    · obtain ⟨A, B, F, e, _⟩ := (E.box a c).2
      exact ⟨_, e⟩
    · exact ⟨o, E.keep a o ho c⟩
  · obtain ⟨⟨d, e⟩, _⟩ := E.only i a z
    obtain ⟨p, h1, _, h3⟩ := E.own i d e
    rw [z] at h1
    cases h1
    exact h3.some
  · replace e : H a = some (.tup xs) := e
    have := E.tup e
    obtain ⟨_, h2, h3⟩ := hid_some this
    rcases z with z | ⟨i, z⟩
    · exact h2 z
    · exact h3 i z
theorem ev_back {n' : Nat} (E : Ev C ρ n σ H O) (F : Fin (C.sub O H) n' H') : Ev C ρ n' σ H' O ∧ Same (hid C O H) (hid C O H') :=
  ⟨E.extB (fun a o h z => F.keep a o h z) F.box, E.hidKb fun a o h z => F.keep a o h z⟩
def cCall (sd : SpD) (ta : CA) : CE := fun ρ n k ke => ta ρ n (fun ds ρ' n' => sd ds n' (fun d n2 => k d ρ' n2) (fun x n2 => ke x ρ' n2)) ke
/-- the promise of the callee, from a caller's reading -/
theorem spD_use {sd : SpD} {ds : List D} {vs : List V} {k : D → Nat → Prop} {ke : KE} {Q : VK} (hK : C.On g) (E : Ev C ρ n σ H O) (x : XL C xk ke) (i : IsL C.T (hid C O H) vs ds) (s : sd ds n k (fun y n2 => ke y ρ n2))
    (q : ∀ (d : D) (n' : Nat) (v : V) (H' : Hp), k d n' → Ev C ρ n' σ H' O → Same (hid C O H) (hid C O H') → Is C.T (hid C O H') v d → Q v H') : spD g sd vs H Q (WE xk σ) := by
  refine ⟨C.sub O H, ds, n, k, fun y n2 => ke y ρ n2, hK, rfl, ev_sub E, by rw [hid_sub]; exact i, s, fun d n' v H' a F b => ?_, fun c fs n' dd H' a F b => ?_⟩
  · obtain ⟨e1, e2⟩ := ev_back E F
    rw [hid_sub] at b
    exact q d n' v H' a e1 e2 b
  · obtain ⟨e1, e2⟩ := ev_back E F
    rw [hid_sub] at b
    exact x c fs ρ n' σ H' O dd a e1 b
theorem pa0 {X : Cx} {σ : L2.St} {E : XK} : PassesAt CX0 X σ E := fun _ _ _ _ _ _ h => h.elim
theorem pd_call {CX : CXT} {sd : SpD} {k : Nat} {f : Addr} {fd : FuncData} {ps : List Str} {x : Str} {p : Pos} {e : Expr} {es : List Expr} {ta : CA} (F : FnOk X.prog X.w X.K X.mg X.base CX k f fd ps (spD g sd)) (hr : Room k X.A) (hg : Gl X x) (hm : X.mg x = some (.ref f)) (hk : PySem.W.keepIn X.K (.ref f) = true) (hb : Binds X.K fd ps [])
    (hx : ∀ σ, PassesAt CX X σ (WE xk σ)) (ha : PDA X g xk (e :: es) ta) (hdb : (x == ("__debug__" : Str)) = false := by decide) (he : starEach (e :: es) X.env = (false, eval e X.env) :: starEach es X.env := by rfl) (hpl : (backTo pos (starEach es X.env)).any (·.1) = false := by rfl) :
    PD X g xk (.Call (.Name x p) (e :: es) [] pos) (cCall sd ta) :=
  ⟨PE.imp (pe_callS F hr hg hm hk hb hx ha.pa hdb he hpl) fun σ H Q ⟨C, ρ, n, O, k, ke, hK, E, t, x, q⟩ => ⟨C, ρ, n, O, _, ke, hK, E, t, x, fun ds ρ1 n1 vs H1 O1 k1 E1 S1 i1 =>
    spD_use hK E1 x i1 k1 fun d n' v H' a b c i => q _ _ _ _ _ _ a b (S1.trans c) i⟩⟩
theorem pd_call0 {CX : CXT} {sd : SpD} {k : Nat} {f : Addr} {fd : FuncData} {ps : List Str} {x : Str} {p : Pos} (F : FnOk X.prog X.w X.K X.mg X.base CX k f fd ps (spD g sd)) (hr : Room k X.A) (hg : Gl X x) (hm : X.mg x = some (.ref f)) (hk : PySem.W.keepIn X.K (.ref f) = true) (hb : Binds X.K fd ps [])
    (hx : ∀ σ, PassesAt CX X σ (WE xk σ)) (hdb : (x == ("__debug__" : Str)) = false := by decide) : PD X g xk (.Call (.Name x p) [] [] pos) (cCall sd cNil) := by
  refine ⟨⟨fun pins s σ H Q I r => ?_⟩⟩
  obtain ⟨C, ρ, n, O, k, ke, hK, E, t, x, q⟩ := r
  refine wpAny_Call_Name_kw (ld_glob I hg hm ?_ hdb)
  exact PySem.W.callWith_K0 I.kIn hk (run_fnSD (us := []) (ds := []) (dvs := []) (vs := []) (E := WE xk) F hr hb .nil (hx σ) I .nil (spD_use hK E x .nil t fun d n' v H' a b c i => q _ _ _ _ _ _ a b c i))
end
section
variable {P : Program} {w : World} {K : PySem.W.Frag} {mg : Str → Option Value} {base : Heap} {g : Glob}
/-- a def that raises nothing -/
theorem fnD {x qual : Str} {st : Stmt} {f : Addr} {fd : FuncData} {N ps : List Str} {k : Nat} {sd : SpD} {cs : CS} (F : Fun K x qual st f fd) (S : FnScope N ps (defScope st)) (hl : ∀ ds n k ke, sd ds n k ke → ds.length = ps.length)
    (hbody : ∀ (cdv : Value) (A : Around) (outer : List Env) (s : Shared) (H : Hp) (E : XK), Room k (A.deeper (envOfC qual (defScope st) s.heap.objs.size f cdv)) → PDSs (cxOf CX0 P w K mg base N qual (defScope st) f cdv A outer s H E).nox g xF (defBody st) cs)
    (himp : ∀ ds n k ke, sd ds n k ke → cs (startE N ds) n ⟨fun _ n' => k .none n', k, fun _ _ => False, fun _ _ => False, kF⟩) : FnOk P w K mg base CX0 (k + 1) f fd ps (spD g sd) := by
  refine F.ok S (fun vs H Q E h => ?_) (fun cdv A outer s H vs Q E hr h => ?_)
  · obtain ⟨C, ds, n, k, ke, _, _, _, i, sdd, _, _⟩ := h
    rw [i.length]
    exact hl _ _ _ _ sdd
  · refine ⟨_, (hbody cdv A outer s H E hr).pss, ?_⟩
    obtain ⟨C, ds, n, k, ke, hK, e0, Ev0, i, sdd, q, _⟩ := h
    exact ⟨C, _, n, now, _, hK, ev_start Ev0 i, himp _ _ _ _ sdd, ⟨fun ρ n' σ' H' O' a E' S' => q _ _ _ _ a E'.fin .non, fun d n' v H' a F b => q _ _ _ _ a F b, fun _ _ _ _ _ h => h.elim, fun _ _ _ _ _ h => h.elim, xl_F⟩⟩
end
end RM
namespace RM
open PySem PySem.Spec PyProof.Rows L2 CS RZ
/-! ### operands that are looked at, not taken: names of own things, values -/
def peekD (ρ : En) (i : Nat) : Option D := match ρ[i]? with
  | some (some (Sl.v d)) => some d
  | some (some (Sl.own d)) => some d
  | _ => none
inductive Pk (T : Tab) (Hh H : Hp) : V → D → Prop
  | val {v : V} {d : D} : Is T Hh v d → Pk T Hh H v d
  | own {p : Addr} {d : D} : OwnAt T Hh H p d → Pk T Hh H (.ref p) d
inductive Opd where
  | nm (i : Nat)
  | ex (t : CE)
def cOpd (o : Opd) (ρ : En) (n : Nat) (k : (En → Option D) → En → Nat → Prop) (ke : KE) : Prop := match o with
  | .nm i => (peekD ρ i).isSome = true ∧ k (fun ρ => peekD ρ i) ρ n
  | .ex t => t ρ n (fun d ρ' n' => k (fun _ => some d) ρ' n') ke
def liftQ (g : Glob) (xk : WX) (o : Opd) : TE := fun σ H Q => ∃ (C : Ctx) (ρ : En) (n : Nat) (O : Ow) (k : (En → Option D) → En → Nat → Prop) (ke : KE), C.On g ∧ Ev C ρ n σ H O ∧ cOpd o ρ n k ke ∧ XL C xk ke ∧
  ∀ (get : En → Option D) (ρ' : En) (n' : Nat) (v : V) (H' : Hp) (O' : Ow), k get ρ' n' → Ev C ρ' n' σ H' O' → Same (hid C O H) (hid C O' H') →
    (∀ (ρ2 : En) (n2 : Nat) (H2 : Hp) (O2 : Ow) (d : D), Ev C ρ2 n2 σ H2 O2 → Same (hid C O' H') (hid C O2 H2) → get ρ2 = some d → Pk C.T (hid C O2 H2) H2 v d) → Q v H'
structure PDQ (X : Cx) (g : Glob) (xk : WX) (e : Expr) (o : Opd) : Prop where
  pe : PE X e (liftQ g xk o)
section
variable {X : Cx} {g : Glob} {xk : WX} {pos : Pos} {C : Ctx} {ρ : En} {n : Nat} {σ : L2.St} {H H' : Hp} {O : Ow}
theorem peek_at (E : Ev C ρ n σ H O) {i : Nat} {d : D} (h : peekD ρ i = some d) : ∃ v, σ[i]? = some (some v) ∧ Pk C.T (hid C O H) H v d := by
  unfold peekD at h
  split at h
  · rename_i e
    cases h
    obtain ⟨v, h1, h2⟩ := E.val i _ e
    exact ⟨v, h1, .val h2⟩
  · rename_i e
    cases h
    obtain ⟨p, _, h1, h2⟩ := E.own i _ e
    exact ⟨_, h1, .own h2⟩
  · cases h
theorem Pk.is {T : Tab} {Hh H : Hp} {v : V} {d : D} (s : Same Hh H) (h : Pk T Hh H v d) : Is T H v d := by
  cases h with
  | val h => exact h.same s
  | own h =>
    cases h with
    | lst h r => exact .lst h (r.same s)
    | dk h r => exact .dk (.inl h) (r.same s)
    | dt h r => exact .dt (.inl h) (r.same s)
    | obj h h2 r => exact .obj h (s _ _ h2) (r.same s)
def scalD : D → Bool
  | .none => true
  | .bool _ => true
  | .int _ => true
  | .str _ => true
  | _ => false
theorem pdq_nm (i : Nat) {x : Str} (hN : X.N[i]? = some x := by rfl) (hv : Vis X.env.scope x := by first | exact Or.inl rfl | exact Or.inr (Or.inl rfl) | exact Or.inr (Or.inr rfl)) (hd : (x == ("__debug__" : Str)) = false := by decide)
    (hcd : (x == ("__classdict__" : Str)) = false := by decide) : PDQ X g xk (.Name x pos) (.nm i) := by
  refine ⟨PE.imp (pe_var hN hv hd hcd) fun σ H Q r => ?_⟩
  obtain ⟨C, ρ, n, O, k, ke, hK, E, t, x, q⟩ := r
  obtain ⟨d, hd⟩ := Option.isSome_iff_exists.mp t.1
  obtain ⟨v, h1, h2⟩ := peek_at E hd
  refine ⟨v, h1, q _ _ _ _ _ _ t.2 E (Same.refl _) fun ρ2 n2 H2 O2 d2 E2 S2 hd2 => ?_⟩
  obtain ⟨v2, h3, h4⟩ := peek_at E2 hd2
  rw [h1] at h3
  cases h3
  exact h4
/-! scalar results -/
def cCBQ (u : List D → D → Prop) (o : Opd) : CE := fun ρ n k ke => cOpd o ρ n (fun get ρ1 n1 => ∃ x z, get ρ1 = some x ∧ u [x] z ∧ scalD z = true ∧ k z ρ1 n1) ke
/-! a member -/
def cIxQ (o : Opd) (tb : CE) : CE := fun ρ n k ke => cOpd o ρ n (fun get ρ1 n1 => tb ρ1 n1 (fun y ρ2 n2 => ∃ x z, get ρ2 = some x ∧ atD x y = some z ∧ k z ρ2 n2) ke) ke
theorem pd_ixQ {a b : Expr} {o : Opd} {tb : CE} (G : Good X g) (ha : PDQ X g xk a o) (hb : PD X g xk b tb) (hs : PlainIx b) : PD X g xk (.Subscript a b pos) (cIxQ o tb) := by
  refine ⟨PE.imp (pe_ix ix_seq ha.pe hb.pe hs) fun σ H Q h => ?_⟩
  obtain ⟨C, ρ, n, O, k, ke, hK, E, t, x, q⟩ := h
  refine ⟨C, ρ, n, O, _, ke, hK, E, t, x, fun get ρ1 n1 v H1 O1 k1 E1 S1 p1 => ⟨C, ρ1, n1, O1, _, ke, hK, E1, k1, x, fun d2 ρ2 n2 v2 H2 O2 k2 E2 S2 i2 => ?_⟩⟩
  obtain ⟨x0, z, h1, hz, k2⟩ := k2
  have pk := p1 _ _ _ _ _ E2 S2 h1
  have fin : ∀ u, Is C.T (hid C O2 H2) u z → Q u H2 := fun u iu => q _ _ _ _ _ _ k2 E2 (S1.trans S2) iu
  unfold atD at hz
  split at hz
  · rename_i ds0 i0
    rw [i2.int']
    have : ∃ a xs, v = .ref a ∧ H2 a = some (.lst xs) ∧ IsL C.T (hid C O2 H2) xs ds0 := by
      cases pk with
      | val h => obtain ⟨a, xs, e, h, r⟩ := h.list'; exact ⟨a, xs, e, hid_le _ _ h, r⟩
      | own h => cases h with | lst h r => exact ⟨_, _, rfl, h, r⟩
    obtain ⟨a, xs, rfl, ha, r⟩ := this
    obtain ⟨u, h3, h4⟩ := atI_is r hz
    exact .inl ⟨a, xs, _, u, rfl, rfl, SqL.of ha, h3, fin u h4⟩
  · rw [i2.int']
    cases pk with
    | val h =>
      obtain ⟨a, xs, rfl, ha, r⟩ := h.tup'
      obtain ⟨u, h3, h4⟩ := atI_is r hz
      exact .inr (.inl ⟨a, xs, _, u, rfl, rfl, (hK.1.trans G.K) ▸ sqt_same hid_le ha, h3, fin u h4⟩)
    | own h => cases h
  · rw [i2.int']
    cases pk with
    | own h => cases h
    | val h =>
      rw [h.str']
      split at hz
      · rename_i z0 i c
        cases h' : atI z0.cps.toList i with
        | none =>
          rw [h'] at hz
          cases hz
        | some c' =>
          rw [h'] at hz
          cases hz
          exact .inr (.inr ⟨_, _, c', rfl, rfl, lim_le c, h', fin _ (.str _)⟩)
      · cases hz
  · cases hz
/-! the truth of a list, a tuple, a text -/
def truD : D → Option Bool
  | .bool b => some b
  | .int i => some (i != 0)
  | .str z => some (z.length != 0)
  | .list ds => some (!ds.isEmpty)
  | .tuple ds => some (!ds.isEmpty)
  | .none => some false
  | _ => none
/-! own lists change -/
def cApp (i : Nat) (tb : CE) : CE := fun ρ n k ke => (∃ xs, ρ[i]? = some (some (Sl.own (.list xs)))) ∧ tb ρ n (fun y ρ1 n1 => ∃ xs, ρ1[i]? = some (some (Sl.own (.list xs))) ∧ xs.length < lim ∧ k .none (ρ1.set i (some (Sl.own (.list (xs ++ [y]))))) n1) ke
theorem own_list (E : Ev C ρ n σ H O) {i : Nat} {xs : List D} (h : ρ[i]? = some (some (Sl.own (.list xs)))) : ∃ p us, O i = some p ∧ σ[i]? = some (some (.ref p)) ∧ H p = some (.lst us) ∧ IsL C.T (hid C O H) us xs := by
  obtain ⟨p, h1, h2, h3⟩ := E.own i _ h
  cases h3 with
  | lst h3 r => exact ⟨p, _, h1, h2, h3, r⟩
theorem pd_append (i : Nat) {x : Str} {a : Expr} {tb : CE} {p1 apos : Pos} (ha : PD X g xk a tb) (hN : X.N[i]? = some x := by rfl) (hv : Vis X.env.scope x := by first | exact Or.inl rfl | exact Or.inr (Or.inl rfl) | exact Or.inr (Or.inr rfl)) (hd : (x == ("__debug__" : Str)) = false := by decide)
    (hcd : (x == ("__classdict__" : Str)) = false := by decide) (hbase : attributeBase (.Name x p1) "append" X.env (eval (.Name x p1) X.env) = eval (.Name x p1) X.env := by rfl)
    (hfew : ((backTo pos (starEach [a] X.env)).all (fun x => !x.1) && (backToKw pos (keywordEach [] X.env)).all (fun x => x.1.isSome)
      && decide (([a] : List Expr).length + ([] : List Keyword).length + (if ([] : List Keyword).isEmpty then 0 else 1) < 30)) = true := by rfl)
    (hline : (apos.endLine == pos.line) = true := by rfl) (hs : starEach [a] X.env = (false, eval a X.env) :: starEach [] X.env := by rfl) (hplain : (backTo pos (starEach [] X.env)).any (·.1) = false := by rfl) :
    PD X g xk (.Call (.Attribute (.Name x p1) "append" apos) [a] [] pos) (cApp i tb) := by
  refine ⟨PE.imp (pe_bm PySem.F.plainAttrs_list PySem.F.slot_list_append PySem.F.type_list_append mt_append (pe_var (i := i) hN hv hd hcd) (pa_cons ha.pe pa_nil hs) hbase hfew hline hs hplain) fun σ H Q h => ?_⟩
  obtain ⟨C, ρ, n, O, k, ke, hK, E, ⟨⟨xs, e0⟩, t⟩, x, q⟩ := h
  obtain ⟨p, us, g1, g2, g3, g4⟩ := own_list E e0
  refine ⟨.ref p, g2, .inl ⟨rfl, us, SqL.of g3⟩, C, ρ, n, O, _, ke, hK, E, t, x, fun d ρ1 n1 v H1 O1 k1 E1 S1 i1 => ?_⟩
  obtain ⟨ys, e1, hl, k1⟩ := k1
  obtain ⟨p', us', w1, w2, w3, w4⟩ := own_list E1 e1
  rw [g2] at w2
  cases w2
  obtain ⟨E2, S2⟩ := E1.chg (d := .list (ys ++ [d])) (o := .lst (us' ++ [v])) (lt_of_get e1) w1 (.lst upd_same (w4.append (.cons i1 .nil)))
  exact ⟨p, us', v, rfl, rfl, w3, by rw [w4.length]; exact lim_lt hl, q _ _ _ _ _ _ k1 E2 (S1.trans S2) .non⟩
end
end RM
namespace RM
open PySem PySem.Spec PyProof.Rows L2 CS RZ
section
variable {X : Cx} {g : Glob} {xk : WX} {pos : Pos} {C : Ctx} {ρ : En} {n : Nat} {σ : L2.St} {H H' : Hp} {O : Ow}
/-! ### truth -/
theorem tru_pk {v : V} {d : D} {b : Bool} (hK : C.T.K = X.K) (h : Pk C.T (hid C O H) H v d) (e : truD d = some b) (hl : ∀ z, d = .str z → z.length ≤ lim) : TruV X.K v H b := by
  cases h with
  | own h =>
    cases h with
    | lst h r =>
      cases e
      refine .inl ⟨_, SqL.of h, ?_⟩
      have := r.length
      rename_i xs ds
      cases xs <;> cases ds <;> first | rfl | (simp at this)
    | _ => cases e
  | val h =>
    cases h with
    | non => cases e; rfl
    | bl b => cases e; rfl
    | int i => cases e; rfl
    | str z =>
      cases e
      refine ⟨lim_le (hl z rfl), ?_⟩
      show (z.length != 0) = ((z.length : Int) != 0)
      rw [Bool.eq_iff_iff, bne_iff_ne, bne_iff_ne]
      omega
    | lst h r =>
      cases e
      refine .inl ⟨_, SqL.of (hid_le _ _ h), ?_⟩
      have := r.length
      rename_i xs ds
      cases xs <;> cases ds <;> first | rfl | (simp at this)
    | tup h r =>
      cases e
      refine .inr (.inl ⟨_, hK ▸ sqt_same hid_le h, ?_⟩)
      have := r.length
      rename_i xs ds
      cases xs <;> cases ds <;> first | rfl | (simp at this)
    | _ => cases e
def strOkD (d : D) : Bool := match d with
  | .str z => decide (z.length ≤ lim)
  | _ => true
def cTru (o : Opd) : CT := fun ρ n k ke => cOpd o ρ n (fun get ρ1 n1 => ∃ x b, get ρ1 = some x ∧ truD x = some b ∧ strOkD x = true ∧ k b ρ1 n1) ke
theorem pdt_tru {e : Expr} {o : Opd} (G : Good X g) (h : PDQ X g xk e o) (he : ∀ whole, isTrue e X.env whole = (do let v ← whole; standAt e.pos; holding [v] (truthy v)) := by intro _; rfl) : PDT X g xk e (cTru o) := by
  refine ⟨PT.imp (pt_truth h.pe he) fun σ H Q r => ?_⟩
  obtain ⟨C, ρ, n, O, k, ke, hK, E, t, x, q⟩ := r
  refine ⟨C, ρ, n, O, _, ke, hK, E, t, x, fun get ρ1 n1 v H1 O1 k1 E1 S1 p1 => ?_⟩
  obtain ⟨x0, b, h1, h2, h3, k1⟩ := k1
  refine ⟨b, tru_pk (hK.1.trans G.K) (p1 _ _ _ _ _ E1 (Same.refl _) h1) h2 fun z hz => ?_, q _ _ _ _ _ k1 E1 S1⟩
  subst hz
  exact of_decide_eq_true h3
/-! ### own lists change -/
theorem name_at (E : Ev C ρ n σ H O) {ρ1 : En} {n1 : Nat} {H1 : Hp} {O1 : Ow} (E1 : Ev C ρ1 n1 σ H1 O1) {i : Nat} {p : Addr} {ys : List D} (h : σ[i]? = some (some (.ref p))) (e : ρ1[i]? = some (some (Sl.own (.list ys)))) : ∃ us, O1 i = some p ∧ H1 p = some (.lst us) ∧ IsL C.T (hid C O1 H1) us ys := by
  obtain ⟨p', us', w1, w2, w3, w4⟩ := own_list E1 e
  rw [h] at w2
  cases w2
  exact ⟨us', w1, w3, w4⟩
def ownL (ρ : En) (i : Nat) (xs : List D) : Prop := ρ[i]? = some (some (Sl.own (.list xs)))
def cMut (i : Nat) (ta : CA) (u : List D → List D → Option (D × List D)) : CE := fun ρ n k ke => (∃ xs, ownL ρ i xs) ∧ ta ρ n (fun ds ρ1 n1 => ∃ xs r ys, ownL ρ1 i xs ∧ xs.length < lim ∧ u xs ds = some (r, ys) ∧ k r (ρ1.set i (some (Sl.own (.list ys)))) n1) ke
def uIns (xs ds : List D) : Option (D × List D) := match ds with
  | [.int i, d] => if 0 ≤ i ∧ i < 2 ^ 63 then some (.none, xs.take i.toNat ++ [d] ++ xs.drop i.toNat) else none
  | _ => none
/-- x[e] = v -/
def setI (xs : List D) (i : Int) (d : D) : Option (List D) := (ixN xs.length i).map fun j => xs.set j d
def cSetIx (i : Nat) (ti tv : CE) : CS := fun ρ n e => tv ρ n (fun d ρ1 n1 => (∃ xs, ownL ρ1 i xs) ∧ ti ρ1 n1 (fun y ρ2 n2 => ∃ xs j ys, ownL ρ2 i xs ∧ y = .int j ∧ setI xs j d = some ys ∧ e.nx (ρ2.set i (some (Sl.own (.list ys)))) n2) e.xc) e.xc
theorem pds_setIx (i : Nat) {x : Str} {a v : Expr} {ti tv : CE} {p1 p2 : Pos} (hi : PD X g xk a ti) (he : PD X g xk v tv) (hN : X.N[i]? = some x := by rfl) (hv : Vis X.env.scope x := by first | exact Or.inl rfl | exact Or.inr (Or.inl rfl) | exact Or.inr (Or.inr rfl)) (hd : (x == ("__debug__" : Str)) = false := by decide)
    (hcd : (x == ("__classdict__" : Str)) = false := by decide)
    (ha : ∀ v, assign (.Subscript (.Name x p1) a p2) X.env v = (do
      let ov ← holding [v] (eval (.Name x p1) X.env)
      let iv ← holding [v, ov] (eval a X.env)
      standAt p2
      holding [v, ov, iv] (setItem ov iv v)
      release [v, ov, iv] []) := by intro _; rfl)
    (hs : swapsWithSole [.Subscript (.Name x p1) a p2] v pos.line X.env = pure false := by rfl) (hw : swappedStores [.Subscript (.Name x p1) a p2] v X.env = pure none := by rfl)
    (h1 : (assignEach [.Subscript (.Name x p1) a p2] X.env).map (·.2) = [assign (.Subscript (.Name x p1) a p2) X.env] := by rfl) :
    PDS X g xk (.Assign [.Subscript (.Name x p1) a p2] v pos) (cSetIx i ti tv) := by
  refine ⟨ps_imp (ps_asg he.pe (pg_sub (pe_var (i := i) hN hv hd hcd) hi.pe set_list ha) hs hw h1) fun F σ H h => ?_⟩
  obtain ⟨C, ρ, n, O, e, hK, E, t, l⟩ := h
  refine ⟨C, ρ, n, O, _, _, hK, E, t, l.xc, fun d ρ1 n1 v H1 O1 k1 E1 S1 i1 => ?_⟩
  obtain ⟨⟨xs0, e0⟩, k1⟩ := k1
  obtain ⟨p, us0, g1, g2, g3, g4⟩ := own_list E1 e0
  refine ⟨.ref p, g2, C, ρ1, n1, O1, _, _, hK, E1, k1, l.xc, fun y ρ2 n2 v2 H2 O2 k2 E2 S2 i2 => ?_⟩
  obtain ⟨xs, j, ys, e2, rfl, hu, k2⟩ := k2
  obtain ⟨us, w1, w3, w4⟩ := name_at E1 E2 g2 e2
  unfold setI at hu
  cases hj : ixN xs.length j with
  | none => rw [hj] at hu; cases hu
  | some m =>
    rw [hj] at hu
    cases hu
    rw [i2.int']
    refine ⟨p, us, j, m, rfl, rfl, w3, by rw [w4.length]; exact hj, ?_⟩
    obtain ⟨E3, S3⟩ := E2.chg (d := .list (xs.set m d)) (o := .lst (us.set m v)) (lt_of_get e2) w1 (.lst upd_same (IsL.set (i1.same S2) m w4))
    exact l.nx _ _ _ _ _ k2 E3 ((S1.trans S2).trans S3)
end
end RM
namespace RM
open PySem PySem.Spec PyProof.Rows L2 CS RZ
/-! ### dicts -/
inductive KeyAt (Hh : Hp) : V → D → Prop
  | k (k : L2.Key) : KeyAt Hh (kV k) (kD k)
  | t {b : Addr} {ks : List L2.Key} : Hh b = some (.tup (ks.map kV)) → KeyAt Hh (.ref b) (.tuple (ks.map kD))
theorem KeyAt.same {H H' : Hp} {v : V} {d : D} (h : KeyAt H v d) (s : Same H H') : KeyAt H' v d := by
  cases h with
  | k k => exact .k k
  | t h => exact .t (s _ _ h)
end RM
namespace RM
open PySem PySem.Spec PyProof.Rows L2 CS RZ
/-! ### objects -/
def fieldD (fs : List (D × D)) (f : Str) : Option D := (fs.find? fun kv => PyData.eqv kv.1 (.str f)).map (·.2)
section
variable {X : Cx} {g : Glob} {xk : WX} {pos : Pos} {C : Ctx} {ρ : En} {n : Nat} {σ : L2.St} {H H' : Hp} {O : Ow}
/-- o.f, a property: what its def tells -/
def cProp (sd : SpD) (ta : CE) (c : Nat) : CE := fun ρ n k ke => ta ρ n (fun d ρ1 n1 => (∃ fs, d = obj c fs) ∧ sd [d] n1 (fun z n2 => k z ρ1 n2) (fun _ _ => False)) ke
/-- o.m(..) -/
def cMeth (sd : SpD) (to : CE) (ta : CA) (c : Nat) (m : Str) : CE := fun ρ n k ke => to ρ n (fun d ρ1 n1 => (∃ fs, d = obj c fs ∧ fieldD fs m = none) ∧ ta ρ1 n1 (fun ds ρ2 n2 => sd (d :: ds) n2 (fun z n3 => k z ρ2 n3) (fun y n3 => ke y ρ2 n3)) ke) ke
/-! ### a new object -/
abbrev SpI := List D → Nat → (List (D × D) → Nat → Prop) → (Xv → Nat → Prop) → Prop
def cMake (c : Nat) (sd : SpI) (ta : CA) : CE := fun ρ n k ke => ta ρ n (fun ds ρ1 n1 => sd ds n1 (fun fs n2 => k (obj c fs) ρ1 n2) (fun y n2 => ke y ρ1 n2)) ke
end
end RM
namespace L2
open PySem PySem.Spec PyProof.Rows CS
end L2
namespace RM
open PySem PySem.Spec PyProof.Rows L2 CS RZ
/-! ### __init__ -/
/-! ### own errors -/
def errF (fs : List Str) (ds : List D) : List (D × D) := ((fs.zip ds).map fun p => (.str p.1, p.2)).reverse
end RM
namespace RM
open PySem PySem.Spec PyProof.Rows L2 CS RZ
/-! ### try: .. except C as n: .. -/
end RM
namespace RM
open PySem PySem.Spec PyProof.Rows L2 CS RZ
/-! ### operators of own classes -/
section
variable {X : Cx} {g : Glob} {xk : WX} {pos : Pos}
/-! o[e] -/
def cSubO (sd : SpD) (ta tb : CE) (c : Nat) : CE := fun ρ n k ke => ta ρ n (fun x ρ1 n1 => tb ρ1 n1 (fun y ρ2 n2 => (∃ fs, x = obj c fs) ∧ sd [x, y] n2 (fun z n3 => k z ρ2 n3) (fun w n3 => ke w ρ2 n3)) ke) ke
/-! e in o, e not in o -/
/-! a == b of one own class -/
end
end RM
namespace L2
open PySem PySem.Spec PyProof.Rows
/-! ### {k: v for ..} whose keys may be tuples -/
end L2
namespace RM
open PySem PySem.Spec PyProof.Rows L2 CS RZ
/-! ### dict comprehensions -/
section
variable {X : Cx} {g : Glob} {xk : WX} {pos : Pos}
/-! ### stars, and, or, not, minus -/
def cNeg (ta : CE) : CE := fun ρ n k ke => ta ρ n (fun d ρ1 n1 => ∃ i, d = .int i ∧ k (.int (-i)) ρ1 n1) ke
variable {a b : Expr} {rest : List Expr} {ta tb : CE} {ca cb : CT}
theorem pd_neg (ha : PD X g xk a ta) : PD X g xk (.UnaryOp .USub a pos) (cNeg ta) := by
  refine ⟨PE.imp (pe_un un_neg ha.pe) fun σ H Q r => ?_⟩
  obtain ⟨C, ρ, n, O, k, ke, hK, E, t, x, q⟩ := r
  refine ⟨C, ρ, n, O, _, ke, hK, E, t, x, fun d ρ1 n1 v H1 O1 k1 E1 S1 i1 => ?_⟩
  obtain ⟨i, rfl, k1⟩ := k1
  exact ⟨i, i1.int', q _ _ _ _ _ _ k1 E1 S1 (.int _)⟩
/-! tests of and, or -/
structure PDW (X : Cx) (g : Glob) (xk : WX) (e : Expr) (td : CT) : Prop where
  pw : PW X e (liftT g xk td)
theorem pw_imp {e : Expr} {t t' : TT} (h : PW X e t) (q : ∀ σ H Q, t' σ H Q → t σ H Q) : PW X e t' := ⟨fun wh pins s σ H Q I r => h.run wh pins s σ H Q I (q _ _ _ r)⟩
def cAndT (ta tb : CT) : CT := fun ρ n k ke => ta ρ n (fun b ρ1 n1 => if b = true then tb ρ1 n1 k ke else k false ρ1 n1) ke
theorem pdw_and1 (h : PDT X g xk a ca) : PDW X g xk (.BoolOp .And [a] pos) ca := ⟨pw_and1 h.pt⟩
theorem pdw_and (ha : PDT X g xk a ca) (hb : PDW X g xk (.BoolOp .And (b :: rest) pos) cb) : PDW X g xk (.BoolOp .And (a :: b :: rest) pos) (cAndT ca cb) := by
  refine ⟨pw_imp (pw_and ha.pt hb.pw) fun σ H Q r => ?_⟩
  obtain ⟨C, ρ, n, O, k, ke, hK, E, t, x, q⟩ := r
  refine ⟨C, ρ, n, O, _, ke, hK, E, t, x, fun b ρ1 n1 H1 O1 k1 E1 S1 => ?_⟩
  cases b with
  | true => exact ⟨C, ρ1, n1, O1, k, ke, hK, E1, k1, x, fun d ρ2 n2 H2 O2 k2 E2 S2 => q _ _ _ _ _ k2 E2 (S1.trans S2)⟩
  | false => exact q _ _ _ _ _ k1 E1 S1
theorem PDW.pdt {e : Expr} (h : PDW X g xk e ca) : PDT X g xk e ca := ⟨h.pw.pt⟩
end
end RM
namespace RM
open PySem PySem.Spec PyProof.Rows L2 CS RZ
/-! ### short words for what is generated -/
theorem hu1 {k : Nat} {A : Around} (r : Room k A) : A.units + 1 < cLine := by have := r.un; omega
theorem hu64 {k : Nat} {A : Around} (r : Room k A) : A.units + 64 < cLine := by have := r.un; omega
/-- the built-in names are what they are -/
structure Bl (mg : Str → Option Value) : Prop where
  len : mg "len" = none
  sum : mg "sum" = none
  all : mg "all" = none
  any : mg "any" = none
  min : mg "min" = none
  max : mg "max" = none
  sorted : mg "sorted" = none
  tuple : mg "tuple" = none
  list : mg "list" = none
  set : mg "set" = none
  dict : mg "dict" = none
  range : mg "range" = none
  zip : mg "zip" = none
  enumerate : mg "enumerate" = none
  isinstance : mg "isinstance" = none
  abs : mg "abs" = none
  int : mg "int" = none
  str : mg "str" = none
  repr : mg "repr" = none
  bool : mg "bool" = none
  ValueError : mg "ValueError" = none
  LookupError : mg "LookupError" = none
/-- a def of the module, by its name, and what it keeps -/
structure HasF (P : Program) (w : World) (K : PySem.W.Frag) (mg : Str → Option Value) (base : Heap) (CX : CXT) (g : Glob) (k : Nat) (x : Str) (ps : List Str) (sd : SpD) : Prop where
  ex : ∃ f fd, FnOk P w K mg base CX k f fd ps (spD g sd) ∧ Binds K fd ps [] ∧ PySem.W.keepIn K (.ref f) = true ∧ mg x = some (.ref f)
section
variable {P : Program} {w : World} {K : PySem.W.Frag} {mg : Str → Option Value} {base : Heap} {X : Cx} {g : Glob} {xk : WX} {pos : Pos} {CX : CXT} {k j : Nat} {x : Str} {ps : List Str} {sd : SpD}
theorem HasF.up (h : HasF P w K mg base CX g j x ps sd) (l : j ≤ k) : HasF P w K mg base CX g k x ps sd := let ⟨f, fd, a, b⟩ := h.ex; ⟨f, fd, a.mono l, b⟩
theorem pd_fun {p : Pos} {e : Expr} {es : List Expr} {ta : CA} (h : HasF X.prog X.w X.K X.mg X.base CX g j x ps sd) (hr : Room k X.A) (l : j ≤ k) (hg : Gl X x) (hx : ∀ σ, PassesAt CX X σ (WE xk σ)) (ha : PDA X g xk (e :: es) ta)
    (hdb : (x == ("__debug__" : Str)) = false := by decide) (he : starEach (e :: es) X.env = (false, eval e X.env) :: starEach es X.env := by rfl) (hpl : (backTo pos (starEach es X.env)).any (·.1) = false := by rfl) : PD X g xk (.Call (.Name x p) (e :: es) [] pos) (cCall sd ta) := by
  obtain ⟨f, fd, a, b, c, d⟩ := h.ex
  exact pd_call a (hr.mono l) hg d c b hx ha hdb he hpl
theorem pd_fun0 {p : Pos} (h : HasF X.prog X.w X.K X.mg X.base CX g j x ps sd) (hr : Room k X.A) (l : j ≤ k) (hg : Gl X x) (hx : ∀ σ, PassesAt CX X σ (WE xk σ)) (hdb : (x == ("__debug__" : Str)) = false := by decide) : PD X g xk (.Call (.Name x p) [] [] pos) (cCall sd cNil) := by
  obtain ⟨f, fd, a, b, c, d⟩ := h.ex
  exact pd_call0 a (hr.mono l) hg d c b hx hdb
end
end RM
namespace RM
open PySem PySem.Spec PyProof.Rows L2 CS RZ
/-! ### sorted of a dict whose keys are tuples -/
end RM
namespace RM
open PySem PySem.Spec PyProof.Rows L2 CS RZ
section
variable {X : Cx} {g : Glob} {xk : WX} {pos : Pos}
/-! sorted of a dict with keys of text -/
theorem isL_strs {T : Tab} {H : Hp} : ∀ ss : List Str, IsL T H (ss.map V.str) (ss.map PyData.str)
  | [] => .nil
  | s :: ss => .cons (.str s) (isL_strs ss)
/-! ### a, b = x, y -/
def cPar (i j : Nat) (ta : CA) : CS := fun ρ n e => ta ρ n (fun ds ρ' n' => ∃ x y, ds = [x, y] ∧ e.nx ((ρ'.set i (some (Sl.v x))).set j (some (Sl.v y))) n') e.xc
/-! ### list of a text -/
def charsD (z : Str) : List D := z.cps.toList.map fun c => .str ⟨#[c]⟩
def gListS (ds : List D) (z : List D) : Prop := ∃ s, ds = [.str s] ∧ s.length ≤ lim ∧ z = charsD s
end
end RM
namespace RM
open PySem PySem.Spec PyProof.Rows L2 CS RZ
section
variable {X : Cx}
def signs (z : Str) : List Str := z.cps.toList.map fun c => ⟨#[c]⟩
theorem vals_signs : ∀ (l : List Nat) (us : List Value), us.length = l.length → (∀ (j : Nat) (u : Value), us[j]? = some u → ∃ (c : Nat) (t : Tok), l[j]? = some c ∧ u = Value.str ⟨#[c]⟩ t) → Vals (l.map fun c => V.str ⟨#[c]⟩) us
  | [], [], _, _ => .nil
  | [], _ :: _, h, _ => by cases h
  | _ :: _, [], h, _ => by cases h
  | c :: l, u :: us, h, q => by
    obtain ⟨c', t, e1, e2⟩ := q 0 u rfl
    cases e1
    refine .cons ⟨t, e2⟩ (vals_signs l us (Nat.succ.inj h) fun j v e => q (j + 1) v e)
theorem call_list_txt (hc : X.calm = true) : CallR X (.type "list") (fun xs H Q => ∃ z : Str, xs = [.str z] ∧ z.cps.size ≤ lim ∧ ∀ l, H l = none → Q (.ref l) (upd H l (.lst ((signs z).map V.str)))) := by
  intro pins s σ H xs us Q I r h
  obtain ⟨z, rfl, hz, q⟩ := h
  obtain ⟨u, rfl, rx⟩ := vals1 r
  obtain ⟨t, rfl⟩ := rx
  have hfit : z.cps.size ≤ sizeLine := lim_le hz
  refine call_list_str (I.ok.hd hc) z t (fun h' tk acc c' hk hS it => ?_) hfit
  have rv : Vals ((signs z).map V.str) acc.toList := by
    unfold signs
    rw [List.map_map]
    refine vals_signs z.cps.toList acc.toList (by rw [Array.length_toList, Array.length_toList]; exact it.1) fun j u e => ?_
    rw [Array.getElem?_toList] at e
    obtain ⟨c, u', e1, e2⟩ := it.2 j u e
    exact ⟨c, u', by rw [Array.getElem?_toList]; exact e1, e2⟩
  refine ⟨.ref s.heap.objs.size, _, I.laid (t' := tk) hk (Nat.le_refl _) (show ObjOk X.prog X.w _ h' _ (.lst _) from ⟨?_, acc.toList, c', rv, ?_⟩), rfl, q _ (I.hok.fresh (Nat.le_refl _))⟩
  · unfold signs
    rw [List.length_map, List.length_map, Array.length_toList]
    exact hfit
  · simpa using hS
theorem cf_listS (hc : X.calm = true) : CallF X (.type "list") gListS := by
  refine ⟨_, call_list_txt hc, fun T Hh H vs ds z Q hK s il hg q => ?_⟩
  obtain ⟨z, rfl, hl, rfl⟩ := hg
  obtain ⟨v, rfl, iv⟩ := il.one
  rw [iv.str']
  refine ⟨z, rfl, hl, q _ ?_⟩
  have : charsD z = (signs z).map PyData.str := by
    unfold charsD signs
    rw [List.map_map]
    rfl
  rw [this]
  exact isL_strs _
def gList' (ds : List D) (z : List D) : Prop := gList ds z ∨ gListS ds z
theorem cf_list' (hc : X.calm = true) : CallF X (.type "list") gList' := cf_list.or (cf_listS hc)
end
/-! ### draws -/
def sdTake : SpD := fun ds n k _ => ∃ m : Int, ds = [boxD, .int m] ∧ n ≤ 900000 ∧ 0 < m ∧ m < 2 ^ 200 ∧ ∀ r : Int, 0 ≤ r → r < m → k (.int r) (n + 1)
theorem Is.box' {T : Tab} {H : Hp} {v : V} (h : Is T H v boxD) : ∃ a, v = .ref a ∧ T.bx = some a := by
  unfold boxD at h
  cases h with
  | box h => exact ⟨_, rfl, h⟩
theorem take_imp {g : Glob} {vs : List V} {H : Hp} {Q : VK} {E : XK} (h : spD g sdTake vs H Q E) :
    ∃ (b : Addr) (n : Nat) (m : Int), vs = [.ref b, .int m] ∧ BoxAt H b n ∧ n ≤ 1000000 ∧ 0 < m ∧ m < 2 ^ 200 ∧ ∀ (H' : Hp) (r : Int), (∀ c o, c ≠ b → H c = some o → H' c = some o) → BoxAt H' b (n + 1) → 0 ≤ r → r < m → Q (.int r) H' := by
  obtain ⟨C, ds, n, k, ke, hK, e0, E0, i, ⟨m, rfl, hn, hm, hm2, s⟩, q, _⟩ := h
  obtain ⟨v, u, rfl, iv, iu⟩ := i.two
  obtain ⟨b, rfl, hb⟩ := iv.box'
  rw [iu.int']
  refine ⟨b, n, m, rfl, (E0.box b hb).2, by omega, hm, hm2, fun H' r kp bx h0 h1 => q _ _ _ _ (s r h0 h1) ⟨fun a o h nb => kp a o (fun z => nb (z ▸ hb)) (e0 ▸ h), fun b' hb' => ?_⟩ (.int r)⟩
  rw [hb] at hb'
  cases hb'
  exact bx
/-- one of some things -/
def sdOf : SpD := fun ds n k _ => ∃ (x : D) (l : List D), ds = [boxD, x] ∧ seqD x = some l ∧ n ≤ 900000 ∧ 0 < l.length ∧ l.length < 1000000 ∧ ∀ d ∈ l, k d (n + 1)
def cs_of : CS := cRet (cOp atD (cVar 1) (cCall sdTake (cCons (cVar 0) (cCons (cCB gLen (cCons (cVar 1) (cNil))) (cNil)))))
theorem atD_seq {x : D} {l : List D} {i : Int} (h : seqD x = some l) : atD x (.int i) = atI l i := by
  unfold seqD at h
  split at h <;> cases h <;> rfl
theorem lenD_seq {x : D} {l : List D} (h : seqD x = some l) : lenD x = some l.length := by
  unfold seqD at h
  split at h <;> cases h <;> rfl
theorem atI_in {α : Type} {l : List α} {i : Int} (h0 : 0 ≤ i) (h1 : i < l.length) : ∃ d ∈ l, atI l i = some d := by
  have hj : i.toNat < l.length := by omega
  refine ⟨l[i.toNat], List.getElem_mem hj, ?_⟩
  have := atI_nat (xs := l) (j := i.toNat) (List.getElem?_eq_getElem hj)
  rwa [Int.toNat_of_nonneg h0] at this
abbrev n_of : List Str := ["_law_box_here", "_law_some"]
theorem himp_of {e : EndsD} (ds : List D) (n : Nat) (k : D → Nat → Prop) (ke : Xv → Nat → Prop) (h : sdOf ds n k ke) (he : e.rt = k) : cs_of (startE n_of ds) n e := by
  obtain ⟨x, l, rfl, hs, hn, h0, h1, q⟩ := h
  refine ⟨_, ⟨x, l.length, rfl, lenD_seq hs, rfl⟩, (l.length : Int), rfl, hn, by omega, by omega, fun r r0 r1 => ?_⟩
  obtain ⟨d, hd, e1⟩ := atI_in r0 r1
  exact ⟨d, (atD_seq hs).trans e1, he ▸ q d hd⟩
end RM
namespace RM
open PySem PySem.Spec PyProof.Rows L2 CS RZ
/-! ### drawn places -/
def strD (ss : List Str) : List D := ss.map PyData.str
def pool0 : List Str := ["a", "b", "c", "d", "e", "f", "g", "h"]
def pool1 : List Str := ["a", "ab", "abc", "b", "ba", "z", "zzzzzzzz", "y"]
def pool2 : List Str := ["hall", "hal", "desk", "shop", "yard", "gate", "inn", "ford"]
def tagPool : List Str := pool0 ++ pool1 ++ pool2
def sdTags : SpD := fun ds n k _ => ∃ m : Int, ds = [boxD, .int m] ∧ n ≤ 700000 ∧ 0 ≤ m ∧ m ≤ 8 ∧ ∀ (ss : List Str) (n' : Nat), ss.length = m.toNat → ss.Nodup → (∀ s ∈ ss, s ∈ tagPool) → n' ≤ n + 1001 → k (.list (strD ss)) n'
theorem eqD_int (i j : Int) : eqD (.int i) (.int j) = some (.bool (i == j)) := rfl
end RM
namespace RM
open PySem PySem.Spec PyProof.Rows L2 CS RZ
/-! ### drawn steps -/
def triD (t : Str × Str × Int) : D := .tuple [.str t.1, .str t.2.1, .int t.2.2]
def trisD (l : List (Str × Str × Int)) : List D := l.map triD
def sdStrewn : SpD := fun ds n k _ => ∃ (ss : List Str) (most high : Int), ds = [boxD, .list (strD ss), .int most, .int high] ∧ ss.Nodup ∧ 2 ≤ ss.length ∧ ss.length ≤ 8 ∧ n ≤ 600000 ∧ 0 ≤ most ∧ most ≤ 20 ∧ 0 ≤ high ∧ high < 2 ^ 199 ∧
  ∀ (l : List (Str × Str × Int)) (n' : Nat), l.length ≤ most.toNat → (∀ t ∈ l, t.1 ∈ ss ∧ t.2.1 ∈ ss ∧ t.1 ≠ t.2.1 ∧ 0 ≤ t.2.2 ∧ t.2.2 ≤ high) → n' ≤ n + 30000 → k (.tuple (trisD l)) n'
end RM
namespace RM
open PySem PySem.Spec PyProof.Rows L2 CS RZ
/-! ### a comprehension over a list that this frame alone knows -/
end RM
namespace RM
open PySem PySem.Spec PyProof.Rows L2 CS RZ
/-! ### triples added up -/
abbrev Tri := Str × Str × Int
def pr (t : Tri) : Str × Str := (t.1, t.2.1)
def sumAt (l : List Tri) (p : Str × Str) : Int := ((l.filter fun t => pr t = p).map fun t => t.2.2).sum
def putOne (acc : List (Str × Str)) (p : Str × Str) : List (Str × Str) := if p ∈ acc then acc else acc ++ [p]
def firsts (l : List (Str × Str)) : List (Str × Str) := l.foldl putOne []
theorem firsts_snoc (l : List (Str × Str)) (p : Str × Str) : firsts (l ++ [p]) = putOne (firsts l) p := by
  unfold firsts
  rw [List.foldl_append]
  rfl
theorem mem_putOne {acc : List (Str × Str)} {p q : Str × Str} : q ∈ putOne acc p ↔ q ∈ acc ∨ q = p := by
  unfold putOne
  split
  · rename_i h
    constructor
    · exact .inl
    · rintro (h2 | rfl)
      · exact h2
      · exact h
  · rw [List.mem_append, List.mem_singleton]
theorem nodup_putOne {acc : List (Str × Str)} {p : Str × Str} (h : acc.Nodup) : (putOne acc p).Nodup := by
  unfold putOne
  split
  · exact h
  · rename_i c
    rw [List.nodup_append]
    refine ⟨h, by simp, fun a ha b hb => ?_⟩
    rw [List.mem_singleton] at hb
    subst hb
    exact fun z => c (z ▸ ha)
theorem foldl_put : ∀ (l acc : List (Str × Str)), (∀ q, q ∈ l.foldl putOne acc ↔ q ∈ acc ∨ q ∈ l) ∧ (acc.Nodup → (l.foldl putOne acc).Nodup)
  | [], acc => ⟨fun q => by simp, fun h => h⟩
  | p :: l, acc => by
    obtain ⟨h1, h2⟩ := foldl_put l (putOne acc p)
    refine ⟨fun q => ?_, fun h => h2 (nodup_putOne h)⟩
    rw [List.foldl_cons, h1, mem_putOne, List.mem_cons, or_assoc]
theorem mem_firsts {l : List (Str × Str)} {q : Str × Str} : q ∈ firsts l ↔ q ∈ l := by
  unfold firsts
  rw [(foldl_put l []).1 q]
  simp
theorem nodup_firsts (l : List (Str × Str)) : (firsts l).Nodup := (foldl_put l []).2 List.nodup_nil
theorem sumAt_snoc (l : List Tri) (t : Tri) (q : Str × Str) : sumAt (l ++ [t]) q = sumAt l q + (if pr t = q then t.2.2 else 0) := by
  unfold sumAt
  rw [List.filter_append, List.map_append, List.sum_append]
  congr 1
  by_cases h : pr t = q
  · rw [if_pos h, List.filter_cons_of_pos (by simpa using h)]
    simp
  · rw [if_neg h, List.filter_cons_of_neg (by simpa using h)]
    rfl
theorem sumAt_none {l : List Tri} {q : Str × Str} (h : q ∉ l.map pr) : sumAt l q = 0 := by
  unfold sumAt
  rw [List.filter_eq_nil_iff.mpr]
  · rfl
  · intro t ht
    simp only [decide_eq_true_eq]
    exact fun z => h (z ▸ List.mem_map_of_mem ht)
/-- what is counted: the pairs ascend, their numbers added, without 0 -/
def canon (l : List Tri) : List Tri := (((firsts (l.map pr)).mergeSort leP).filter fun p => 0 < sumAt l p).map fun p => (p.1, p.2, sumAt l p)
/-! the dict -/
end RM
namespace RM
open PySem PySem.Spec PyProof.Rows L2 CS RZ
/-! ### a comprehension whose turns leave the frame as it is -/
/-- rows of a triple each, lists or tuples -/
def RowsAre (rows : List D) (l : List Tri) : Prop := rows.map seqD = l.map fun t => some [PyData.str t.1, .str t.2.1, .int t.2.2]
theorem firsts_len (l : List (Str × Str)) : (firsts l).length ≤ l.length := by
  have : ∀ (l acc : List (Str × Str)), (l.foldl putOne acc).length ≤ acc.length + l.length := by
    intro l
    induction l with
    | nil => intro acc; simp
    | cons p l ih =>
      intro acc
      rw [List.foldl_cons, List.length_cons]
      have h1 := ih (putOne acc p)
      have h2 : (putOne acc p).length ≤ acc.length + 1 := by
        unfold putOne
        split
        · omega
        · rw [List.length_append, List.length_singleton]
          exact Nat.le_refl _
      omega
  have := this l []
  unfold firsts
  simpa using this
end RM
namespace RM
open PySem PySem.Spec PyProof.Rows L2 CS RZ
/-! ### what may be compared, by depth -/
def OkN (k : Nat) (d : D) : Prop := plain d = true ∧ d.canLay0 = true ∧ d.depth ≤ k
theorem OkN.ok {k : Nat} {d : D} (h : OkN k d) (hk : k ≤ 64) : okE d = true := by
  unfold okE SeqAt.shaped
  rw [h.1, h.2.1, decide_eq_true (Nat.le_trans h.2.2 hk)]
  rfl
theorem OkN.all {k : Nat} : ∀ {ds : List D}, (∀ d ∈ ds, OkN k d) → plains ds = true ∧ PyData.canLayAll0 ds = true ∧ PyData.depthAll ds ≤ k
  | [], _ => ⟨rfl, by simp [PyData.canLayAll0], by simp [PyData.depthAll]⟩
  | d :: ds, h => by
    obtain ⟨a1, a2, a3⟩ := h d (List.mem_cons_self ..)
    obtain ⟨b1, b2, b3⟩ := OkN.all (ds := ds) fun z hz => h z (List.mem_cons_of_mem _ hz)
    refine ⟨by unfold plains; rw [a1, b1]; rfl, by simp only [PyData.canLayAll0]; rw [a2, b2]; rfl, ?_⟩
    simp only [PyData.depthAll]
    omega
theorem OkN.tuple {k : Nat} {ds : List D} (h : ∀ d ∈ ds, OkN k d) : OkN (k + 1) (.tuple ds) := by
  obtain ⟨b1, b2, b3⟩ := OkN.all h
  exact ⟨by unfold plain; exact b1, by simp only [PyData.canLay0]; exact b2, by simp only [PyData.depth]; omega⟩
theorem OkN.list {k : Nat} {ds : List D} (h : ∀ d ∈ ds, OkN k d) : OkN (k + 1) (.list ds) := by
  obtain ⟨b1, b2, b3⟩ := OkN.all h
  exact ⟨by unfold plain; exact b1, by simp only [PyData.canLay0]; exact b2, by simp only [PyData.depth]; omega⟩
theorem OkN.int (k : Nat) (i : Int) : OkN k (.int i) := ⟨rfl, by simp [PyData.canLay0], by simp [PyData.depth]⟩
def GoodS (s : Str) : Prop := (PyData.str s).canLay0 = true
theorem OkN.str (k : Nat) {s : Str} (h : GoodS s) : OkN k (.str s) := ⟨rfl, h, by simp [PyData.depth]⟩
def GoodP (p : Str × Str) : Prop := GoodS p.1 ∧ GoodS p.2
theorem tag_good : ∀ s ∈ tagPool, GoodS s := by
  intro s hs
  have : ∀ s ∈ tagPool, (PyData.str s).canLay0 = true := by decide +kernel
  exact this s hs
/-! ### by this law's own sums -/
def sdSummed : SpD := fun ds n k _ => ∃ (x : D) (l : List Tri), ds = [x] ∧ seqD x = some (trisD l) ∧ (∀ t ∈ l, GoodP (pr t)) ∧ l.length ≤ 1000 ∧ k (.tuple (trisD (canon l))) n
end RM
namespace RM
open PySem PySem.Spec PyProof.Rows L2 CS RZ
end RM
namespace RM
open PySem PySem.Spec PyProof.Rows L2 CS RZ
/-! ### classes by what they keep -/
end RM
namespace RM
open PySem PySem.Spec PyProof.Rows L2 CS RZ
def cCnt : Nat := 20
def cStill : Nat := 4
def cBelow : Nat := 5
/-! ### Counts, as data -/
def manyD (l : List Tri) : List (D × D) := l.map fun t => (tx (pr t), PyData.int t.2.2)
def cntF (s : Str) (l : List Tri) : List (D × D) := [(.str "_start", .str s), (.str "_steps", .tuple (trisD l)), (.str "_many", .dict ((.none, .bool true) :: manyD l))]
def cntD (s : Str) (l : List Tri) : D := obj cCnt (cntF s l)
def numAt (l : List Tri) (p : Str × Str) : Int := ((l.find? fun t => pr t = p).map fun t => t.2.2).getD 0
/-! properties -/
/-! numbers of steps -/
def sdSub : SpD := fun ds n k _ => ∃ s l x a b, ds = [cntD s l, x] ∧ seqD x = some [.str a, .str b] ∧ k (.int (numAt l (a, b))) n
end RM
namespace RM
open PySem PySem.Spec PyProof.Rows L2 CS RZ
/-! ### what leads out and in -/
def sdM_outs : SpD := fun ds n k _ => ∃ s l a, ds = [cntD s l, .str a] ∧ GoodS a ∧ (∀ t ∈ l, GoodP (pr t)) ∧ l.length ≤ 1000 ∧ k (.int ((l.filter fun t => t.1 = a).map fun t => t.2.2).sum) n
def sdM_ins : SpD := fun ds n k _ => ∃ s l a, ds = [cntD s l, .str a] ∧ GoodS a ∧ (∀ t ∈ l, GoodP (pr t)) ∧ l.length ≤ 1000 ∧ k (.int ((l.filter fun t => t.2.1 = a).map fun t => t.2.2).sum) n
/-! ### triples that are none -/
def stillT (t : Tri) : Bool := decide (t.1 = t.2.1)
def belowT (t : Tri) : Bool := decide (t.2.2 < 0)
def stillX (t : Tri) : Xv := (cStill, errF ["place"] [.str t.1])
def belowX (t : Tri) : Xv := (cBelow, errF ["one", "other", "number"] [.str t.1, .str t.2.1, .int t.2.2])
/-- what is raised for the triples, if something is -/
def wrongT (l : List Tri) : Option Xv := match l.find? stillT with
  | some t => some (stillX t)
  | none => (l.find? belowT).map belowX
end RM
namespace RM
open PySem PySem.Spec PyProof.Rows L2 CS RZ
/-! ### Counts made -/
theorem canon_pr (l : List Tri) : (canon l).map pr = ((firsts (l.map pr)).mergeSort leP).filter fun p => 0 < sumAt l p := by
  unfold canon
  rw [List.map_map]
  exact List.map_id' _
theorem canon_nodup (l : List Tri) : ((canon l).map pr).Nodup := by
  rw [canon_pr]
  exact ((List.mergeSort_perm _ _).nodup_iff.mpr (nodup_firsts _)).sublist List.filter_sublist
theorem canon_len (l : List Tri) : (canon l).length ≤ l.length := by
  have h1 := congrArg List.length (canon_pr l)
  rw [List.length_map] at h1
  have h2 := List.length_filter_le (fun p => decide (0 < sumAt l p)) ((firsts (l.map pr)).mergeSort leP)
  rw [List.length_mergeSort] at h2
  have h3 := firsts_len (l.map pr)
  rw [List.length_map] at h3
  omega
theorem canon_mem {l : List Tri} {t : Tri} (h : t ∈ canon l) : pr t ∈ l.map pr ∧ 0 < t.2.2 ∧ t.2.2 = sumAt l (pr t) := by
  unfold canon at h
  obtain ⟨p, hp, rfl⟩ := List.mem_map.mp h
  obtain ⟨h1, h2⟩ := List.mem_filter.mp hp
  exact ⟨mem_firsts.mp ((List.mergeSort_perm _ _).mem_iff.mp h1), of_decide_eq_true h2, rfl⟩
def sdInit : SpI := fun ds n k ke => ∃ (s : Str) (x : D) (rows : List D) (l : List Tri), ds = [.str s, x] ∧ seqD x = some rows ∧ RowsAre rows l ∧ (∀ t ∈ l, GoodP (pr t)) ∧ l.length ≤ 1000 ∧ match wrongT l with
  | some y => ke y n
  | none => k (cntF s (canon l)) n
/-! + and - -/
def leftT (l l2 : List Tri) : List Tri := l.map fun t => (t.1, t.2.1, t.2.2 - numAt l2 (pr t))
end RM
namespace PySem.W
open PySem PySem.Spec PyProof.Rows
end PySem.W
namespace RM
open PySem PySem.Spec PyProof.Rows L2 CS RZ
/-! ### x op= e of an own class without in-place methods -/
section
variable {X : Cx} {g : Glob} {xk : WX} {pos pos' p : Pos} {j k c i : Nat} {x : Str} {ps : List Str} {e : Expr} {te : CE}
/-! isinstance of an own class -/
def kindD : D → Option String
  | .none => some "NoneType"
  | .bool _ => some "bool"
  | .int _ => some "int"
  | .str _ => some "str"
  | .list _ => some "list"
  | .tuple _ => some "tuple"
  | .dict _ => none
def kinds : List String := ["NoneType", "bool", "int", "str", "list", "tuple"]
theorem kind_mem {d : D} {t : String} (h : kindD d = some t) : t ∈ kinds := by
  cases d <;> cases h <;> decide
theorem kind_ty {T : Tab} {H : Hp} {v : V} {d : D} {t : String} (h : Is T H v d) (e : kindD d = some t) : TyX T.K H v (.type t) := by
  cases h with
  | lst h r =>
    cases e
    exact .base (.lst h)
  | tup h r =>
    cases e
    rcases h with (h | ⟨o, h⟩) | ⟨o, its, n, h, hc, _⟩
    · exact .base (.tup h)
    · exact .fTuple h
    · exact .kTuple h hc
  | non => cases e; exact .base .non
  | bl b => cases e; exact .base (.bl b)
  | int b => cases e; exact .base (.int b)
  | str b => cases e; exact .base (.str b)
  | _ => cases e
/-! x[::-1] -/
end
end RM
namespace RM
open PySem PySem.Spec PyProof.Rows L2 CS RZ
/-! ### an object made with its last argument left out -/
end RM
namespace RM
open PySem PySem.Spec PyProof.Rows L2 CS RZ
/-! ### dict of a list of pairs, keys of text, none twice -/
end RM
namespace RM
open PySem PySem.Spec PyProof.Rows L2 CS RZ
/-! ### a comprehension with two walks -/
end RM
namespace RM
open PySem PySem.Spec PyProof.Rows L2 CS RZ
end RM
namespace RM
open PySem PySem.Spec PyProof.Rows L2 CS RZ
/-! ### own == and in as tests -/
end RM
namespace RM
open PySem PySem.Spec PyProof.Rows L2 CS RZ
/-! ### Counts that are equal -/
/-! ### surplus -/
def putS (ns : List Str) (a : Str) : List Str := if a ∈ ns then ns else ns ++ [a]
def over (l : List Tri) (p : Str) : Int := ((l.filter fun t => t.1 = p).map fun t => t.2.2).sum - ((l.filter fun t => t.2.1 = p).map fun t => t.2.2).sum
def ends (l : List Tri) (p : Str) : Prop := ∃ t ∈ l, t.1 = p ∨ t.2.1 = p
theorem mem_putS {ns : List Str} {a p : Str} : p ∈ putS ns a ↔ p ∈ ns ∨ p = a := by
  unfold putS
  split
  · rename_i h
    exact ⟨.inl, fun z => z.elim id fun e => e ▸ h⟩
  · rw [List.mem_append, List.mem_singleton]
theorem nodup_putS {ns : List Str} {a : Str} (h : ns.Nodup) : (putS ns a).Nodup := by
  unfold putS
  split
  · exact h
  · rename_i c
    rw [List.nodup_append]
    refine ⟨h, by simp, fun x hx y hy => ?_⟩
    rw [List.mem_singleton] at hy
    subst hy
    exact fun z => c (z ▸ hx)
theorem len_putS (ns : List Str) (a : Str) : (putS ns a).length ≤ ns.length + 1 := by
  unfold putS
  split
  · omega
  · rw [List.length_append, List.length_singleton]
    exact Nat.le_refl _
end RM
namespace RM
open PySem PySem.Spec PyProof.Rows L2 CS RZ
/-! ### what canon tells -/
def Fine (l : List Tri) : Prop := ∀ t ∈ l, t.1 ≠ t.2.1 ∧ 0 ≤ t.2.2
theorem sumAt_append (l m : List Tri) (p : Str × Str) : sumAt (l ++ m) p = sumAt l p + sumAt m p := by
  unfold sumAt
  rw [List.filter_append, List.map_append, List.sum_append]
theorem sumAt_nil (p : Str × Str) : sumAt [] p = 0 := rfl
theorem sumAt_cons (t : Tri) (l : List Tri) (p : Str × Str) : sumAt (t :: l) p = (if pr t = p then t.2.2 else 0) + sumAt l p := by
  have := sumAt_append [t] l p
  rw [List.singleton_append] at this
  rw [this]
  congr 1
  have h2 := sumAt_snoc [] t p
  rw [List.nil_append, sumAt_nil, Int.zero_add] at h2
  exact h2
theorem sumAt_nonneg {l : List Tri} (h : ∀ t ∈ l, 0 ≤ t.2.2) (p : Str × Str) : 0 ≤ sumAt l p := by
  induction l with
  | nil => exact Int.le_refl 0
  | cons t l ih =>
    rw [sumAt_cons]
    have h1 := ih fun z hz => h z (List.mem_cons_of_mem _ hz)
    have h2 := h t (List.mem_cons_self ..)
    split <;> omega
theorem sumAt_in {l : List Tri} {p : Str × Str} (h : sumAt l p ≠ 0) : p ∈ l.map pr := Decidable.byContradiction fun c => h (sumAt_none c)
theorem numAt_cons (t : Tri) (l : List Tri) (p : Str × Str) : numAt (t :: l) p = if pr t = p then t.2.2 else numAt l p := by
  unfold numAt
  rw [List.find?_cons]
  by_cases c : pr t = p
  · rw [decide_eq_true c, if_pos c]
    rfl
  · rw [decide_eq_false c, if_neg c]
theorem numAt_sum {l : List Tri} (hn : (l.map pr).Nodup) (p : Str × Str) : numAt l p = sumAt l p := by
  induction l with
  | nil => rfl
  | cons t l ih =>
    rw [List.map_cons, List.nodup_cons] at hn
    rw [sumAt_cons]
    unfold numAt
    rw [List.find?_cons]
    by_cases c : pr t = p
    · rw [decide_eq_true c, if_pos c, sumAt_none (c ▸ hn.1), Int.add_zero]
      rfl
    · rw [decide_eq_false c, if_neg c, Int.zero_add]
      exact ih hn.2
theorem sumAt_canon (l : List Tri) (p : Str × Str) : sumAt (canon l) p = if 0 < sumAt l p then sumAt l p else 0 := by
  by_cases c : p ∈ (canon l).map pr
  · obtain ⟨t, ht, rfl⟩ := List.mem_map.mp c
    obtain ⟨h1, h2, h3⟩ := canon_mem ht
    rw [← numAt_sum (canon_nodup l)]
    unfold numAt
    have : (canon l).find? (fun u => pr u = pr t) = some t := by
      have hn := canon_nodup l
      generalize canon l = m at ht hn
      induction m with
      | nil => cases ht
      | cons u m ih =>
        rw [List.find?_cons]
        by_cases e : u = t
        · subst e
          rw [decide_eq_true rfl]
        · rcases List.mem_cons.mp ht with z | z
          · exact absurd z.symm e
          · rw [List.map_cons, List.nodup_cons] at hn
            have hne : ¬ pr u = pr t := fun w => hn.1 (by rw [w]; exact List.mem_map_of_mem z)
            rw [decide_eq_false hne]
            exact ih z hn.2
    rw [this]
    show t.2.2 = _
    rw [← h3, if_pos h2]
  · rw [sumAt_none c, if_neg]
    intro z
    refine c ?_
    rw [canon_pr, List.mem_filter]
    exact ⟨(List.mergeSort_perm _ _).mem_iff.mpr (mem_firsts.mpr (sumAt_in (by omega))), decide_eq_true z⟩
theorem sumAt_canon' {l : List Tri} (h : Fine l) (p : Str × Str) : sumAt (canon l) p = sumAt l p := by
  rw [sumAt_canon]
  have := sumAt_nonneg (fun t ht => (h t ht).2) p
  split <;> omega
theorem fine_canon {l : List Tri} (h : Fine l) : Fine (canon l) := fun t ht => by
  obtain ⟨h1, h2, _⟩ := canon_mem ht
  obtain ⟨u, hu, he⟩ := List.mem_map.mp h1
  refine ⟨fun z => (h u hu).1 ?_, by omega⟩
  have e1 : (pr u).1 = (pr t).1 := by rw [he]
  have e2 : (pr u).2 = (pr t).2 := by rw [he]
  change u.1 = t.1 at e1
  change u.2.1 = t.2.1 at e2
  rw [e1, e2, z]
end RM
namespace RM
open PySem PySem.Spec PyProof.Rows L2 CS RZ
/-! ### the promises, as they are used where nothing is raised -/
def GoodL (l : List Tri) : Prop := ∀ t ∈ l, GoodP (pr t)
theorem good_canon {l : List Tri} (h : GoodL l) : GoodL (canon l) := fun t ht => by
  obtain ⟨h1, _⟩ := canon_mem ht
  obtain ⟨u, hu, he⟩ := List.mem_map.mp h1
  rw [← he]
  exact h u hu
/-! ### the places -/
def sdP_places : SpD := fun ds n k _ => ∃ s l, ds = [cntD s l] ∧ l.length ≤ 30 ∧ ∀ ys : List Str, ys.Nodup → (∀ p, p ∈ ys ↔ p = s ∨ ends l p) → sortedS ys = true → k (.tuple (strD ys)) n
end RM
namespace RM
open PySem PySem.Spec PyProof.Rows L2 CS RZ
/-! ### sums over the places -/
def outsT (l : List Tri) (a : Str) : Int := ((l.filter fun t => t.1 = a).map fun t => t.2.2).sum
def insT (l : List Tri) (a : Str) : Int := ((l.filter fun t => t.2.1 = a).map fun t => t.2.2).sum
theorem outsT_cons (t : Tri) (l : List Tri) (a : Str) : outsT (t :: l) a = (if t.1 = a then t.2.2 else 0) + outsT l a := by
  unfold outsT
  rw [List.filter_cons]
  by_cases c : t.1 = a
  · rw [if_pos (decide_eq_true c), if_pos c, List.map_cons, List.sum_cons]
  · rw [if_neg (by simpa using c), if_neg c, Int.zero_add]
theorem insT_cons (t : Tri) (l : List Tri) (a : Str) : insT (t :: l) a = (if t.2.1 = a then t.2.2 else 0) + insT l a := by
  unfold insT
  rw [List.filter_cons]
  by_cases c : t.2.1 = a
  · rw [if_pos (decide_eq_true c), if_pos c, List.map_cons, List.sum_cons]
  · rw [if_neg (by simpa using c), if_neg c, Int.zero_add]
/-- a sum that one member alone gives -/
theorem sum_one {ys : List Str} (hn : ys.Nodup) (b : Str) (c : Int) : (ys.map fun y => if b = y then c else 0).sum = if b ∈ ys then c else 0 := by
  induction ys with
  | nil => rfl
  | cons y ys ih =>
    rw [List.nodup_cons] at hn
    rw [List.map_cons, List.sum_cons, ih hn.2]
    by_cases e : b = y
    · subst e
      rw [if_pos rfl, if_neg hn.1, if_pos (List.mem_cons_self ..), Int.add_zero]
    · rw [if_neg e, Int.zero_add]
      by_cases m : b ∈ ys
      · rw [if_pos m, if_pos (List.mem_cons_of_mem _ m)]
      · rw [if_neg m, if_neg fun z => (List.mem_cons.mp z).elim e m]
theorem sum_add (ys : List Str) (f g : Str → Int) : (ys.map fun y => f y + g y).sum = (ys.map f).sum + (ys.map g).sum := by
  induction ys with
  | nil => rfl
  | cons y ys ih =>
    rw [List.map_cons, List.map_cons, List.map_cons, List.sum_cons, List.sum_cons, List.sum_cons, ih]
    omega
theorem sum_zero (ys : List Str) : (ys.map fun _ => (0 : Int)).sum = 0 := by
  induction ys with
  | nil => rfl
  | cons y ys ih => rw [List.map_cons, List.sum_cons, ih]; rfl
theorem sum_outs {ys : List Str} (hn : ys.Nodup) (a : Str) : ∀ l : List Tri, (∀ p, ends l p → p ∈ ys) → (ys.map fun y => sumAt l (a, y)).sum = outsT l a
  | [], _ => sum_zero ys
  | t :: l, h => by
    have ih := sum_outs hn a l fun p ⟨u, hu, z⟩ => h p ⟨u, List.mem_cons_of_mem _ hu, z⟩
    rw [outsT_cons, ← ih]
    have : (fun y => sumAt (t :: l) (a, y)) = fun y => (if t.2.1 = y then (if t.1 = a then t.2.2 else 0) else 0) + sumAt l (a, y) := by
      funext y
      rw [sumAt_cons]
      congr 1
      by_cases c1 : t.1 = a
      · by_cases c2 : t.2.1 = y
        · rw [if_pos (show pr t = (a, y) by rw [← c1, ← c2]; rfl), if_pos c2, if_pos c1]
        · rw [if_neg (show ¬ pr t = (a, y) from fun z => c2 (congrArg Prod.snd (show (t.1, t.2.1) = (a, y) from z))), if_neg c2]
      · rw [if_neg (show ¬ pr t = (a, y) from fun z => c1 (congrArg Prod.fst (show (t.1, t.2.1) = (a, y) from z))), if_neg c1]
        split <;> rfl
    rw [this, sum_add, sum_one hn, if_pos (h _ ⟨t, List.mem_cons_self .., .inr rfl⟩)]
theorem sum_ins {ys : List Str} (hn : ys.Nodup) (a : Str) : ∀ l : List Tri, (∀ p, ends l p → p ∈ ys) → (ys.map fun y => sumAt l (y, a)).sum = insT l a
  | [], _ => sum_zero ys
  | t :: l, h => by
    have ih := sum_ins hn a l fun p ⟨u, hu, z⟩ => h p ⟨u, List.mem_cons_of_mem _ hu, z⟩
    rw [insT_cons, ← ih]
    have : (fun y => sumAt (t :: l) (y, a)) = fun y => (if t.1 = y then (if t.2.1 = a then t.2.2 else 0) else 0) + sumAt l (y, a) := by
      funext y
      rw [sumAt_cons]
      congr 1
      by_cases c1 : t.2.1 = a
      · by_cases c2 : t.1 = y
        · rw [if_pos (show pr t = (y, a) by rw [← c1, ← c2]; rfl), if_pos c2, if_pos c1]
        · rw [if_neg (show ¬ pr t = (y, a) from fun z => c2 (congrArg Prod.fst (show (t.1, t.2.1) = (y, a) from z))), if_neg c2]
      · rw [if_neg (show ¬ pr t = (y, a) from fun z => c1 (congrArg Prod.snd (show (t.1, t.2.1) = (y, a) from z))), if_neg c1]
        split <;> rfl
    rw [this, sum_add, sum_one hn, if_pos (h _ ⟨t, List.mem_cons_self .., .inl rfl⟩)]
end RM
namespace RM
open PySem PySem.Spec PyProof.Rows L2 CS RZ
/-! ### texts in order -/
def leS (a b : Str) : Prop := a.cps.toList ≤ b.cps.toList
theorem leS_anti {a b : Str} (h : leS a b) (h2 : leS b a) : a = b := PySem.W.str_of_cps (List.le_antisymm h h2)
theorem leS_trans {a b c : Str} (h : leS a b) (h2 : leS b c) : leS a c := List.le_trans h h2
theorem not_lt {a b : Str} (h : ltCps b.cps.toList a.cps.toList = false) : leS a b := by
  rw [ltCps_eq, decide_eq_false_iff_not] at h
  exact List.not_lt.mp h
theorem rising_pw : ∀ (p : Str) (l : List Str), risingS p l = true → (p :: l).Pairwise leS
  | p, [], _ => List.pairwise_singleton _ _
  | p, x :: r, h => by
    have h' : (!ltCps x.cps.toList p.cps.toList && risingS x r) = true := h
    rw [Bool.and_eq_true] at h'
    have ih := rising_pw x r h'.2
    have hx : leS p x := not_lt (by simpa using h'.1)
    rw [List.pairwise_cons] at ih ⊢
    refine ⟨fun y hy => ?_, List.pairwise_cons.mpr ih⟩
    rcases List.mem_cons.mp hy with rfl | hy
    · exact hx
    · exact leS_trans hx (ih.1 y hy)
theorem sorted_pw {l : List Str} (h : sortedS l = true) : l.Pairwise leS := by
  cases l with
  | nil => exact .nil
  | cons x r => exact rising_pw x r h
theorem sorted_one {ys zs : List Str} (h1 : ys.Pairwise leS) (h2 : zs.Pairwise leS) (n1 : ys.Nodup) (n2 : zs.Nodup) (hm : ∀ p, p ∈ ys ↔ p ∈ zs) : ys = zs :=
  List.Perm.eq_of_pairwise (le := leS) (fun a b _ _ x y => leS_anti x y) h1 h2 ((List.perm_ext_iff_of_nodup n1 n2).mpr hm)
/-! ### what comes next to a place -/
theorem canon_pw (l : List Tri) : (canon l).Pairwise fun t u => leP (pr t) (pr u) = true := by
  have h : ((canon l).map pr).Pairwise fun a b => leP a b = true := by
    rw [canon_pr]
    exact (PySem.W.sort_pairwise leP_total _).sublist List.filter_sublist
  exact List.pairwise_map.mp h
end RM
namespace RM
open PySem PySem.Spec PyProof.Rows L2 CS RZ
/-! ### k08: a turn -/
def okS : Nat → D → Prop
  | 0, _ => False
  | _ + 1, .int _ => True
  | _ + 1, .str _ => True
  | _ + 1, .bool _ => True
  | _ + 1, .none => True
  | n + 1, .list ds => ds.length ≤ 1000 ∧ ∀ d ∈ ds, okS n d
  | n + 1, .tuple ds => ds.length ≤ 1000 ∧ ∀ d ∈ ds, okS n d
  | _ + 1, _ => False
/-- alike with itself -/
def sdSame : SpD := fun ds n k _ => ∃ x, ds = [x, x] ∧ okS 4 x ∧ k (.bool true) n
def r1 : CS := cSet 2 (cCall sdTags (cCons (cVar 0) (cCons (cOp addD (cC (.int 2)) (cCall sdTake (cCons (cVar 0) (cCons (cC (.int 5)) (cNil))))) (cNil))))
def r2 : CS := cPar 6 7 (cCons (cCall sdOf (cCons (cVar 0) (cCons (cVar 2) (cNil)))) (cCons (cCall sdStrewn (cCons (cVar 0) (cCons (cVar 2) (cCons (cC (.int 9)) (cCons (cCall sdOf (cCons (cVar 0) (cCons (cLst (cCons (cC (.int 1)) (cCons (cC (.int 3)) (cCons (cOp powD (cC (.int 10)) (cC (.int 28))) (cNil))))) (cNil)))) (cNil)))))) (cNil)))
def q1 : CS := cOwn 10 (cLc (cSeq (cProp sdP_places (cVar 3) cCnt)) (stN 13) (cYes) (cSubO sdSub (cVar 3) (cTup (cCons (cVar 5) (cCons (cVar 13) (cNil)))) cCnt) [13])
def q2 : CS := cOwn 11 (cLc (cSeq (cProp sdP_places (cVar 3) cCnt)) (stN 13) (cYes) (cSubO sdSub (cVar 3) (cTup (cCons (cVar 13) (cCons (cVar 5) (cNil)))) cCnt) [13])
def q3 : CS := cIfS (cNotT (cB (cCall sdSame (cCons (cLst (cCons (cCB gSum (cCons (cVar 10) (cNil))) (cCons (cCB gSum (cCons (cVar 11) (cNil))) (cNil)))) (cCons (cLst (cCons (cMeth sdM_outs (cVar 3) (cCons (cVar 5) (cNil)) cCnt "outs") (cCons (cMeth sdM_ins (cVar 3) (cCons (cVar 5) (cNil)) cCnt "ins") (cNil)))) (cNil)))))) (cRet (cC (.bool false))) (cNext)
abbrev fr (t1 t2 t3 t4 t5 t6 t7 t8 t9 t10 t11 t12 t13 : Option Sl) : En := [some (.v boxD), t1, t2, t3, t4, t5, t6, t7, t8, t9, t10, t11, t12, t13]
end RM
namespace RM
open PySem PySem.Spec PyProof.Rows L2 CS RZ
end RM
namespace RM
open PySem PySem.Spec PyProof.Rows L2 CS RZ
theorem neD_int (i j : Int) : neD (.int i) (.int j) = some (.bool (!(i == j))) := rfl
/-- what is known of the places that are told -/
structure Pl (f : Str) (L : List Tri) (ys : List Str) : Prop where
  nd : ys.Nodup
  mem : ∀ p, p ∈ ys ↔ p = f ∨ ends L p
  pw : ys.Pairwise leS
/-- what is known of what is counted -/
structure Ct (f : Str) (L : List Tri) : Prop where
  gf : GoodS f
  g : GoodL L
  fine : Fine L
  len : L.length ≤ 9
  nd : (L.map pr).Nodup
  pw : L.Pairwise fun t u => leP (pr t) (pr u) = true
theorem Pl.good {f : Str} {L : List Tri} {ys : List Str} (h : Pl f L ys) (c : Ct f L) : ∀ y ∈ ys, GoodS y := fun y hy => by
  rcases (h.mem y).mp hy with rfl | ⟨t, ht, rfl | rfl⟩
  · exact c.gf
  · exact (c.g t ht).1
  · exact (c.g t ht).2
theorem Pl.one {f : Str} {L : List Tri} {ys zs : List Str} (h : Pl f L ys) (h2 : Pl f L zs) : ys = zs := sorted_one h.pw h2.pw h.nd h2.nd fun p => (h.mem p).trans (h2.mem p).symm
theorem nodup_len : ∀ {ys zs : List Str}, ys.Nodup → (∀ y ∈ ys, y ∈ zs) → ys.length ≤ zs.length
  | [], _, _, _ => Nat.zero_le _
  | y :: ys, zs, hn, h => by
    have hy := h y (List.mem_cons_self ..)
    have hc := List.nodup_cons.mp hn
    have ih := nodup_len (ys := ys) (zs := zs.erase y) hc.2 fun z hz => (List.mem_erase_of_ne fun (e : z = y) => hc.1 (e ▸ hz)).mpr (h z (List.mem_cons_of_mem _ hz))
    rw [List.length_erase_of_mem hy] at ih
    have := List.length_pos_of_mem hy
    rw [List.length_cons]
    omega
theorem Pl.len {f : Str} {L : List Tri} {ys : List Str} (h : Pl f L ys) (c : Ct f L) : ys.length ≤ 100 := by
  have := nodup_len (zs := f :: (L.map (fun t => t.1) ++ L.map fun t => t.2.1)) h.nd fun y hy => by
    rcases (h.mem y).mp hy with rfl | ⟨t, ht, rfl | rfl⟩
    · exact List.mem_cons_self ..
    · exact List.mem_cons_of_mem _ (List.mem_append_left _ (List.mem_map.mpr ⟨t, ht, rfl⟩))
    · exact List.mem_cons_of_mem _ (List.mem_append_right _ (List.mem_map.mpr ⟨t, ht, rfl⟩))
  have lc := c.len
  rw [List.length_cons, List.length_append, List.length_map, List.length_map] at this
  omega
end RM
namespace RM
open PySem PySem.Spec PyProof.Rows L2 CS RZ
end RM
namespace RM
open PySem PySem.Spec PyProof.Rows L2 CS RZ
def sdRight : SpD := fun ds n k _ => ds = [boxD] ∧ n = 0 ∧ ∀ n', k (.bool true) n'
abbrev n_law_right : List Str := ["_law_box_here", "_law_turn", "_law_tags_here", "_law_made", "_law_own", "_law_tag", "_law_first_so", "_law_rows_so", "_law_sum_so", "_law_left_so", "_law_far_so", "_law_near_so", "_law_over_so", "_law_far"]
end RM
namespace RM
open PySem PySem.Spec PyProof.Rows L2 CS RZ
/-! ### k08 by hand -/
theorem firsts_id : ∀ (l m : List (Str × Str)), (m ++ l).Nodup → firsts m = m → firsts (m ++ l) = m ++ l
  | [], m, _, h => by rwa [List.append_nil]
  | p :: l, m, hn, h => by
    have e : m ++ p :: l = (m ++ [p]) ++ l := by rw [List.append_assoc]; rfl
    rw [e] at hn ⊢
    refine firsts_id l (m ++ [p]) hn ?_
    rw [firsts_snoc, h]
    unfold putOne
    rw [if_neg]
    intro z
    have := (List.nodup_append.mp hn).1
    exact (List.nodup_append.mp this).2.2 p z p (by simp) rfl
theorem canon_id {l : List Tri} (hn : (l.map pr).Nodup) (hp : (l.map pr).Pairwise fun a b => leP a b = true) (h0 : ∀ t ∈ l, 0 < t.2.2) : canon l = l := by
  have e1 : firsts (l.map pr) = l.map pr := firsts_id (l.map pr) [] (by simpa using hn) rfl
  have hs : ∀ t ∈ l, sumAt l (pr t) = t.2.2 := fun t ht => by
    rw [← numAt_sum hn]
    induction l with
    | nil => cases ht
    | cons u l ih =>
      rw [numAt_cons]
      rw [List.map_cons, List.nodup_cons] at hn
      rcases List.mem_cons.mp ht with rfl | ht
      · rw [if_pos rfl]
      · have hne : ¬ pr u = pr t := fun w => hn.1 (by rw [w]; exact List.mem_map_of_mem ht)
        rw [if_neg hne]
        rw [List.map_cons, List.pairwise_cons] at hp
        exact ih hn.2 hp.2 (fun z hz => h0 z (List.mem_cons_of_mem _ hz)) (firsts_id (l.map pr) [] (by simpa using hn.2) rfl) ht
  unfold canon
  rw [e1, List.mergeSort_of_pairwise hp, List.filter_eq_self.mpr fun p hp => ?_]
  · rw [List.map_map]
    refine (List.map_congr_left fun t ht => ?_).trans (List.map_id l)
    show (t.1, t.2.1, sumAt l (pr t)) = t
    rw [hs t ht]
  · obtain ⟨t, ht, rfl⟩ := List.mem_map.mp hp
    rw [hs t ht]
    exact decide_eq_true (h0 t ht)
end RM
namespace RM
open PySem PySem.Spec PyProof.Rows L2 CS RZ
/-! ### from the bare heap to data -/
theorem ev_bare {C : Ctx} {n : Nat} {H : Hp} (hB : C.B = fun _ => none) (h0 : C.H0 = H) (hz : ∀ a, C.Z a → C.T.bx = some a) (hb : ∀ b, C.T.bx = some b → C.Z b ∧ BoxAt H b n) : Ev C [] n [] H now := by
  refine ⟨rfl, fun i d h => by simp at h, fun i d h => by simp at h, fun i p h => (by cases h), fun i j p h => (by cases h), fun a z => ?_, fun a xs z e => ?_, fun a o h _ => h0 ▸ h, hb, fun p hp i q d h => (by cases h), fun a o h => ?_⟩
  · obtain ⟨A, B, F, e, _⟩ := (hb a (hz a z)).2
    exact ⟨_, h0 ▸ e⟩
  · obtain ⟨A, B, F, e2, _⟩ := (hb a (hz a z)).2
    rw [h0, e2] at e
    cases e
  · rw [hB] at h
    cases h
theorem right_imp {g : Glob} {vs : List V} {H : Hp} {Q : VK} {E : XK} (h : ∃ b : Addr, vs = [.ref b] ∧ BoxAt H b 0 ∧ ∀ H' : Hp, (∀ c o, c ≠ b → H c = some o → H' c = some o) → Q (.bl true) H') : spD g sdRight vs H Q E := by
  obtain ⟨b, rfl, hb, q⟩ := h
  refine ⟨{ T := ⟨g.K, g.cls, some b⟩, Z := fun a => a = b, H0 := H }, [boxD], 0, fun d _ => d = .bool true, fun _ _ => False, ⟨rfl, rfl⟩, rfl, ev_bare rfl rfl (fun a z => by rw [show a = b from z]) (fun b' h => ?_), .cons (.box rfl) .nil, ⟨rfl, rfl, fun _ => rfl⟩, fun d n' v H' hd F i => ?_, fun _ _ _ _ _ h => h.elim⟩
  · have e : b = b' := Option.some.inj h
    subst e
    exact ⟨rfl, hb⟩
  · subst hd
    rw [isBl i]
    exact q H' fun c o hc ho => F.keep c o ho fun z => hc (Option.some.inj z).symm
/-- deep likeness, told of data -/
theorem same_imp {g : Glob} {vs : List V} {H : Hp} {Q : VK} {E : XK} (hk : ∀ d, okS 4 d → plain d = true) (h : spD g sdSame vs H Q E) : ∃ (x y : V) (d : D), vs = [x, y] ∧ Dp g.K H x d ∧ Dp g.K H y d ∧ okS 4 d ∧ ∀ H' : Hp, Same H H' → Q (.bl true) H' := by
  obtain ⟨C, ds, n, k, ke, hK, e0, E0, i, ⟨x, rfl, ok, s⟩, q, _⟩ := h
  obtain ⟨v, u, rfl, iv, iu⟩ := i.two
  refine ⟨v, u, x, rfl, hK.1 ▸ (iv.same hid_le).dp (hk x ok), hK.1 ▸ (iu.same hid_le).dp (hk x ok), ok, fun H' s' => q _ _ _ _ s ⟨fun a o h _ => s' _ _ (e0 ▸ h), fun b hb => (E0.box b hb).2.same s'⟩ (.bl true)⟩
theorem okS_plain : ∀ (n : Nat) (d : D), okS n d → plain d = true
  | 0, _, h => h.elim
  | _ + 1, .none, _ => rfl
  | _ + 1, .bool _, _ => rfl
  | _ + 1, .int _, _ => rfl
  | _ + 1, .str _, _ => rfl
  | n + 1, .list ds, h => by
    unfold plain
    have : ∀ l : List D, (∀ d ∈ l, okS n d) → plains l = true := by
      intro l
      induction l with
      | nil => intro _; rfl
      | cons d l ih =>
        intro hh
        unfold plains
        rw [okS_plain n d (hh d (List.mem_cons_self ..)), ih fun z hz => hh z (List.mem_cons_of_mem _ hz)]
        rfl
    exact this ds h.2
  | n + 1, .tuple ds, h => by
    unfold plain
    have : ∀ l : List D, (∀ d ∈ l, okS n d) → plains l = true := by
      intro l
      induction l with
      | nil => intro _; rfl
      | cons d l ih =>
        intro hh
        unfold plains
        rw [okS_plain n d (hh d (List.mem_cons_self ..)), ih fun z hz => hh z (List.mem_cons_of_mem _ hz)]
        rfl
    exact this ds h.2
  | _ + 1, .dict _, h => h.elim
end RM
namespace K16
open PySem PySem.Spec PyProof.Rows L2 CS RM
theorem okS_okD : ∀ (n : Nat) (d : PyData), okS n d → okD n d
  | 0, _, h => h.elim
  | _ + 1, .none, _ => trivial
  | _ + 1, .bool _, _ => trivial
  | _ + 1, .int _, _ => trivial
  | _ + 1, .str _, _ => trivial
  | n + 1, .list ds, h => ⟨h.1, fun d hd => okS_okD n d (h.2 d hd)⟩
  | n + 1, .tuple ds, h => ⟨h.1, fun d hd => okS_okD n d (h.2 d hd)⟩
  | _ + 1, .dict _, h => h.elim
end K16
namespace RM
open PySem PySem.Spec PyProof.Rows L2
/-! ### sets of texts that can be walked -/
section
variable {P : Program} {w : World} {A : Around} {E : Value → Shared → Prop} {s : Shared} {a : Addr} {ss : List Str}
def TxE (P : Program) (w : World) (x : Int × Value) : Prop := ∃ z t, x.2 = Value.str z t ∧ x.1 = (PySem.strKind P w).hash z
def txOf (x : Int × Value) : Str := match x.2 with | .str z _ => z | _ => Str.empty
structure Laid (P : Program) (w : World) (ss : List Str) (es : Array (Int × Value)) (t : SetTable) : Prop where
  el : ∀ x ∈ es.toList, TxE P w x
  pm : (es.toList.map txOf).Perm ss
  nd : ss.Nodup
  sz : es.size < scanBound
  fit : t.fits es.size = true
  ris : Ris t.place.toList
  led : w.params.followText "set-order" = true ∨ t.led = true
def TxSet (P : Program) (w : World) (a : Addr) (ss : List Str) (h : Heap) : Prop := ∃ o es ep t, h.get? a = some o ∧ o.ExactSet ∧ o.data = .set es ep t ∧ Laid P w ss es t
theorem Laid.len {es : Array (Int × Value)} {t : SetTable} (L : Laid P w ss es t) : es.size = ss.length := by
  have := L.pm.length_eq
  rw [List.length_map, Array.length_toList] at this
  exact this
end
end RM
set_option maxHeartbeats 4000000
namespace RM
open PySem PySem.Spec PyProof.Rows L2
section
variable {P : Program} {w : World} {A : Around} {E : Value → Shared → Prop} {s : Shared} {a : Addr} {ss : List Str}
theorem TxSet.at {h h' : Heap} (R : TxSet P w a ss h) (k : ∀ o, h.get? a = some o → h'.get? a = some o) : TxSet P w a ss h' := by
  obtain ⟨o, es, ep, t, ho, r⟩ := R
  exact ⟨o, es, ep, t, k o ho, r⟩
end
end RM
set_option maxHeartbeats 4000000
namespace RM
open PySem PySem.Spec PyProof.Rows L2 CS RZ
/-! ### set(a list of texts) -/
end RM
set_option maxHeartbeats 4000000
namespace RM
open PySem PySem.Spec PyProof.Rows L2 CS RZ
/-! ### sets of texts as objects; sorted of one -/
end RM
namespace RM
open PySem PySem.Spec PyProof.Rows L2 CS RZ
/-! ### sorted(set(e)), e a list of texts -/
end RM
namespace RM
open PySem PySem.Spec PyProof.Rows L2 CS RZ
/-! ### what the written part says of a class, as truth values -/
end RM
/-! except (A, B, ..) as n: an error that is used behind the clause -/
namespace CS
open PySem PySem.Spec PyProof.Rows L2
end CS
namespace RM
open PySem PySem.Spec PyProof.Rows L2 CS RZ
/-! ### try: .. except (A, ..) as n: .. -/
end RM
namespace RM
open PySem PySem.Spec PyProof.Rows L2 CS RZ
/-! ### o.m(x = e, ..) -/
structure PDKw (X : Cx) (g : Glob) (xk : WX) (kws : List Keyword) (td : CA) : Prop where
  pk : PK X kws (liftA g xk td)
section
variable {X : Cx} {g : Glob} {xk : WX} {pos kpos : Pos} {CX : CXT} {k j c : Nat} {nm : Option Str} {m : Str} {ps ks : List Str} {sd : SpD}
theorem pdk_nil : PDKw X g xk [] cNil := ⟨⟨fun p pins s σ H Q I h => pk_nil.run p pins s σ H Q I (let ⟨C, ρ, n, O, k, ke, hK, E, t, x, q⟩ := h; q _ _ _ _ _ _ t E (Same.refl _) .nil)⟩⟩
theorem pdk_cons {e : Expr} {kws : List Keyword} {t : CE} {u : CA} (ha : PD X g xk e t) (hr : PDKw X g xk kws u) : PDKw X g xk (⟨nm, e, kpos⟩ :: kws) (cCons t u) := by
  refine ⟨⟨fun p pins s σ H Q I h => (pk_cons ha.pe hr.pk).run p pins s σ H Q I ?_⟩⟩
  obtain ⟨C, ρ, n, O, k, ke, hK, E, t, x, q⟩ := h
  refine ⟨C, ρ, n, O, _, ke, hK, E, t, x, fun d ρ1 n1 v H1 O1 k1 E1 S1 i1 => ?_⟩
  exact ⟨C, ρ1, n1, O1, _, ke, hK, E1, k1, x, fun ds ρ2 n2 vs H2 O2 k2 E2 S2 i2 => q _ _ _ _ _ _ k2 E2 (S1.trans S2) (.cons (i1.same S2) i2)⟩
theorem run_kw {f : Addr} {fd : FuncData} {sp : Sp} {gs : List Value → List Value → List Value} {gV : List V → List V → List V} {n : Nat} {E : L2.St → XK} {pins : List (Addr × Obj)} {σ : L2.St} {H : Hp} {s : Shared} {Q : VK} {us ws : List Value} {vs zs : List V} (F : FnOk X.prog X.w X.K X.mg X.base CX k f fd ps sp) (hr : Room k X.A) (hb : KBn X.K fd ps n ks gs gV) (hx : PassesAt CX X σ (E σ)) (I : Inv X pins σ H s)
    (r : Vals vs us) (rz : Vals zs ws) (l1 : us.length = n) (l2 : ws.length = ks.length) (h : sp (gV vs zs) H Q (E σ)) : wpAny (model X.prog X.w) X.A (call (.ref f) us (ks.zip ws)) (EP X pins σ Q) X.xe s :=
  wpAny_call (codeAny_mono (F.run X.A X.stack s H ⟨us, ks.zip ws⟩ (gs us ws) (gV vs zs) Q (E σ) hr I.env0 (hb.to s us ws I.kIn l1 l2) (hb.rel r rz) h) (cr_out (fun e s' z => hx pins H s e s' I z) fun _ _ z => I.after z))
end
end RM
namespace RM
open PySem PySem.Spec PyProof.Rows L2 CS RZ
/-! ### the errors of a program, beside one another -/
structure ErX (K : PySem.W.Frag) (g : Glob) (ms : List Nat) (fs : List Str) (vb : Nat → Bool) : Prop where
  csx : ∀ c ∈ ms, PySem.W.CsxC K (g.cls c)
  xf : ∀ c ∈ ms, XfC K (g.cls c)
  no : ∀ c ∈ ms, ∀ f ∈ fs, PySem.W.findIn K (.ref (g.cls c)) f = some none
  kit : ∀ c ∈ ms, ∀ d ∈ ms, PySem.W.kitOne K (.ref (g.cls c)) (.ref (g.cls d)) = some (decide (c = d))
  exm : ∀ c ∈ ms, ∀ d ∈ ms, PySem.W.exmOne K (.ref (g.cls c)) (.ref (g.cls d)) = some (decide (c = d))
  kv : ∀ c ∈ ms, PySem.W.kitOne K (.ref (g.cls c)) (.type "ValueError") = some (vb c)
  kl : ∀ c ∈ ms, PySem.W.kitOne K (.ref (g.cls c)) (.type "LookupError") = some (!vb c)
section
variable {K : PySem.W.Frag} {g : Glob} {ms : List Nat} {fs : List Str} {vb : Nat → Bool}
theorem ErX.any (x : ErX K g ms fs vb) {c : Nat} (hc : c ∈ ms) : ∀ {cns : List Nat}, (∀ d ∈ cns, d ∈ ms) → PySem.W.exmAny K (.ref (g.cls c)) (cns.map fun d => .ref (g.cls d)) = some (decide (c ∈ cns))
  | [], _ => by
    show some false = _
    simp
  | d :: cns, h => by
    have h1 := x.exm c hc d (h d (List.mem_cons_self ..))
    have h2 := x.any hc (cns := cns) fun e he => h e (List.mem_cons_of_mem _ he)
    rw [List.map_cons]
    unfold PySem.W.exmAny
    rw [h1, h2]
    by_cases a : c = d
    · simp [a]
    · simp [a]
end
end RM
namespace RM
open PySem PySem.Spec PyProof.Rows L2 CS RZ
/-! ### isinstance of two built-in types -/
def cIsK (o : Opd) (a b : String) : CE := fun ρ n k ke => cOpd o ρ n (fun get ρ1 n1 => ∃ d t, get ρ1 = some d ∧ kindD d = some t ∧ k (.bool (decide (t = a ∨ t = b))) ρ1 n1) ke
def kit2B (a b : String) : Bool := kinds.all fun t => (kitB t a == some (decide (t = a))) && (kitB t b == some (decide (t = b)))
theorem kit2_at {K : PySem.W.Frag} {a b t : String} (h : kit2B a b = true) (ht : t ∈ kinds) : PySem.W.kitAny K (.type t) [.type a, .type b] = some (decide (t = a ∨ t = b)) := by
  unfold kit2B at h
  simp only [List.all_eq_true, Bool.and_eq_true, beq_iff_eq] at h
  obtain ⟨h1, h2⟩ := h t ht
  by_cases c : t = a
  · exact kitAny_cons (kit_ty h1) (fun z => by simp [c] at z) (fun _ => by simp [c])
  · refine kitAny_cons (kit_ty h1) (fun _ => ?_) (fun z => by simp [c] at z)
    refine kitAny_cons (kit_ty h2) (fun z => ?_) (fun z => ?_)
    · have : ¬ t = b := by simpa using z
      simp [c, this]
      rfl
    · have : t = b := by simpa using z
      simp [this]
section
variable {X : Cx} {g : Glob} {xk : WX} {pos p : Pos}
theorem pd_isK {e : Expr} {o : Opd} {x y : Str} {a b : String} {px py pt : Pos} {kk} (G : Good X g) (hk : kit2B a b = true) (h : PDQ X g xk e o) (gx : Gl X x) (mx : X.mg x = none) (vx : bootBuiltins x = some (.type a)) (gy : Gl X y) (my : X.mg y = none) (vy : bootBuiltins y = some (.type b)) (hg : Gl X "isinstance") (hm : X.mg "isinstance" = none)
    (nx : x ≠ "__name__" := by decide) (dx : (x == ("__debug__" : Str)) = false := by decide) (ny : y ≠ "__name__" := by decide) (dy : (y == ("__debug__" : Str)) = false := by decide)
    (hs : starEach [e, .Tuple [.Name x px, .Name y py] kk pt] X.env = (false, eval e X.env) :: starEach [.Tuple [.Name x px, .Name y py] kk pt] X.env := by rfl) (hs2 : starEach [.Tuple [.Name x px, .Name y py] kk pt] X.env = (false, eval (.Tuple [.Name x px, .Name y py] kk pt) X.env) :: starEach [] X.env := by rfl)
    (hs3 : starEach [.Name x px, .Name y py] X.env = (false, eval (.Name x px) X.env) :: starEach [.Name y py] X.env := by rfl) (hs4 : starEach [.Name y py] X.env = (false, eval (.Name y py) X.env) :: starEach [] X.env := by rfl)
    (hpl : (backTo pos (starEach [.Tuple [.Name x px, .Name y py] kk pt] X.env)).any (·.1) = false := by rfl) : PD X g xk (.Call (.Name "isinstance" p) [e, .Tuple [.Name x px, .Name y py] kk pt] [] pos) (cIsK o a b) := by
  refine ⟨PE.imp (pe_callB call_isiT hg hm (by decide +kernel) (pa_cons h.pe (pa_cons (pe_tup (pa_cons (pe_bltn (v := .ty a) gx mx vx rfl nx dx) (pa_cons (pe_bltn (v := .ty b) gy my vy rfl ny dy) pa_nil hs4) hs3)) pa_nil hs2) hs) (by decide) (by decide) hs hpl) fun σ H Q r => ?_⟩
  obtain ⟨C, ρ, n, O, k, ke, hK, E, t, x, q⟩ := r
  refine ⟨C, ρ, n, O, _, ke, hK, E, t, x, fun get ρ1 n1 v H1 O1 k1 E1 S1 p1 => ?_⟩
  obtain ⟨d, t, h1, h2, k1⟩ := k1
  refine ⟨(by show 2 ≤ sizeLine; decide), fun tp ntp => ?_⟩
  obtain ⟨E2, S2, e2⟩ := E1.new (o := .tup [.ty a, .ty b]) ntp
  have iv := kind_ty (((p1 _ _ _ _ _ E1 (Same.refl _) h1).is hid_le).same (same_new (o := .tup [V.ty a, V.ty b]) ntp)) h2
  exact ⟨v, tp, [.ty a, .ty b], .type t, [.type a, .type b], _, rfl, upd_same, .cons (.ty a) (.cons (.ty b) .nil), (hK.1.trans G.K) ▸ iv, kit2_at hk (kind_mem h2), q _ _ _ _ _ _ k1 E2 (S1.trans S2) (.bl _)⟩
end
/-! ### lists for tuples, at any depth -/
mutual
def listsD : D → D
  | .list ds => .list (listsDs ds)
  | .tuple ds => .list (listsDs ds)
  | d => d
def listsDs : List D → List D
  | [] => []
  | d :: ds => listsD d :: listsDs ds
end
def sdLists (m : Nat) : SpD := fun ds n k _ => ∃ x, ds = [x] ∧ okS m x ∧ k (listsD x) n
end RM
namespace RM
open PySem PySem.Spec PyProof.Rows L2 CS RZ
/-! ### k05: Counts that are none -/
def inPl (s : Str) (l : List Tri) (a : Str) : Bool := decide (a = s) || l.any fun t => decide (t.1 = a) || decide (t.2.1 = a)
def dueT (s : Str) (l : List Tri) : D := match l.find? stillT with
  | some t => .list [.str "still", .str t.1]
  | none => match l.find? belowT with
    | some t => .list [.str "below", .str t.1, .str t.2.1, .int t.2.2]
    | none => .list [.str "made", .str s]
def sdHeard : SpD := fun ds n k _ => ∃ s x rows l, ds = [.str s, x] ∧ seqD x = some rows ∧ RowsAre rows l ∧ GoodL l ∧ l.length ≤ 1000 ∧ k (dueT s l) n
def sdDue : SpD := fun ds n k _ => ∃ s l, ds = [.str s, .list (trisD l)] ∧ GoodS s ∧ GoodL l ∧ l.length ≤ 1000 ∧ k (dueT s l) n
def sdSpots : SpD := fun ds n k _ => ∃ s l, ds = [.str s, .tuple (trisD l)] ∧ GoodS s ∧ GoodL l ∧ l.length ≤ 30 ∧ ∀ ys : List Str, ys.Nodup → (∀ p, p ∈ ys ↔ p = s ∨ ends l p) → sortedS ys = true → k (.list (strD ys)) n
def sdChecked : SpD := fun ds n k _ => ∃ s l a, ds = [cntD s l, .str a] ∧ GoodS s ∧ GoodS a ∧ GoodL l ∧ l.length ≤ 30 ∧ k (if inPl s l a = true then .none else .list [.str a, .bool true]) n
theorem atI_zero {α : Type} (d : α) (ds : List α) : atI (d :: ds) 0 = some d := by
  unfold atI ixN
  rw [if_pos (by decide), if_pos (by rw [List.length_cons]; omega)]
  rfl
/-! places, gathered -/
end RM
set_option maxHeartbeats 4000000
namespace RM
open PySem PySem.Spec PyProof.Rows L2 CS RZ
/-! ### k05, drawn -/
def a1 : CS := cSet 2 (cCall sdTags (cCons (cVar 0) (cCons (cOp addD (cC (.int 2)) (cCall sdTake (cCons (cVar 0) (cCons (cC (.int 4)) (cNil))))) (cNil))))
def a2 : CS := cOwn 3 (cCF gList' (cCons (cCall sdStrewn (cCons (cVar 0) (cCons (cVar 2) (cCons (cC (.int 6)) (cCons (cC (.int 4)) (cNil)))))) (cNil)))
def a3 : CS := cFor (cRange1 (cCons (cCall sdTake (cCons (cVar 0) (cCons (cC (.int 3)) (cNil)))) (cNil))) (stN 4) (cSq (cSet 7 (cCall sdOf (cCons (cVar 0) (cCons (cLst (cCons (cTup (cCons (cOp atD (cVar 2) (cC (.int 0))) (cCons (cOp atD (cVar 2) (cC (.int 0))) (cCons (cC (.int 1)) (cNil))))) (cCons (cTup (cCons (cOp atD (cVar 2) (cC (.int 1))) (cCons (cOp atD (cVar 2) (cC (.int 0))) (cCons (cOp subD (cNeg (cC (.int 1))) (cCall sdTake (cCons (cVar 0) (cCons (cC (.int 9)) (cNil))))) (cNil))))) (cCons (cTup (cCons (cOp atD (cVar 2) (cC (.int 1))) (cCons (cOp atD (cVar 2) (cC (.int 1))) (cCons (cNeg (cC (.int 2))) (cNil))))) (cNil))))) (cNil))))) (cDrop (cMut 3 (cCons (cCall sdTake (cCons (cVar 0) (cCons (cOp addD (cCBQ gLen (.nm 3)) (cC (.int 1))) (cNil)))) (cCons (cVar 7) (cNil))) uIns)))
def a4 : CS := cSet 5 (cCall sdDue (cCons (cOp atD (cVar 2) (cC (.int 0))) (cCons (cVar 3) (cNil))))
def a5 : CS := cSet 6 (cLst (cCons (cCall sdHeard (cCons (cOp atD (cVar 2) (cC (.int 0))) (cCons (cCB gTuple (cCons (cVar 3) (cNil))) (cNil)))) (cCons (cCall sdHeard (cCons (cOp atD (cVar 2) (cC (.int 0))) (cCons (cCall (sdLists 3) (cCons (cVar 3) (cNil))) (cNil)))) (cNil))))
def a6 : CS := cIfS (cNotT (cB (cCall sdSame (cCons (cVar 6) (cCons (cLst (cCons (cVar 5) (cCons (cVar 5) (cNil)))) (cNil)))))) (cRet (cC (.bool false))) (cNext)
def a7 : CS := cIfS (cB (cOp eqD (cOp atD (cVar 5) (cC (.int 0))) (cC (.str "made")))) (cSq (cSet 8 (cMake cCnt sdInit (cCons (cOp atD (cVar 2) (cC (.int 0))) (cCons (cVar 3) (cNil))))) (cSq (cSet 9 (cCall sdSpots (cCons (cOp atD (cVar 2) (cC (.int 0))) (cCons (cCall sdSummed (cCons (cVar 3) (cNil))) (cNil))))) (cSq (cOwn 6 (cLc (cSeq (cOp addD (cVar 2) (cLst (cCons (cC (.str "inland")) (cNil))))) (stN 10) (cYes) (cCall sdChecked (cCons (cVar 8) (cCons (cVar 10) (cNil)))) [10])) (cSq (cOwn 5 (cLc (cSeq (cOp addD (cVar 2) (cLst (cCons (cC (.str "inland")) (cNil))))) (stN 10) (cYes) (cIf (cB (cOp inD (cVar 10) (cVar 9))) (cC .none) (cLst (cCons (cVar 10) (cCons (cC (.bool true)) (cNil))))) [10])) (cIfS (cNotT (cB (cCall sdSame (cCons (cVar 6) (cCons (cVar 5) (cNil)))))) (cRet (cC (.bool false))) (cNext)))))) (cNext)
def aBody : CS := cSq a1 (cSq a2 (cSq a3 (cSq a4 (cSq a5 (cSq a6 (a7))))))
def at1 : CS := cFor (cRange1 (cCons (cC (.int 8)) (cNil))) (stN 1) aBody
abbrev gr (t1 t2 t3 t4 t5 t6 t7 t8 t9 t10 : Option Sl) : En := [some (.v boxD), t1, t2, t3, t4, t5, t6, t7, t8, t9, t10]
end RM
set_option maxHeartbeats 4000000
namespace RM
open PySem PySem.Spec PyProof.Rows L2 CS RZ
/-! ### k05, by hand -/
end RM
namespace RM
open PySem PySem.Spec PyProof.Rows L2 CS RZ
end RM
namespace RM
open PySem PySem.Spec PyProof.Rows L2 CS RZ
/-! ### a cut of a tuple as a key -/
section
variable {X : Cx} {g : Glob} {xk : WX} {pos : Pos}
/-! ### dict(l), l a list of pairs, their keys tuples -/
/-! the comprehension's turns -/
def PrD (T : Tab) (H : Hp) (v : V) (kv : D × D) : Prop := ∃ (p b : Addr) (ks : List L2.Key) (y : V), v = .ref p ∧ H p = some (.tup [.ref b, y]) ∧ H b = some (.tup (ks.map kV)) ∧ kv.1 = .tuple (ks.map kD) ∧ Is T H y kv.2
theorem PrD.same {T : Tab} {H H' : Hp} {v : V} {kv : D × D} (h : PrD T H v kv) (s : Same H H') : PrD T H' v kv :=
  let ⟨p, b, ks, y, e1, e2, e3, e4, e5⟩ := h
  ⟨p, b, ks, y, e1, s _ _ e2, s _ _ e3, e4, e5.same s⟩
end
end RM
namespace PySem.W
open PySem PySem.Spec PyProof.Rows
open Builtin
end PySem.W
namespace RM
open PySem PySem.Spec PyProof.Rows L2 CS RZ
/-! ### != by one's own ==; == with something else -/
end RM
namespace RM
open PySem PySem.Spec PyProof.Rows L2 CS RZ
theorem hu2 {k : Nat} {A : Around} (r : Room k A) : A.units + 2 < cLine := by have := r.un; omega
/-! ### a list a number of times -/
def repD : D → D → Option D
  | .list ds, .int k => if 0 ≤ k ∧ k ≤ 1000 ∧ ds.length * k.toNat ≤ lim then some (.list (List.replicate k.toNat ds).flatten) else none
  | _, _ => none
theorem isL_rep {T : Tab} {H : Hp} {vs : List V} {ds : List D} (h : IsL T H vs ds) : ∀ k : Nat, IsL T H (List.replicate k vs).flatten (List.replicate k ds).flatten
  | 0 => .nil
  | k + 1 => by
    rw [List.replicate_succ, List.replicate_succ, List.flatten_cons, List.flatten_cons]
    exact h.append (isL_rep h k)
theorem od_rep {X : Cx} : OpD X (binaryOp .Mult) repD := by
  refine ⟨_, op_rep, fun T Hh H x y dx dy z Q hK s ix iy hg q => ?_⟩
  unfold repD at hg
  split at hg
  · obtain ⟨⟨c1, c2, c3⟩, rfl⟩ := ifs hg
    obtain ⟨a, xs, rfl, ha, ra⟩ := ix.list'
    rw [iy.int']
    exact ⟨a, _, xs, rfl, rfl, s _ _ ha, by omega, by omega, by rw [ra.length]; exact lim_le c3, newL q (isL_rep ra _)⟩
  · cases hg
/-! a class known apart from the built-in kinds -/
end RM
namespace RM
open PySem PySem.Spec PyProof.Rows L2 CS RZ
/-! ### k06: Counts added and taken away -/
structure Cn (L : List Tri) : Prop where
  g : GoodL L
  fine : Fine L
  pos : ∀ t ∈ L, 0 < t.2.2
  len : L.length ≤ 30
  nd : (L.map pr).Nodup
  pw : (L.map pr).Pairwise fun a b => leP a b = true
theorem cn_canon {l : List Tri} (hF : Fine l) (hg : GoodL l) (hl : l.length ≤ 30) : Cn (canon l) := ⟨good_canon hg, fine_canon hF, fun t ht => (canon_mem ht).2.1, by have := canon_len l; omega, canon_nodup l, List.pairwise_map.mpr (canon_pw l)⟩
theorem Cn.id {L : List Tri} (c : Cn L) : canon L = L := canon_id c.nd c.pw c.pos
theorem numAt_mem {l : List Tri} (hn : (l.map pr).Nodup) {t : Tri} (ht : t ∈ l) : numAt l (pr t) = t.2.2 := by
  induction l with
  | nil => cases ht
  | cons u l ih =>
    rw [numAt_cons]
    rw [List.map_cons, List.nodup_cons] at hn
    rcases List.mem_cons.mp ht with rfl | ht
    · rw [if_pos rfl]
    · have hne : ¬ pr u = pr t := fun w => hn.1 (by rw [w]; exact List.mem_map_of_mem ht)
      rw [if_neg hne]
      exact ih hn.2 ht
end RM
namespace RM
open PySem PySem.Spec PyProof.Rows L2 CS RZ
/-! ### k06: taken away, by the law's own table -/
end RM
set_option maxHeartbeats 4000000
namespace RM
open PySem PySem.Spec PyProof.Rows L2 CS RZ
/-! ### k06: a case -/
end RM
set_option maxHeartbeats 4000000
namespace RM
open PySem PySem.Spec PyProof.Rows L2 CS RZ
/-! ### k06 by hand -/
def lD6 : List Tri := [("b", "a", 1)]
abbrev hA : D := .list [.str "b", .str "a", .int 2, .bool true, .bool false]
abbrev hC : D := .list [.str "a", .tuple (trisD lD6)]
end RM
set_option maxHeartbeats 4000000
namespace RM
open PySem PySem.Spec PyProof.Rows L2 CS RZ
/-! ### k06, drawn -/
structure Pool (ss : List Str) : Prop where
  nd : ss.Nodup
  two : 2 ≤ ss.length
  six : ss.length ≤ 6
  tag : ∀ s ∈ ss, s ∈ tagPool
structure Rows6 (ss : List Str) (l : List Tri) : Prop where
  fine : Fine l
  ins : ∀ t ∈ l, t.1 ∈ ss ∧ t.2.1 ∈ ss
theorem Rows6.good {ss : List Str} {l : List Tri} (p : Pool ss) (r : Rows6 ss l) : GoodL l := fun t ht => ⟨tag_good _ (p.tag _ (r.ins t ht).1), tag_good _ (p.tag _ (r.ins t ht).2)⟩
end RM
namespace CS
open PySem PySem.Spec PyProof.Rows L2
end CS
namespace RM
open PySem PySem.Spec PyProof.Rows L2 CS RZ
/-! ### pairs of two rows -/
def pairD (a b : D) : D := .tuple [a, b]
end RM
namespace RM
open PySem PySem.Spec PyProof.Rows L2 CS RZ
/-! ### k07: rows of steps -/
def pairsOf : List Str → List (Str × Str)
  | a :: b :: r => (a, b) :: pairsOf (b :: r)
  | _ => []
theorem pairs_cons (a b : Str) (r : List Str) : pairsOf (a :: b :: r) = (a, b) :: pairsOf (b :: r) := rfl
theorem cutL_tail (ds : List D) : cutL ds (some 1) none = ds.tail := by
  unfold cutL
  rw [show HT.sIx ds.length 0 (some 1) = min 1 ds.length from HT.sIx_nat ds.length 0 1, HT.sIx_none]
  cases ds with
  | nil => rfl
  | cons d ds =>
    rw [List.length_cons, Nat.min_eq_left (by omega), List.drop_one, List.tail_cons]
    exact List.take_of_length_le (by omega)
def stepT (ss : List Str) : List Tri := (pairsOf ss).map fun p => (p.1, p.2, 1)
theorem pairs_len : ∀ ss : List Str, (pairsOf ss).length = ss.length - 1
  | [] => rfl
  | [a] => rfl
  | a :: b :: r => by
    have ih := pairs_len (b :: r)
    rw [pairs_cons, List.length_cons, ih]
    simp
theorem pairs_mem : ∀ {ss : List Str} {p : Str × Str}, p ∈ pairsOf ss → p.1 ∈ ss ∧ p.2 ∈ ss
  | [], _, h => by cases h
  | [a], _, h => by cases h
  | a :: b :: r, p, h => by
    rw [pairs_cons] at h
    rcases List.mem_cons.mp h with rfl | h
    · exact ⟨by simp, by simp⟩
    · have := pairs_mem h
      exact ⟨List.mem_cons_of_mem _ this.1, List.mem_cons_of_mem _ this.2⟩
/-- a journey -/
structure Jn (ss : List Str) : Prop where
  good : ∀ s ∈ ss, GoodS s
  ch : ∀ p ∈ pairsOf ss, p.1 ≠ p.2
  len : ss.length ≤ 60
theorem Jn.fine {ss : List Str} (j : Jn ss) : Fine (stepT ss) := fun t ht => by
  obtain ⟨p, hp, rfl⟩ := List.mem_map.mp ht
  exact ⟨j.ch p hp, show (0 : Int) ≤ 1 by decide⟩
theorem step_len (ss : List Str) : (stepT ss).length = ss.length - 1 := by
  unfold stepT
  rw [List.length_map, pairs_len]
end RM
namespace RM
open PySem PySem.Spec PyProof.Rows L2 CS RZ
/-! ### k07: under other names -/
/-! steps renamed -/
end RM
namespace RM
open PySem PySem.Spec PyProof.Rows L2 CS RZ
/-! ### k07: steps tallied -/
end RM
set_option maxHeartbeats 4000000
namespace RM
open PySem PySem.Spec PyProof.Rows L2 CS RZ
/-! ### k07: a journey drawn -/
end RM
namespace RM
open PySem PySem.Spec PyProof.Rows L2 CS RZ
/-! ### sums over what is counted -/
end RM
set_option maxHeartbeats 4000000
namespace RM
open PySem PySem.Spec PyProof.Rows L2 CS RZ
/-! ### k07, drawn -/
abbrev f7 (t1 t2 t3 t4 t5 t6 t7 t8 t9 t10 t11 t12 t13 t14 : Option Sl) : En := [some (.v boxD), t1, t2, t3, t4, t5, t6, t7, t8, t9, t10, t11, t12, t13, t14]
end RM
set_option maxHeartbeats 4000000
namespace RM
open PySem PySem.Spec PyProof.Rows L2 CS RZ
end RM
set_option maxHeartbeats 4000000
namespace RM
open PySem PySem.Spec PyProof.Rows L2 CS RZ
/-! ### k07 by hand -/
end RM
namespace RM
open PySem PySem.Spec PyProof.Rows L2 CS RZ
/-! ### texts put together -/
end RM
namespace RM
open PySem PySem.Spec PyProof.Rows L2 CS RZ
/-! ### C(k2 = .., k1 = ..): an own class made by names, the last parameter first; C.m(k = ..), m a staticmethod -/
def cCallK (N : Nat) (sd : SpD) (ta : CA) : CE := fun ρ n k ke => ta ρ n (fun ds ρ1 n1 => ds.length = N ∧ sd ds n1 (fun d n2 => k d ρ1 n2) (fun y n2 => ke y ρ1 n2)) ke
/-- a def of one parameter, called by its name -/
theorem kb_one {K : PySem.W.Frag} {x qual : Str} {st : Stmt} {f : Addr} {fd : FuncData} {k0 : Str} (F : Fun K x qual st f fd)
    (h : ∀ (kV doc pm : Value) (an : Option Addr) (cdv ct u0 : Value), bindArgs (PySem.W.fnOf x qual (defArgs st) (defBody st) (defScope st) .none kV doc pm an cdv ct) ⟨[], [(k0, u0)]⟩ = pure [(k0, u0)]) : KBn K fd [k0] 0 [k0] (fun us ws => us ++ ws) (fun vs zs => vs ++ zs) := by
  obtain ⟨oc, od, kV, doc, pm, an, cdv, ct, osl, rfl, lk, hcd⟩ := F.ex
  refine ⟨fun s us ws _ hu hw => ?_, fun r1 r2 => ?_⟩
  · match us, ws, hu, hw with
    | [], [u0], _, _ => exact .of_eq (h kV doc pm an cdv ct u0)
  · induction r1 with
    | nil => exact r2
    | cons a _ ih => exact .cons a ih
end RM
namespace RM
open PySem PySem.Spec PyProof.Rows L2 CS RZ
/-! ### what has no list in it stays, whatever lists change -/
section
variable {X : Cx} {g : Glob} {xk : WX} {C : Ctx} {ρ : En} {n : Nat} {σ : L2.St} {H H' : Hp} {O : Ow}
/-! ### a call whose lists are all new -/
def noOwn (ρ : En) : Prop := ∀ (i : Nat) (d : D), ρ[i]? ≠ some (some (Sl.own d))
theorem noOwn.set {i : Nat} {x : Option Sl} (h : noOwn ρ) (hx : ∀ d, x ≠ some (Sl.own d)) : noOwn (ρ.set i x) := fun j d e => by
  by_cases c : j = i
  · subst c
    have hl := lt_of_get e
    rw [List.length_set] at hl
    rw [List.getElem?_set_self hl] at e
    cases e
    exact hx d rfl
  · rw [List.getElem?_set_ne (Ne.symm c)] at e
    exact h j d e
theorem Ev.none (E : Ev C ρ n σ H O) (no : noOwn ρ) (i : Nat) : O i = none := by
  cases h : O i with
  | none => rfl
  | some p =>
    obtain ⟨⟨d, e⟩, _⟩ := E.only i p h
    exact (no i d e).elim
end
end RM
namespace RM
open PySem PySem.Spec PyProof.Rows L2 CS RZ
/-! ### new lists in a new list: told to a call, then changed -/
section
variable {X : Cx} {g : Glob} {xk : WX} {C : Ctx} {ρ : En} {n : Nat} {σ : L2.St} {H : Hp} {O : Ow} {pos : Pos}
def Ctx.one (T : Tab) (H : Hp) (a : Addr) : Ctx where
  T := { T with bx := none }
  Z := fun _ => False
  H0 := fun b => if b = a then none else H b
end
end RM
namespace RM
open PySem PySem.Spec PyProof.Rows L2 CS RZ
end RM
namespace RM
open PySem PySem.Spec PyProof.Rows L2 CS RZ
/-! ### k04: Counts as a text -/
/-! ### sums of what leads out of a place and into it -/
end RM
namespace RM
open PySem PySem.Spec PyProof.Rows L2 CS RZ
/-! ### k04: what is told -/
/-! texts already in order -/
end RM
namespace RM
open PySem PySem.Spec PyProof.Rows L2 CS RZ
/-! ### k04: what is due -/
end RM
namespace RM
open PySem PySem.Spec PyProof.Rows L2 CS RZ
/-! ### k04: a drawn case -/
abbrev f4 (s : Str) (l L : List Tri) (tags : List Str) (due t6 t9 t10 : Option Sl) : En := [some (.v (.str s)), some (.v (.tuple (trisD l))), some (.v (.list (strD tags))), none, none, due, t6, some (.v (cntD s L)), some (.v (.tuple (trisD L))), t9, t10]
end RM
namespace RM
open PySem PySem.Spec PyProof.Rows L2 CS RZ
end RM
namespace RM
open PySem PySem.Spec PyProof.Rows L2 CS RZ
/-! ### k04: a drawn turn -/
section
variable {e : EndsD} {n : Nat} {t1 t2 t3 t4 : Option Sl}
theorem pairs_both : ∀ (ss : List Str) (p : Str × Str), p ∈ pairsOf ss → p.1 ∈ ss ∧ p.2 ∈ ss
  | [], p, h => by cases h
  | [a], p, h => by cases h
  | a :: b :: r, p, h => by
    rcases List.mem_cons.mp h with rfl | h
    · exact ⟨List.mem_cons_self .., List.mem_cons_of_mem _ (List.mem_cons_self ..)⟩
    · have := pairs_both (b :: r) p h
      exact ⟨List.mem_cons_of_mem _ this.1, List.mem_cons_of_mem _ this.2⟩
end
end RM
namespace RM
open PySem PySem.Spec PyProof.Rows L2 CS RZ
/-! ### k04 by hand -/
theorem add_lst {a b : List D} (h : a.length + b.length ≤ lim) : addD (.list a) (.list b) = some (.list (a ++ b)) := if_pos h
end RM
namespace RM
open PySem PySem.Spec PyProof.Rows L2 CS RZ
/-! ### f(k = e): a def called by a name alone -/
structure HasFK (P : Program) (w : World) (K : PySem.W.Frag) (mg : Str → Option Value) (base : Heap) (CX : CXT) (g : Glob) (k : Nat) (x : Str) (ps ks : List Str) (sd : SpD) : Prop where
  ex : ∃ f fd, FnOk P w K mg base CX k f fd ps (spD g sd) ∧ KBn K fd ps 0 ks (fun us ws => us ++ ws) (fun vs zs => vs ++ zs) ∧ PySem.W.keepIn K (.ref f) = true ∧ mg x = some (.ref f)
section
variable {X : Cx} {g : Glob} {xk : WX} {pos p : Pos} {CX : CXT} {j k : Nat} {x : Str} {ps ks : List Str} {ta : CA} {sd : SpD}
theorem pd_funK {kws : List Keyword} (h : HasFK X.prog X.w X.K X.mg X.base CX g j x ps ks sd) (hr : Room k X.A) (l : j ≤ k) (hg : Gl X x) (hx : ∀ σ, PassesAt CX X σ (WE xk σ)) (ha : PDKw X g xk kws ta)
    (hall : (backToKw pos (keywordEach kws X.env)).all (·.1.isSome) = true := by rfl) (hks : (backToKw pos (keywordEach kws X.env)).filterMap (·.1) = ks := by rfl) (hdb : (x == ("__debug__" : Str)) = false := by decide)
    (hpl : ((backTo pos (starEach [] X.env)).any (·.1) || (backToKw pos (keywordEach kws X.env)).any (·.1.isNone)) = false := by rfl) : PD X g xk (.Call (.Name x p) [] kws pos) (cCallK ks.length sd ta) := by
  obtain ⟨f, fd, F, hb, hk, hm⟩ := h.ex
  refine ⟨⟨fun pins s σ H Q I h => ?_⟩⟩
  obtain ⟨C, ρ, n, O, kk, ke, hK, E, t, xl, q⟩ := h
  refine wpAny_Call_Name_kw (ld_glob I hg hm ?_ hdb)
  refine PySem.W.callWith_KW0 (first := []) (h₀ := X.base) I.ok.mod.kin hk hall ?_ hpl
  refine thn (ha.pk.run pos pins s σ H (fun vs H2 => vs.length = ks.length ∧ spD g sd vs H2 Q (WE xk σ)) I ⟨C, ρ, n, O, _, ke, hK, E, t, xl, fun ds ρ2 n2 vs H2 O2 k2 E2 S2 i2 => ⟨by rw [i2.length]; exact k2.1,
    spD_use hK E2 xl i2 k2.2 fun d n' v H' a b c i => q _ _ _ _ _ _ a b (S2.trans c) i⟩⟩) fun ws s3 ⟨zs, H2, I3, r2, l2, q2⟩ => ⟨I3.kIn, ?_⟩
  rw [hks]
  exact run_kw (us := []) (vs := []) (E := WE xk) F (hr.mono l) hb (hx σ) I3 .nil r2 rfl (r2.length.symm.trans l2) q2
/-! ### v = [a, f(m), c]; if t: return ..; v[1].append(e), f's list being new: behind it v is not read -/
end
end RM
namespace RM
open PySem PySem.Spec PyProof.Rows L2 CS RZ
/-! ### raise C(): an own error that keeps nothing -/
end RM
namespace RM
open PySem PySem.Spec PyProof.Rows L2 CS RZ
/-! ### what hangs together: labels against lots -/
def relab (f : Str → Str) (p : Str × Str) : Str → Str := fun y => if f y = f p.1 then f p.2 else f y
def clsOf (ys : List Str) (f : Str → Str) (h : Str) : List Str := ys.filter fun y => f y = h
structure Lab (ys : List Str) (f : Str → Str) : Prop where
  mem : ∀ y ∈ ys, f y ∈ ys
  idem : ∀ y ∈ ys, f (f y) = f y
section
variable {ys : List Str} {f : Str → Str} {a b : Str} {L : List (List Str)}
theorem Lab.step (h : Lab ys f) (ha : a ∈ ys) (hb : b ∈ ys) : Lab ys (relab f (a, b)) where
  mem := fun y hy => by
    unfold relab
    split
    · exact h.mem b hb
    · exact h.mem y hy
  idem := fun y hy => by
    unfold relab
    show (if f (if f y = f a then f b else f y) = f a then f b else f (if f y = f a then f b else f y)) = if f y = f a then f b else f y
    by_cases c : f y = f a
    · rw [if_pos c, h.idem b hb]
      split <;> rfl
    · rw [if_neg c, h.idem y hy, if_neg c]
theorem Lab.all : ∀ (ts : List (Str × Str)) (f : Str → Str), Lab ys f → (∀ p ∈ ts, p.1 ∈ ys ∧ p.2 ∈ ys) → Lab ys (ts.foldl relab f)
  | [], f, h, _ => h
  | p :: ts, f, h, hp => Lab.all ts _ (h.step (hp p (List.mem_cons_self ..)).1 (hp p (List.mem_cons_self ..)).2) fun q hq => hp q (List.mem_cons_of_mem _ hq)
end
end RM
namespace RM
open PySem PySem.Spec PyProof.Rows L2 CS RZ
/-! ### rows of texts in order -/
/-! ### the least place apart from a place -/
end RM
namespace RM
open PySem PySem.Spec PyProof.Rows L2 CS RZ
/-! ### the places of a Counts, in order -/
def leSb (a b : Str) : Bool := leD' (.str a) (.str b)
def spotsAcc (L : List Tri) (ns : List Str) : List Str := L.foldl (fun ns t => putS (putS ns t.1) t.2.1) ns
def placesL (s : Str) (L : List Tri) : List Str := (spotsAcc L [s]).mergeSort leSb
theorem acc_ok : ∀ (L : List Tri) (ns : List Str), (ns.Nodup → (spotsAcc L ns).Nodup) ∧ (∀ p, p ∈ spotsAcc L ns ↔ p ∈ ns ∨ ends L p) ∧ (spotsAcc L ns).length ≤ ns.length + 2 * L.length
  | [], ns => ⟨id, fun p => ⟨.inl, fun h => h.elim id fun ⟨t, z, _⟩ => (List.not_mem_nil z).elim⟩, by simp [spotsAcc]⟩
  | t :: L, ns => by
    obtain ⟨h1, h2, h3⟩ := acc_ok L (putS (putS ns t.1) t.2.1)
    have a1 := len_putS ns t.1
    have a2 := len_putS (putS ns t.1) t.2.1
    refine ⟨fun h => h1 (nodup_putS (nodup_putS h)), fun p => ?_, by rw [List.length_cons]; exact Nat.le_trans h3 (by omega)⟩
    show p ∈ spotsAcc L (putS (putS ns t.1) t.2.1) ↔ _
    rw [h2 p, mem_putS, mem_putS]
    constructor
    · rintro (((h | rfl) | rfl) | ⟨u, hu, e⟩)
      · exact .inl h
      · exact .inr ⟨t, List.mem_cons_self .., .inl rfl⟩
      · exact .inr ⟨t, List.mem_cons_self .., .inr rfl⟩
      · exact .inr ⟨u, List.mem_cons_of_mem _ hu, e⟩
    · rintro (h | ⟨u, hu, e⟩)
      · exact .inl (.inl (.inl h))
      · rcases List.mem_cons.mp hu with rfl | hu
        · rcases e with rfl | rfl
          · exact .inl (.inl (.inr rfl))
          · exact .inl (.inr rfl)
        · exact .inr ⟨u, hu, e⟩
section
variable {s : Str} {L : List Tri}
theorem places_nd : (placesL s L).Nodup := (List.mergeSort_perm _ _).nodup_iff.mpr ((acc_ok L [s]).1 (by simp))
theorem places_mem (p : Str) : p ∈ placesL s L ↔ p = s ∨ ends L p := by
  show p ∈ (spotsAcc L [s]).mergeSort leSb ↔ _
  rw [(List.mergeSort_perm _ _).mem_iff, (acc_ok L [s]).2.1, List.mem_singleton]
end
/-! ### dicts with text keys and any values -/
/-! ### pieces_of -/
end RM
namespace RM
open PySem PySem.Spec PyProof.Rows L2 CS RZ
/-! ### k09: the program's side -/
theorem map_run {α : Type} {cg : CG} {tt : CT} {te : CE} {vs : List Nat} {ρ0 : En} {n : Nat} (enc : α → D) (p : α → Bool) (v : α → D) {k : List D → En → Nat → Prop} : ∀ (l : List α) (acc : List D),
    (∀ a ∈ l, ∃ ρ1, cg (enc a) ρ0 = some ρ1 ∧ wipeE ρ1 vs = ρ0 ∧ (∀ K1 : Bool → En → Nat → Prop, K1 (p a) ρ1 n → tt ρ1 n K1 kF) ∧ ∀ K2 : D → En → Nat → Prop, K2 (v a) ρ1 n → te ρ1 n K2 kF) →
    acc.length + l.length ≤ lim → k (acc ++ (l.filter p).map v) ρ0 n → cLcL cg tt te vs (l.map enc) ρ0 n acc k
  | [], acc, _, _, q => by simpa [cLcL] using q
  | a :: l, acc, h, hl, q => by
    obtain ⟨ρ1, h1, h2, h3, h4⟩ := h a (List.mem_cons_self ..)
    rw [List.length_cons] at hl
    refine ⟨ρ1, h1, h3 _ ?_⟩
    rw [List.filter_cons] at q
    cases c : p a with
    | true =>
      rw [c, if_pos rfl] at q
      refine h4 _ ⟨by omega, ?_⟩
      rw [h2]
      refine map_run enc p v l (acc ++ [v a]) (fun z hz => h z (List.mem_cons_of_mem _ hz)) (by rw [List.length_append, List.length_singleton]; omega) ?_
      rw [List.append_assoc]
      exact q
    | false =>
      rw [c, if_neg (by decide)] at q
      show cLcL cg tt te vs (l.map enc) (wipeE ρ1 vs) n acc k
      rw [h2]
      exact map_run enc p v l acc (fun z hz => h z (List.mem_cons_of_mem _ hz)) (by omega) q
theorem filter_true {α : Type} (l : List α) : l.filter (fun _ => true) = l := List.filter_eq_self.mpr fun _ _ => rfl
/-! ### pieces, why_none, is_had, need, end_of, turned_counts -/
structure Pc (s : Str) (L : List Tri) : Prop where
  cn : Cn L
  gs : GoodS s
  ll : L.length ≤ 30
  nn : ∀ p ∈ placesL s L, p ≠ "none"
abbrev labL (L : List Tri) : Str → Str := (L.map pr).foldl relab id
section
variable {s : Str} {L : List Tri}
def oversL (s : Str) (L : List Tri) : List Str := (placesL s L).filter fun p => over L p ≠ 0
def badN (s p : Str) (i : Int) : Bool := decide (i < -1) || (decide (1 < i) || (decide (0 < i) && !decide (p = s)))
def farL (s : Str) (L : List Tri) : List Str := (placesL s L).filter fun y => decide (y ∉ clsOf (placesL s L) (labL L) (labL L s))
def whyD (s : Str) (L : List Tri) : D := match (oversL s L).find? fun p => badN s p (over L p) with
  | some p => .tuple [.str "surplus", .str p]
  | none => match (farL s L).head? with
    | some p => .tuple [.str "apart", .str p]
    | none => .none
def hadL (s : Str) (L : List Tri) : Bool := noneB (whyD s L)
def endS (s : Str) (L : List Tri) : Str := ((oversL s L).find? fun p => decide (over L p < 0)).getD s
theorem over_none {p : Str} (h : ¬ ends L p) : over L p = 0 := by
  unfold over
  rw [List.filter_eq_nil_iff.mpr, List.filter_eq_nil_iff.mpr]
  · rfl
  · intro t ht
    simp only [decide_eq_true_eq]
    exact fun z => h ⟨t, ht, .inr z⟩
  · intro t ht
    simp only [decide_eq_true_eq]
    exact fun z => h ⟨t, ht, .inl z⟩
end
end RM
namespace RM
open PySem PySem.Spec PyProof.Rows L2 CS RZ
/-! ### k09: the law's side -/
end RM
namespace RM
open PySem PySem.Spec PyProof.Rows L2 CS RZ
/-! ### k09: why none, the end -/
end RM
namespace RM
open PySem PySem.Spec PyProof.Rows L2 CS RZ
/-! ### k09: a case -/
end RM
namespace RM
open PySem PySem.Spec PyProof.Rows L2 CS RZ
/-! ### k09: a drawn turn -/
theorem tag_none : ∀ s ∈ tagPool, s ≠ "none" := by decide +kernel
theorem pc_of {s : Str} {l : List Tri} (hF : Fine l) (hg : GoodL l) (hl : l.length ≤ 30) (gs : GoodS s) (ns : s ≠ "none") (nl : ∀ t ∈ l, t.1 ≠ "none" ∧ t.2.1 ≠ "none") : Pc s (canon l) where
  cn := cn_canon hF hg hl
  gs := gs
  ll := by have := canon_len l; omega
  nn := fun p hp => by
    rcases (places_mem p).mp hp with rfl | ⟨t, ht, e⟩
    · exact ns
    · obtain ⟨u, hu, e2⟩ := List.mem_map.mp (canon_mem ht).1
      have e1 : u.1 = t.1 := congrArg (fun p : Str × Str => p.1) e2
      have e3 : u.2.1 = t.2.1 := congrArg (fun p : Str × Str => p.2) e2
      rcases e with rfl | rfl
      · rw [← e1]
        exact (nl u hu).1
      · rw [← e3]
        exact (nl u hu).2
end RM
namespace RM
open PySem PySem.Spec PyProof.Rows L2 CS RZ
/-! ### k09 by hand -/
end RM
namespace RM
open PySem PySem.Spec PyProof.Rows L2 CS RZ
/-! ### k09 by hand, row by row -/
end RM
namespace RM
open PySem PySem.Spec PyProof.Rows L2 CS RZ
/-! ### an own error that keeps nothing, looked up -/
end RM
namespace RM
open PySem PySem.Spec PyProof.Rows L2 CS RZ
/-! ### steps that can be gone through: as many out as in, and all hang together -/
abbrev Ed := Str × Str
def outN (E : List Ed) (v : Str) : Nat := E.countP fun e => decide (e.1 = v)
def inN (E : List Ed) (v : Str) : Nat := E.countP fun e => decide (e.2 = v)
def one (a b : Str) : Int := if a = b then 1 else 0
def Deg (E : List Ed) (u t : Str) : Prop := ∀ v, (outN E v : Int) - inN E v = one v u - one v t
def Bal (E : List Ed) : Prop := ∀ v, outN E v = inN E v
def endOf : Str → List Str → Str
  | u, [] => u
  | _, b :: q => endOf b q
theorem bal_of {E : List Ed} {t : Str} (h : Deg E t t) : Bal E := fun v => by
  have := h v
  omega
theorem deg_of {E : List Ed} (t : Str) (h : Bal E) : Deg E t t := fun v => by
  have := h v
  omega
theorem outN_perm {E F : List Ed} (h : E.Perm F) (v : Str) : outN E v = outN F v := h.countP_eq _
theorem inN_perm {E F : List Ed} (h : E.Perm F) (v : Str) : inN E v = inN F v := h.countP_eq _
theorem outN_cons (e : Ed) (E : List Ed) (v : Str) : (outN (e :: E) v : Int) = outN E v + one v e.1 := by
  unfold outN one
  rw [List.countP_cons]
  by_cases c : e.1 = v
  · rw [decide_eq_true c, if_pos rfl, if_pos c.symm]
    rfl
  · rw [decide_eq_false c, if_neg (by decide), if_neg (Ne.symm c)]
    rfl
theorem inN_cons (e : Ed) (E : List Ed) (v : Str) : (inN (e :: E) v : Int) = inN E v + one v e.2 := by
  unfold inN one
  rw [List.countP_cons]
  by_cases c : e.2 = v
  · rw [decide_eq_true c, if_pos rfl, if_pos c.symm]
    rfl
  · rw [decide_eq_false c, if_neg (by decide), if_neg (Ne.symm c)]
    rfl
theorem outN_pos {E : List Ed} {v : Str} : 0 < outN E v ↔ ∃ e ∈ E, e.1 = v := by
  unfold outN
  rw [List.countP_pos_iff]
  simp only [decide_eq_true_eq]
theorem inN_pos {E : List Ed} {v : Str} : 0 < inN E v ↔ ∃ e ∈ E, e.2 = v := by
  unfold inN
  rw [List.countP_pos_iff]
  simp only [decide_eq_true_eq]
/-- one step is gone -/
theorem deg_step {R R1 : List Ed} {u b t : Str} (hp : R.Perm ((u, b) :: R1)) (h : Deg R u t) : Deg R1 b t := fun v => by
  have h1 := h v
  rw [outN_perm hp, inN_perm hp, outN_cons, inN_cons] at h1
  dsimp only at h1
  omega
theorem split_at {R : List Ed} {e : Ed} (h : e ∈ R) : ∃ R1 : List Ed, R.Perm (e :: R1) := by
  obtain ⟨a, b, rfl⟩ := List.append_of_mem h
  exact ⟨a ++ b, List.perm_middle⟩
/-- on and on, until one cannot go on: that is at t -/
theorem go_on {t : Str} : ∀ (k : Nat) (R : List Ed) (u : Str), R.length ≤ k → Deg R u t → ∃ (p : List Str) (R' : List Ed), (pairsOf (u :: p) ++ R').Perm R ∧ endOf u p = t ∧ Bal R' := by
  intro k
  induction k with
  | zero =>
    intro R u hl h
    have : R = [] := List.length_eq_zero_iff.mp (by omega)
    subst this
    have h1 := h u
    have e1 : one u u = 1 := if_pos rfl
    have e2 : ((outN [] u : Nat) : Int) = 0 := rfl
    have e3 : ((inN [] u : Nat) : Int) = 0 := rfl
    rw [e1, e2, e3] at h1
    by_cases c : u = t
    · subst c
      exact ⟨[], [], .nil, rfl, bal_of h⟩
    · have e4 : one u t = 0 := if_neg c
      omega
  | succ k ih =>
    intro R u hl h
    by_cases c : ∃ e ∈ R, e.1 = u
    · obtain ⟨⟨a, b⟩, he, rfl⟩ := c
      obtain ⟨R1, hp⟩ := split_at he
      have hl1 := hp.length_eq
      rw [List.length_cons] at hl1
      obtain ⟨p, R', h1, h2, h3⟩ := ih R1 b (by omega) (deg_step hp h)
      exact ⟨b :: p, R', (List.Perm.cons (a, b) h1).trans hp.symm, h2, h3⟩
    · have h0 : outN R u = 0 := by
        have : ¬ 0 < outN R u := fun z => c (outN_pos.mp z)
        omega
      have h1 := h u
      have e1 : one u u = 1 := if_pos rfl
      rw [e1, h0] at h1
      by_cases c2 : u = t
      · subst c2
        exact ⟨[], R, .refl _, rfl, bal_of h⟩
      · have e4 : one u t = 0 := if_neg c2
        omega
/-- a round from x -/
theorem go_round {R : List Ed} {x : Str} (h : Bal R) (hx : ∃ e ∈ R, e.1 = x) : ∃ (p : List Str) (R' : List Ed), p ≠ [] ∧ (pairsOf (x :: p) ++ R').Perm R ∧ endOf x p = x ∧ Bal R' := by
  obtain ⟨⟨a, b⟩, he, rfl⟩ := hx
  obtain ⟨R1, hp⟩ := split_at he
  obtain ⟨p, R', h1, h2, h3⟩ := go_on R1.length R1 b (Nat.le_refl _) (deg_step hp (deg_of a h))
  exact ⟨b :: p, R', by simp, (List.Perm.cons (a, b) h1).trans hp.symm, h2, h3⟩
theorem end_app : ∀ (u : Str) (p r : List Str), endOf u (p ++ r) = endOf (endOf u p) r
  | u, [], r => rfl
  | u, b :: p, r => end_app b p r
theorem pairs_app : ∀ (u : Str) (p r : List Str), pairsOf (u :: (p ++ r)) = pairsOf (u :: p) ++ pairsOf (endOf u p :: r)
  | u, [], r => rfl
  | u, b :: p, r => by
    show (u, b) :: pairsOf (b :: (p ++ r)) = (u, b) :: (pairsOf (b :: p) ++ pairsOf (endOf b p :: r))
    rw [pairs_app b p r]
theorem pairs_in : ∀ (u : Str) (p : List Str) (e : Ed), e ∈ pairsOf (u :: p) → e.1 ∈ u :: p ∧ e.2 ∈ u :: p := fun u p e h => pairs_both (u :: p) e h
/-- a round is put in where the way comes by -/
theorem put_in {s x : Str} {p c : List Str} (hx : x ∈ s :: p) (hc : endOf x c = x) : ∃ p' : List Str, (pairsOf (s :: p')).Perm (pairsOf (s :: p) ++ pairsOf (x :: c)) ∧ endOf s p' = endOf s p := by
  have key : ∀ (a b : List Str), endOf s a = x → ∃ p' : List Str, (pairsOf (s :: p')).Perm (pairsOf (s :: (a ++ b)) ++ pairsOf (x :: c)) ∧ endOf s p' = endOf s (a ++ b) := fun a b ha => by
    refine ⟨a ++ (c ++ b), ?_, by rw [end_app, end_app, end_app, ha, hc]⟩
    rw [pairs_app s a (c ++ b), ha, pairs_app x c b, hc, pairs_app s a b, ha, List.append_assoc]
    exact List.Perm.append_left _ List.perm_append_comm
  rcases List.mem_cons.mp hx with rfl | hx
  · exact key [] p rfl
  · obtain ⟨a, b, rfl⟩ := List.append_of_mem hx
    have : a ++ x :: b = (a ++ [x]) ++ b := by rw [List.append_assoc]; rfl
    rw [this]
    exact key (a ++ [x]) b (by rw [end_app]; rfl)
def Hang (E : List Ed) (s : Str) : Prop := ∀ V : Str → Prop, V s → (∀ e ∈ E, V e.1 ↔ V e.2) → ∀ e ∈ E, V e.1
theorem put_all {E : List Ed} {s t : Str} (hg : Hang E s) : ∀ (k : Nat) (p : List Str) (R : List Ed), R.length ≤ k → (pairsOf (s :: p) ++ R).Perm E → endOf s p = t → Bal R → ∃ p' : List Str, (pairsOf (s :: p')).Perm E ∧ endOf s p' = t := by
  intro k
  induction k with
  | zero =>
    intro p R hl h1 h2 _
    have : R = [] := List.length_eq_zero_iff.mp (by omega)
    subst this
    rw [List.append_nil] at h1
    exact ⟨p, h1, h2⟩
  | succ k ih =>
    intro p R hl h1 h2 h3
    by_cases c : ∃ e ∈ R, e.1 ∈ s :: p
    · obtain ⟨e, he, hx⟩ := c
      obtain ⟨q, R', n1, n2, n3, n4⟩ := go_round h3 ⟨e, he, rfl⟩
      obtain ⟨p', m1, m2⟩ := put_in hx n3
      have hl2 := n2.length_eq
      rw [List.length_append] at hl2
      have hl3 : 0 < (pairsOf (e.1 :: q)).length := by
        cases q with
        | nil => exact (n1 rfl).elim
        | cons b q => exact Nat.succ_pos _
      refine ih p' R' (by omega) ?_ (m2.trans h2) n4
      refine ((m1.append_right R').trans ?_).trans h1
      rw [List.append_assoc]
      exact n2.append_left _
    · by_cases hR : R = []
      · subst hR
        rw [List.append_nil] at h1
        exact ⟨p, h1, h2⟩
      · exfalso
        have c2 : ∀ e ∈ R, e.2 ∉ s :: p := fun e he hz => by
          have : 0 < outN R e.2 := by
            rw [h3 e.2]
            exact inN_pos.mpr ⟨e, he, rfl⟩
          obtain ⟨e', he', q⟩ := outN_pos.mp this
          exact c ⟨e', he', by rw [q]; exact hz⟩
        have all := hg (fun v => v ∈ s :: p) (List.mem_cons_self ..) fun e he => by
          rcases List.mem_append.mp (h1.mem_iff.mpr he) with h | h
          · have := pairs_in s p e h
            exact ⟨fun _ => this.2, fun _ => this.1⟩
          · exact ⟨fun z => (c ⟨e, h, z⟩).elim, fun z => (c2 e h z).elim⟩
        cases R with
        | nil => exact hR rfl
        | cons e R => exact c ⟨e, List.mem_cons_self .., all e (h1.mem_iff.mp (List.mem_append_right _ (List.mem_cons_self ..)))⟩
/-- there is a way -/
theorem way_is {E : List Ed} {s t : Str} (hd : Deg E s t) (hg : Hang E s) : ∃ p : List Str, (pairsOf (s :: p)).Perm E ∧ endOf s p = t := by
  obtain ⟨p, R, h1, h2, h3⟩ := go_on E.length E s (Nat.le_refl _) hd
  exact put_all hg R.length p R (Nat.le_refl _) h1 h2 h3
/-- and what a way has -/
theorem way_deg : ∀ (s : Str) (p : List Str), Deg (pairsOf (s :: p)) s (endOf s p)
  | s, [] => fun v => by
    show ((outN [] v : Nat) : Int) - (inN [] v : Nat) = one v s - one v s
    have e2 : ((outN [] v : Nat) : Int) = 0 := rfl
    have e3 : ((inN [] v : Nat) : Int) = 0 := rfl
    omega
  | s, b :: p => fun v => by
    have ih := way_deg b p v
    show ((outN ((s, b) :: pairsOf (b :: p)) v : Nat) : Int) - (inN ((s, b) :: pairsOf (b :: p)) v : Nat) = one v s - one v (endOf b p)
    rw [outN_cons, inN_cons]
    show _ + one v s - (_ + one v b) = _
    omega
theorem way_hang : ∀ (s : Str) (p : List Str) (V : Str → Prop), V s → (∀ e ∈ pairsOf (s :: p), V e.1 ↔ V e.2) → ∀ x ∈ s :: p, V x
  | s, [], V, hs, _ => fun x hx => by rw [List.mem_singleton.mp hx]; exact hs
  | s, b :: p, V, hs, h => fun x hx => by
    rcases List.mem_cons.mp hx with rfl | hx
    · exact hs
    · exact way_hang b p V ((h (s, b) (List.mem_cons_self ..)).mp hs) (fun e he => h e (List.mem_cons_of_mem _ he)) x hx
end RM
namespace RM
open PySem PySem.Spec PyProof.Rows L2 CS RZ
/-! ### a Counts is had exactly if some way makes its steps -/
def exL (L : List Tri) : List Ed := L.flatMap fun t => List.replicate t.2.2.toNat (pr t)
theorem over_eq (L : List Tri) (p : Str) : over L p = outsT L p - insT L p := rfl
theorem out_ex : ∀ (L : List Tri) (v : Str), (∀ t ∈ L, 0 ≤ t.2.2) → (outN (exL L) v : Int) = outsT L v
  | [], v, _ => rfl
  | t :: L, v, h => by
    have ih := out_ex L v fun u hu => h u (List.mem_cons_of_mem _ hu)
    have h0 := h t (List.mem_cons_self ..)
    have e1 : exL (t :: L) = List.replicate t.2.2.toNat (pr t) ++ exL L := by unfold exL; rw [List.flatMap_cons]
    rw [e1, outsT_cons, ← ih]
    unfold outN
    rw [List.countP_append, List.countP_replicate]
    show ((((if decide (t.1 = v) = true then t.2.2.toNat else 0) + List.countP (fun e : Ed => decide (e.1 = v)) (exL L)) : Nat) : Int) = _
    by_cases c : t.1 = v
    · rw [decide_eq_true c, if_pos rfl, if_pos c]
      omega
    · rw [decide_eq_false c, if_neg (by decide), if_neg c]
      omega
theorem in_ex : ∀ (L : List Tri) (v : Str), (∀ t ∈ L, 0 ≤ t.2.2) → (inN (exL L) v : Int) = insT L v
  | [], v, _ => rfl
  | t :: L, v, h => by
    have ih := in_ex L v fun u hu => h u (List.mem_cons_of_mem _ hu)
    have h0 := h t (List.mem_cons_self ..)
    have e1 : exL (t :: L) = List.replicate t.2.2.toNat (pr t) ++ exL L := by unfold exL; rw [List.flatMap_cons]
    rw [e1, insT_cons, ← ih]
    unfold inN
    rw [List.countP_append, List.countP_replicate]
    show ((((if decide (t.2.1 = v) = true then t.2.2.toNat else 0) + List.countP (fun e : Ed => decide (e.2 = v)) (exL L)) : Nat) : Int) = _
    by_cases c : t.2.1 = v
    · rw [decide_eq_true c, if_pos rfl, if_pos c]
      omega
    · rw [decide_eq_false c, if_neg (by decide), if_neg c]
      omega
theorem deg_ex {L : List Tri} {u t : Str} (h : ∀ t ∈ L, 0 ≤ t.2.2) : Deg (exL L) u t ↔ ∀ v, over L v = one v u - one v t := by
  constructor
  · intro d v
    rw [over_eq, ← out_ex L v h, ← in_ex L v h]
    exact d v
  · intro d v
    rw [out_ex L v h, in_ex L v h, ← over_eq]
    exact d v
theorem mem_ex {L : List Tri} (hp : ∀ t ∈ L, 0 < t.2.2) (e : Ed) : e ∈ exL L ↔ e ∈ L.map pr := by
  unfold exL
  rw [List.mem_flatMap, List.mem_map]
  constructor
  · rintro ⟨t, ht, h⟩
    exact ⟨t, ht, (List.mem_replicate.mp h).2.symm⟩
  · rintro ⟨t, ht, rfl⟩
    have := hp t ht
    exact ⟨t, ht, List.mem_replicate.mpr ⟨by omega, rfl⟩⟩
/-! labels: what they hold together -/
/-! sums over the places -/
end RM
namespace RM
open PySem PySem.Spec PyProof.Rows L2 CS RZ
/-! ### had: some way makes the steps; all ways end at endS -/
def Way (s : Str) (L : List Tri) (p : List Str) : Prop := (pairsOf (s :: p)).Perm (exL L)
section
variable {s : Str} {L : List Tri}
theorem way_over (hp : ∀ t ∈ L, 0 < t.2.2) {p : List Str} (w : Way s L p) : ∀ v, over L v = one v s - one v (endOf s p) :=
  (deg_ex fun t ht => Int.le_of_lt (hp t ht)).mp fun v => by
    have := way_deg s p v
    rw [outN_perm w, inN_perm w] at this
    exact this
theorem one_le (a b : Str) : one a b = 0 ∨ one a b = 1 := by
  unfold one
  split
  · exact .inr rfl
  · exact .inl rfl
theorem way_end (hp : ∀ t ∈ L, 0 < t.2.2) {p : List Str} (w : Way s L p) : endS s L = endOf s p := by
  have h := way_over hp w
  unfold endS
  cases e : (oversL s L).find? fun q => decide (over L q < 0) with
  | some q =>
    have h0 := List.find?_some e
    have h1 : over L q < 0 := of_decide_eq_true h0
    rw [h q] at h1
    have a1 := one_le q s
    by_cases c : q = endOf s p
    · exact c
    · have : one q (endOf s p) = 0 := if_neg c
      omega
  | none =>
    have h1 := List.find?_eq_none.mp e
    by_cases c : s = endOf s p
    · exact c
    · exfalso
      have e1 : one (endOf s p) (endOf s p) = 1 := if_pos rfl
      have e2 : one (endOf s p) s = 0 := if_neg (Ne.symm c)
      have ho := h (endOf s p)
      rw [e1, e2] at ho
      have hin : endOf s p ∈ placesL s L := by
        by_cases z : endOf s p ∈ placesL s L
        · exact z
        · have := over_none (L := L) (p := endOf s p) fun q => z ((places_mem _).mpr (.inr q))
          omega
      have := h1 (endOf s p) (List.mem_filter.mpr ⟨hin, by rw [ho]; decide⟩)
      rw [ho] at this
      exact this (by decide)
end
end RM
namespace RM
open PySem PySem.Spec PyProof.Rows L2 CS RZ
/-! ### one step less -/
def lessT (L : List Tri) (e : Ed) : List Tri := (leftT L [(e.1, e.2, 1)]).filter fun t => decide (0 < t.2.2)
def minus1 (e : Ed) (t : Tri) : Tri := (t.1, t.2.1, t.2.2 - if e = pr t then 1 else 0)
theorem left_one (L : List Tri) (e : Ed) : leftT L [(e.1, e.2, 1)] = L.map (minus1 e) := by
  unfold leftT
  refine List.map_congr_left fun t _ => ?_
  show (t.1, t.2.1, t.2.2 - numAt [(e.1, e.2, 1)] (pr t)) = _
  rw [numAt_cons]
  show (t.1, t.2.1, t.2.2 - if e = pr t then 1 else numAt [] (pr t)) = _
  rfl
theorem pr_minus (e : Ed) (t : Tri) : pr (minus1 e t) = pr t := rfl
section
variable {L : List Tri} {e : Ed}
theorem less_mem {t : Tri} (ht : t ∈ lessT L e) : ∃ u ∈ L, pr u = pr t ∧ 0 < t.2.2 := by
  obtain ⟨h1, h2⟩ := List.mem_filter.mp ht
  rw [left_one] at h1
  obtain ⟨u, hu, rfl⟩ := List.mem_map.mp h1
  exact ⟨u, hu, rfl, of_decide_eq_true h2⟩
theorem less_pr : ((lessT L e).map pr).Sublist (L.map pr) := by
  unfold lessT
  rw [left_one]
  have h1 : ((L.map (minus1 e)).map pr) = L.map pr := by rw [List.map_map]; rfl
  rw [← h1]
  exact List.filter_sublist.map pr
theorem less_cn (c : Cn L) : Cn (lessT L e) where
  g := fun t ht => by
    obtain ⟨u, hu, q, _⟩ := less_mem ht
    rw [← q]
    exact c.g u hu
  fine := fun t ht => by
    obtain ⟨u, hu, q, q2⟩ := less_mem ht
    have h1 : u.1 = t.1 := congrArg (fun p : Str × Str => p.1) q
    have h2 : u.2.1 = t.2.1 := congrArg (fun p : Str × Str => p.2) q
    rw [← h1, ← h2]
    exact ⟨(c.fine u hu).1, Int.le_of_lt q2⟩
  pos := fun t ht => (less_mem ht).choose_spec.2.2
  len := by
    have := less_pr (L := L) (e := e).length_le
    rw [List.length_map, List.length_map] at this
    exact Nat.le_trans this c.len
  nd := c.nd.sublist less_pr
  pw := c.pw.sublist less_pr
theorem ex_filter : ∀ l : List Tri, exL (l.filter fun t => decide (0 < t.2.2)) = exL l
  | [] => rfl
  | t :: l => by
    have ih := ex_filter l
    have e1 : exL (t :: l) = List.replicate t.2.2.toNat (pr t) ++ exL l := by unfold exL; rw [List.flatMap_cons]
    rw [List.filter_cons, e1, ← ih]
    by_cases c : 0 < t.2.2
    · rw [if_pos (decide_eq_true c)]
      unfold exL
      rw [List.flatMap_cons]
    · rw [if_neg (by simpa using c)]
      have : t.2.2.toNat = 0 := by omega
      rw [this]
      rfl
theorem minus_same : ∀ l : List Tri, (∀ t ∈ l, pr t ≠ e) → l.map (minus1 e) = l
  | [], _ => rfl
  | t :: l, h => by
    rw [List.map_cons, minus_same l fun u hu => h u (List.mem_cons_of_mem _ hu)]
    congr 1
    have := h t (List.mem_cons_self ..)
    show (t.1, t.2.1, t.2.2 - if e = pr t then 1 else 0) = t
    rw [if_neg (Ne.symm this), Int.sub_zero]
theorem less_perm (c : Cn L) (he : e ∈ L.map pr) : (exL L).Perm (e :: exL (lessT L e)) := by
  unfold lessT
  rw [ex_filter, left_one]
  obtain ⟨t, ht, rfl⟩ := List.mem_map.mp he
  obtain ⟨A, B, rfl⟩ := List.append_of_mem ht
  have nd := c.nd
  rw [List.map_append, List.map_cons] at nd
  have nA : ∀ u ∈ A, pr u ≠ pr t := fun u hu q => (List.nodup_append.mp nd).2.2 (pr u) (List.mem_map_of_mem hu) (pr t) (List.mem_cons_self ..) q
  have nB : ∀ u ∈ B, pr u ≠ pr t := fun u hu q => (List.nodup_cons.mp (List.nodup_append.mp nd).2.1).1 (by rw [← q]; exact List.mem_map_of_mem hu)
  have hp := c.pos t ht
  rw [List.map_append, List.map_cons, minus_same A nA, minus_same B nB]
  have e1 : ∀ u : Tri, exL (A ++ u :: B) = exL A ++ (List.replicate u.2.2.toNat (pr u) ++ exL B) := fun u => by
    unfold exL
    rw [List.flatMap_append, List.flatMap_cons]
  rw [e1, e1]
  have e2 : (minus1 (pr t) t).2.2.toNat = t.2.2.toNat - 1 := by
    show (t.2.2 - if pr t = pr t then 1 else 0).toNat = _
    rw [if_pos rfl]
    omega
  rw [e2, pr_minus]
  have e3 : t.2.2.toNat = (t.2.2.toNat - 1) + 1 := by omega
  have e4 : List.replicate t.2.2.toNat (pr t) = pr t :: List.replicate (t.2.2.toNat - 1) (pr t) := by
    rw [e3, List.replicate_succ]
    rfl
  rw [e4]
  exact List.perm_middle
end
section
variable {s b : Str} {L : List Tri} {p : List Str}
theorem ex_len : ∀ L : List Tri, (∀ t ∈ L, 0 ≤ t.2.2) → ((exL L).length : Int) = (L.map fun t => t.2.2).sum
  | [], _ => rfl
  | t :: l, h => by
    have ih := ex_len l fun u hu => h u (List.mem_cons_of_mem _ hu)
    have h0 := h t (List.mem_cons_self ..)
    have e1 : exL (t :: l) = List.replicate t.2.2.toNat (pr t) ++ exL l := by unfold exL; rw [List.flatMap_cons]
    rw [e1, List.length_append, List.length_replicate, List.map_cons, List.sum_cons, ← ih]
    omega
/-- the first steps of all ways -/
def openS (s : Str) (L : List Tri) : List Str := ((L.filter fun t => decide (t.1 = s)).map fun t => t.2.1).filter fun b => hadL b (lessT L (s, b))
end
end RM
namespace RM
open PySem PySem.Spec PyProof.Rows L2 CS RZ
/-! ### not in, of an own class -/
/-! ### gone, open_steps, some_journey -/
end RM
namespace RM
open PySem PySem.Spec PyProof.Rows L2 CS RZ
/-! ### a, b = [], [..]: two new lists -/
end RM
namespace RM
open PySem PySem.Spec PyProof.Rows L2 CS RZ
/-! ### all ways, by following -/
abbrev Nd := List Str × Str × List Tri
def kids (L : List Tri) (u : Str) : List Tri := L.filter fun t => decide (t.1 = u)
def kid (x : Nd) (t : Tri) : Nd := (x.1 ++ [x.2.1], t.2.1, lessT x.2.2 (pr t))
def nodes : Nat → Nd → Nat
  | 0, _ => 1
  | m + 1, x => 1 + ((kids x.2.2 x.2.1).map fun t => nodes m (kid x t)).sum
def sz (x : Nd) : Nat := (exL x.2.2).length
abbrev nn (x : Nd) : Nat := nodes (sz x) x
structure NOk (x : Nd) : Prop where
  g : ∀ y ∈ x.1 ++ [x.2.1], GoodS y
  c : Cn x.2.2
  l : x.1.length + sz x ≤ 50
theorem kids_in {L : List Tri} {u : Str} {t : Tri} (h : t ∈ kids L u) : t ∈ L ∧ t.1 = u := by
  obtain ⟨h1, h2⟩ := List.mem_filter.mp h
  exact ⟨h1, of_decide_eq_true h2⟩
theorem kid_sz {x : Nd} {t : Tri} (c : Cn x.2.2) (h : t ∈ x.2.2) : sz x = sz (kid x t) + 1 := (less_perm (e := pr t) c (List.mem_map_of_mem h)).length_eq
theorem NOk.kid {x : Nd} (h : NOk x) {t : Tri} (ht : t ∈ kids x.2.2 x.2.1) : NOk (kid x t) where
  g := fun y hy => by
    rcases List.mem_append.mp hy with hy | hy
    · exact h.g y hy
    · rw [List.mem_singleton.mp hy]
      exact (h.c.g t (kids_in ht).1).2
  c := less_cn h.c
  l := by
    have := kid_sz h.c (kids_in ht).1
    have := h.l
    show (x.1 ++ [x.2.1]).length + _ ≤ 50
    rw [List.length_append, List.length_singleton]
    omega
/-! how many there can be -/
def nb : Nat → Nat
  | 0 => 1
  | m + 1 => 1 + (m + 1) * nb m
theorem sum_bound {α : Type} (f : α → Nat) (k : Nat) : ∀ l : List α, (∀ a ∈ l, f a ≤ k) → (l.map f).sum ≤ l.length * k
  | [], _ => Nat.zero_le _
  | a :: l, h => by
    have h1 := h a (List.mem_cons_self ..)
    have h2 := sum_bound f k l fun b hb => h b (List.mem_cons_of_mem _ hb)
    rw [List.map_cons, List.sum_cons, List.length_cons, Nat.add_mul]
    omega
theorem len_ex : ∀ L : List Tri, (∀ t ∈ L, 0 < t.2.2) → L.length ≤ (exL L).length
  | [], _ => Nat.le_refl _
  | t :: L, h => by
    have ih := len_ex L fun u hu => h u (List.mem_cons_of_mem _ hu)
    have h0 := h t (List.mem_cons_self ..)
    have e1 : exL (t :: L) = List.replicate t.2.2.toNat (pr t) ++ exL L := by unfold exL; rw [List.flatMap_cons]
    rw [e1, List.length_append, List.length_replicate, List.length_cons]
    omega
/-! what they are -/
end RM
namespace RM
open PySem PySem.Spec PyProof.Rows L2 CS RZ
/-! ### k10: one less, and all ways, over data -/
end RM
namespace RM
open PySem PySem.Spec PyProof.Rows L2 CS RZ
/-! ### k10: a case -/
end RM
namespace RM
open PySem PySem.Spec PyProof.Rows L2 CS RZ
/-! ### sorted(set(e)), e a long list of few texts -/
end RM
namespace RM
open PySem PySem.Spec PyProof.Rows L2 CS RZ
/-! ### k10: the case, to its end -/
end RM
namespace RM
open PySem PySem.Spec PyProof.Rows L2 CS RZ
/-! ### k10: near, and a drawn turn -/
def totT (l : List Tri) : Int := (l.map fun t => t.2.2).sum
theorem totT_cons (t : Tri) (l : List Tri) : totT (t :: l) = t.2.2 + totT l := by
  unfold totT
  rw [List.map_cons, List.sum_cons]
theorem some_of : ∀ (ps : List (Str × Str)) (q : Str × Str) (x : Int), ps.Nodup → 0 ≤ x → (ps.map fun p => if q = p then x else 0).sum ≤ x
  | [], q, x, _, h => h
  | p :: ps, q, x, hn, h => by
    obtain ⟨h1, h2⟩ := List.nodup_cons.mp hn
    rw [List.map_cons, List.sum_cons]
    by_cases c : q = p
    · rw [if_pos c]
      have : (ps.map fun p => if q = p then x else 0).sum = 0 := by
        have key : ∀ ps : List (Str × Str), q ∉ ps → (ps.map fun p => if q = p then x else 0).sum = 0 := by
          intro ps
          induction ps with
          | nil => intro _; rfl
          | cons a ps ih =>
            intro hq
            rw [List.mem_cons, not_or] at hq
            rw [List.map_cons, List.sum_cons, if_neg hq.1, ih hq.2]
            rfl
        exact key ps (c ▸ h1)
      omega
    · rw [if_neg c]
      have := some_of ps q x h2 h
      omega
theorem sum_some (ps : List (Str × Str)) (hn : ps.Nodup) : ∀ l : List Tri, (∀ t ∈ l, 0 ≤ t.2.2) → (ps.map (sumAt l)).sum ≤ totT l
  | [], _ => by
    have key : ∀ ps : List (Str × Str), (ps.map (sumAt [])).sum = 0 := by
      intro ps
      induction ps with
      | nil => rfl
      | cons a ps ih =>
        rw [List.map_cons, List.sum_cons, ih]
        rfl
    rw [key]
    exact Int.le_refl 0
  | t :: l, h => by
    have h1 := sum_some ps hn l fun u hu => h u (List.mem_cons_of_mem _ hu)
    have h2 := some_of ps (pr t) t.2.2 hn (h t (List.mem_cons_self ..))
    rw [totT_cons]
    have key : ∀ ps : List (Str × Str), (ps.map (sumAt (t :: l))).sum = (ps.map fun p => if pr t = p then t.2.2 else 0).sum + (ps.map (sumAt l)).sum := by
      intro ps
      induction ps with
      | nil => rfl
      | cons a ps ih =>
        simp only [List.map_cons, List.sum_cons]
        rw [ih, sumAt_cons]
        omega
    rw [key]
    omega
theorem tot_canon {l : List Tri} (h : ∀ t ∈ l, 0 ≤ t.2.2) : totT (canon l) ≤ totT l := by
  have e1 : totT (canon l) = (((canon l).map pr).map (sumAt l)).sum := by
    unfold totT
    rw [List.map_map]
    exact congrArg List.sum (List.map_congr_left fun t ht => (canon_mem ht).2.2)
  rw [e1]
  exact sum_some _ (canon_nodup l) l h
structure Nc (m : Int) (ss : List Str) (l : List Tri) : Prop where
  ok : ∀ t ∈ l, t.1 ∈ ss ∧ t.2.1 ∈ ss ∧ t.1 ≠ t.2.1 ∧ 0 ≤ t.2.2
  len : l.length ≤ 30
  tot : totT l ≤ m
theorem Nc.fine {m : Int} {ss : List Str} {l : List Tri} (h : Nc m ss l) : Fine l := fun t ht => (h.ok t ht).2.2
theorem Nc.ex {ss : List Str} {l : List Tri} (h : Nc 10 ss l) : (exL (canon l)).length ≤ 10 := by
  have h1 := ex_len (canon l) fun t ht => Int.le_of_lt (canon_mem ht).2.1
  have h2 := tot_canon fun t ht => (h.ok t ht).2.2.2
  have h3 := h.tot
  unfold totT at h2 h3
  omega
/-! ### a drawn turn -/
end RM
namespace RM
open PySem PySem.Spec PyProof.Rows L2 CS RZ
/-! ### a value-level expression inside a bare one -/
/-! ### k10: the six given cases -/
end RM
namespace RM
open PySem PySem.Spec PyProof.Rows L2 CS RZ
/-! ### k11: the first of all journeys is the least one -/
end RM
namespace RM
open PySem PySem.Spec PyProof.Rows L2 CS RZ
/-! ### all journeys of at most eleven steps over at most six places -/
theorem nd_len : ∀ (xs ss : List Str), xs.Nodup → (∀ x ∈ xs, x ∈ ss) → xs.length ≤ ss.length
  | [], _, _, _ => Nat.zero_le _
  | x :: xs, ss, hn, h => by
    obtain ⟨h1, h2⟩ := List.nodup_cons.mp hn
    have h3 := h x (List.mem_cons_self ..)
    have h4 := nd_len xs (ss.erase x) h2 fun y hy => (List.mem_erase_of_ne (fun z : y = x => h1 (by rw [← z]; exact hy))).mpr (h y (List.mem_cons_of_mem _ hy))
    have h5 := List.length_erase_of_mem h3
    have h6 := List.length_pos_of_mem h3
    rw [List.length_cons]
    omega
def nb5 : Nat → Nat
  | 0 => 1
  | m + 1 => 1 + min (m + 1) 5 * nb5 m
theorem nb5_eleven : nb5 11 = 5097656 := by decide
theorem nb5_mono : ∀ {a b : Nat}, a ≤ b → nb5 a ≤ nb5 b
  | a, 0, h => by
    have : a = 0 := by omega
    rw [this]
    exact Nat.le_refl _
  | a, b + 1, h => by
    by_cases c : a = b + 1
    · rw [c]
      exact Nat.le_refl _
    · have h1 := nb5_mono (a := a) (b := b) (by omega)
      show nb5 a ≤ 1 + min (b + 1) 5 * nb5 b
      have h2 : nb5 b ≤ min (b + 1) 5 * nb5 b := Nat.le_mul_of_pos_left _ (by omega)
      omega
theorem kids_five {L : List Tri} {u : Str} {ss : List Str} (c : Cn L) (h : ∀ t ∈ L, t.1 ∈ ss ∧ t.2.1 ∈ ss) (h6 : ss.length ≤ 6) : (kids L u).length ≤ 5 := by
  cases e : kids L u with
  | nil => exact Nat.zero_le _
  | cons t0 r =>
    rw [← e]
    have hu : u ∈ ss := by
      have h1 := kids_in (L := L) (u := u) (t := t0) (by rw [e]; exact List.mem_cons_self ..)
      rw [← h1.2]
      exact (h t0 h1.1).1
    have nd : ((kids L u).map fun t => t.2.1).Nodup := by
      have nf : ((kids L u).map pr).Nodup := c.nd.sublist (List.filter_sublist.map _)
      refine List.pairwise_map.mpr ((List.pairwise_map.mp nf).imp_of_mem fun {t v} ht hv h z => h ?_)
      show (t.1, t.2.1) = (v.1, v.2.1)
      rw [(kids_in ht).2, (kids_in hv).2, z]
    have := nd_len (u :: (kids L u).map fun t => t.2.1) ss (List.nodup_cons.mpr ⟨fun z => by
      obtain ⟨t, ht, e2⟩ := List.mem_map.mp z
      obtain ⟨h1, h2⟩ := kids_in ht
      exact (c.fine t h1).1 (by rw [h2, e2]), nd⟩) fun y hy => by
      rcases List.mem_cons.mp hy with rfl | hy
      · exact hu
      · obtain ⟨t, ht, rfl⟩ := List.mem_map.mp hy
        exact (h t (kids_in ht).1).2
    rw [List.length_cons, List.length_map] at this
    omega
theorem nodes_five {ss : List Str} (h6 : ss.length ≤ 6) : ∀ (m : Nat) (x : Nd), NOk x → sz x = m → (∀ t ∈ x.2.2, t.1 ∈ ss ∧ t.2.1 ∈ ss) → nodes m x ≤ nb5 m
  | 0, x, _, _, _ => Nat.le_refl _
  | m + 1, x, h, hm, hs => by
    have h1 := sum_bound (fun t => nodes m (kid x t)) (nb5 m) (kids x.2.2 x.2.1) fun t ht => nodes_five h6 m (kid x t) (h.kid ht) (by have := kid_sz h.c (kids_in ht).1; omega) fun u hu => by
      obtain ⟨v, hv, e1, _⟩ := less_mem hu
      have := hs v hv
      have e2 : v.1 = u.1 := congrArg (fun p : Str × Str => p.1) e1
      have e3 : v.2.1 = u.2.1 := congrArg (fun p : Str × Str => p.2) e1
      rw [e2, e3] at this
      exact this
    have h2 : (kids x.2.2 x.2.1).length ≤ m + 1 := by
      have a1 : (kids x.2.2 x.2.1).length ≤ x.2.2.length := List.length_filter_le _ _
      have a2 := len_ex x.2.2 h.c.pos
      have a3 : (exL x.2.2).length = m + 1 := hm
      omega
    have h5 := kids_five (u := x.2.1) h.c hs h6
    have h3 : (kids x.2.2 x.2.1).length * nb5 m ≤ min (m + 1) 5 * nb5 m := Nat.mul_le_mul_right _ (by omega)
    show 1 + _ ≤ 1 + min (m + 1) 5 * nb5 m
    omega
theorem nn_five {ss : List Str} {s : Str} {L : List Tri} (gs : GoodS s) (c : Cn L) (h6 : ss.length ≤ 6) (hs : ∀ t ∈ L, t.1 ∈ ss ∧ t.2.1 ∈ ss) (hl : (exL L).length ≤ 11) : nn ([], s, L) ≤ 9864101 := by
  have ok : NOk ([], s, L) := ⟨fun y hy => by rw [List.mem_singleton.mp hy]; exact gs, c, by show 0 + (exL L).length ≤ 50; omega⟩
  have h1 := nodes_five h6 (sz ([], s, L)) ([], s, L) ok rfl hs
  have h2 := nb5_mono (a := sz ([], s, L)) (b := 11) hl
  rw [nb5_eleven] at h2
  have h3 : nn ([], s, L) = nodes (sz ([], s, L)) ([], s, L) := rfl
  omega
end RM
namespace RM
open PySem PySem.Spec PyProof.Rows L2 CS RZ
/-! ### k11: gone, also where there is no such step -/
end RM
namespace RM
open PySem PySem.Spec PyProof.Rows L2 CS RZ
/-! ### k11: a drawn turn -/
def sdRight11 : SpD := fun ds n k _ => ds = [boxD] ∧ n = 0 ∧ ∀ n', k (.bool true) n'
end RM
namespace RM
open PySem PySem.Spec PyProof.Rows L2 CS RZ
/-! ### k11: what is left, or what lacks -/
end RM
namespace RM
open PySem PySem.Spec PyProof.Rows L2 CS RZ
/-! ### v = f(m); if t: return ..; v.append(e), f's list being new: behind it v is not read -/
end RM
namespace RM
open PySem PySem.Spec PyProof.Rows L2 CS RZ
/-! ### k11: a case, its beginning -/
theorem map_run2 {α : Type} {cg : CG} {tt : CT} {te : CE} {vs : List Nat} {ρ0 : En} {n : Nat} (enc : α → D) (p : α → Bool) (v : α → D) {k : List D → En → Nat → Prop} : ∀ (l : List α) (acc : List D),
    (∀ a ∈ l, ∃ ρ1, cg (enc a) ρ0 = some ρ1 ∧ wipeE ρ1 vs = ρ0 ∧ (∀ K1 : Bool → En → Nat → Prop, K1 (p a) ρ1 n → tt ρ1 n K1 kF) ∧ (p a = true → ∀ K2 : D → En → Nat → Prop, K2 (v a) ρ1 n → te ρ1 n K2 kF)) →
    acc.length + l.length ≤ lim → k (acc ++ (l.filter p).map v) ρ0 n → cLcL cg tt te vs (l.map enc) ρ0 n acc k
  | [], acc, _, _, q => by simpa [cLcL] using q
  | a :: l, acc, h, hl, q => by
    obtain ⟨ρ1, h1, h2, h3, h4⟩ := h a (List.mem_cons_self ..)
    rw [List.length_cons] at hl
    refine ⟨ρ1, h1, h3 _ ?_⟩
    rw [List.filter_cons] at q
    cases c : p a with
    | true =>
      rw [c, if_pos rfl] at q
      refine h4 c _ ⟨by omega, ?_⟩
      rw [h2]
      refine map_run2 enc p v l (acc ++ [v a]) (fun z hz => h z (List.mem_cons_of_mem _ hz)) (by rw [List.length_append, List.length_singleton]; omega) ?_
      simpa using q
    | false =>
      rw [c] at q
      show cLcL cg tt te vs (l.map enc) (wipeE ρ1 vs) n acc k
      rw [h2]
      exact map_run2 enc p v l acc (fun z hz => h z (List.mem_cons_of_mem _ hz)) (by omega) q
end RM
namespace RM
open PySem PySem.Spec PyProof.Rows L2 CS RZ
/-! ### k11: a case, its middle -/
end RM
namespace RM
open PySem PySem.Spec PyProof.Rows L2 CS RZ
/-! ### k11: a case, its end -/
end RM
namespace RM
open PySem PySem.Spec PyProof.Rows L2 CS RZ
/-! ### f(k2 = x, k1 = y): a def called by names, in another order -/
end RM
namespace RM
open PySem PySem.Spec PyProof.Rows L2 CS RZ
/-! ### k11 by hand: what is due -/
end RM
namespace RM
open PySem PySem.Spec PyProof.Rows L2 CS RZ
/-! ### k11 by hand -/
end RM
namespace RM
open PySem PySem.Spec PyProof.Rows L2 CS RZ
/-! ### k13: rounds added to a journey -/
theorem over_ext {l m : List Tri} (h : ∀ p, sumAt l p = sumAt m p) (v : Str) : over l v = over m v := by
  have hc : ∀ p, ends l p → p ∈ placesL v (l ++ m) := fun p ⟨t, ht, q⟩ => (places_mem p).mpr (.inr ⟨t, List.mem_append_left _ ht, q⟩)
  have hd : ∀ p, ends m p → p ∈ placesL v (l ++ m) := fun p ⟨t, ht, q⟩ => (places_mem p).mpr (.inr ⟨t, List.mem_append_right _ ht, q⟩)
  have nd := places_nd (s := v) (L := l ++ m)
  have e1 : ((placesL v (l ++ m)).map fun y => sumAt l (v, y)) = (placesL v (l ++ m)).map fun y => sumAt m (v, y) := List.map_congr_left fun y _ => h _
  have e2 : ((placesL v (l ++ m)).map fun y => sumAt l (y, v)) = (placesL v (l ++ m)).map fun y => sumAt m (y, v) := List.map_congr_left fun y _ => h _
  rw [over_eq, over_eq, ← sum_outs nd v l hc, ← sum_outs nd v m hd, ← sum_ins nd v l hc, ← sum_ins nd v m hd, e1, e2]
theorem over_canon {l : List Tri} (h : Fine l) (v : Str) : over (canon l) v = over l v := over_ext (fun p => sumAt_canon' h p) v
theorem ex_step : ∀ l : List Ed, exL (l.map fun p => ((p.1, p.2, 1) : Tri)) = l
  | [] => rfl
  | p :: l => by
    have ih := ex_step l
    unfold exL at ih ⊢
    rw [List.map_cons, List.flatMap_cons, ih]
    rfl
theorem over_step (s : Str) (p : List Str) (v : Str) : over (stepT (s :: p)) v = one v s - one v (endOf s p) := by
  refine (deg_ex (L := stepT (s :: p)) (fun t ht => ?_)).mp ?_ v
  · obtain ⟨q, _, rfl⟩ := List.mem_map.mp ht
    show (0 : Int) ≤ 1
    decide
  · unfold stepT
    rw [ex_step]
    exact way_deg s p
theorem count_ex : ∀ (L : List Tri) (e : Ed), (∀ t ∈ L, 0 ≤ t.2.2) → ((exL L).count e : Int) = sumAt L e
  | [], e, _ => rfl
  | t :: L, e, h => by
    have ih := count_ex L e fun u hu => h u (List.mem_cons_of_mem _ hu)
    have h0 := h t (List.mem_cons_self ..)
    have e1 : exL (t :: L) = List.replicate t.2.2.toNat (pr t) ++ exL L := by unfold exL; rw [List.flatMap_cons]
    rw [e1, sumAt_cons, ← ih, List.count_append, List.count_replicate]
    by_cases c : pr t = e
    · rw [if_pos c, if_pos (by simpa using c)]
      omega
    · rw [if_neg c, if_neg (by simpa using c)]
      omega
theorem drop_pairs : ∀ (k : Nat) (l : List Str), ∀ e ∈ pairsOf (l.drop k), e ∈ pairsOf l
  | 0, l, e, h => h
  | k + 1, [], e, h => h
  | k + 1, [a], e, h => by
    rw [List.drop_succ_cons, List.drop_nil] at h
    exact h
  | k + 1, a :: b :: l, e, h => by
    rw [List.drop_succ_cons] at h
    exact List.mem_cons_of_mem _ (drop_pairs k (b :: l) e h)
/-- what is found, not yet added up -/
structure Fd (row : List Str) (l : List Tri) : Prop where
  fine : Fine l
  sub : ∀ t ∈ l, pr t ∈ pairsOf row
  ov : ∀ v, over l v = over (stepT row) v
  ge : ∀ e, sumAt (stepT row) e ≤ sumAt l e
theorem step_pr (row : List Str) : (stepT row).map pr = pairsOf row := by
  unfold stepT
  rw [List.map_map]
  exact List.map_id' _
theorem fd_start {row : List Str} (j : Jn row) : Fd row (canon (stepT row)) where
  fine := fine_canon j.fine
  sub := fun t ht => by
    have := (canon_mem ht).1
    rwa [step_pr] at this
  ov := over_canon j.fine
  ge := fun e => by rw [sumAt_canon' j.fine]; exact Int.le_refl _
/-! the Counts of it -/
structure Rd (s : Str) (p : List Str) (L : List Tri) : Prop where
  pc : Pc s L
  ov : ∀ v, over L v = one v s - one v (endOf s p)
  sub : ∀ e ∈ L.map pr, e ∈ pairsOf (s :: p)
  ge : ∀ e, (pairsOf (s :: p)).count e ≤ (exL L).count e
theorem nodup_le {α : Type} [DecidableEq α] : ∀ {a b : List α}, a.Nodup → (∀ x ∈ a, x ∈ b) → a.length ≤ b.length
  | [], _, _, _ => Nat.zero_le _
  | x :: a, b, hn, h => by
    obtain ⟨h1, h2⟩ := List.nodup_cons.mp hn
    have hx := h x (List.mem_cons_self ..)
    have := nodup_le (b := b.erase x) h2 fun y hy => (List.mem_erase_of_ne (fun z : y = x => h1 (z ▸ hy))).mpr (h y (List.mem_cons_of_mem _ hy))
    have l := List.length_erase_of_mem hx
    have : 0 < b.length := List.length_pos_of_mem hx
    rw [List.length_cons]
    omega
theorem rd_of {s : Str} {p : List Str} {l : List Tri} (j : Jn (s :: p)) (hl : (s :: p).length ≤ 31) (hn : ∀ y ∈ s :: p, y ≠ "none") (f : Fd (s :: p) l) : Rd s p (canon l) where
  pc := {
    cn := ⟨good_canon fun t ht => by
        have := pairs_in s p _ (f.sub t ht)
        exact ⟨j.good _ this.1, j.good _ this.2⟩, fine_canon f.fine, fun t ht => (canon_mem ht).2.1, by
        have h1 := nodup_le (b := pairsOf (s :: p)) (canon_nodup l) fun e he => by
          obtain ⟨t, ht, rfl⟩ := List.mem_map.mp he
          obtain ⟨u, hu, q⟩ := List.mem_map.mp (canon_mem ht).1
          rw [← q]
          exact f.sub u hu
        rw [List.length_map, pairs_len] at h1
        omega, canon_nodup l, List.pairwise_map.mpr (canon_pw l)⟩
    gs := j.good s (List.mem_cons_self ..)
    ll := by
      have h1 := nodup_le (b := pairsOf (s :: p)) (canon_nodup l) fun e he => by
        obtain ⟨t, ht, rfl⟩ := List.mem_map.mp he
        obtain ⟨u, hu, q⟩ := List.mem_map.mp (canon_mem ht).1
        rw [← q]
        exact f.sub u hu
      rw [List.length_map, pairs_len] at h1
      omega
    nn := fun y hy => by
      rcases (places_mem y).mp hy with rfl | ⟨t, ht, e⟩
      · exact hn _ (List.mem_cons_self ..)
      · obtain ⟨u, hu, q⟩ := List.mem_map.mp (canon_mem ht).1
        have := pairs_in s p _ (f.sub u hu)
        rw [q] at this
        rcases e with rfl | rfl
        · exact hn _ this.1
        · exact hn _ this.2 }
  ov := fun v => by rw [over_canon f.fine, f.ov, over_step]
  sub := fun e he => by
    obtain ⟨t, ht, rfl⟩ := List.mem_map.mp he
    obtain ⟨u, hu, q⟩ := List.mem_map.mp (canon_mem ht).1
    rw [← q]
    exact f.sub u hu
  ge := fun e => by
    have h1 := count_ex (canon l) e fun t ht => (fine_canon f.fine t ht).2
    have h2 := count_ex (stepT (s :: p)) e fun t ht => (j.fine t ht).2
    have h3 := f.ge e
    unfold stepT at h2
    rw [ex_step] at h2
    rw [sumAt_canon' f.fine] at h1
    have h4 : sumAt (stepT (s :: p)) e = sumAt ((pairsOf (s :: p)).map fun p => ((p.1, p.2, 1) : Tri)) e := rfl
    omega
section
variable {s b : Str} {p q : List Str} {L : List Tri}
theorem Rd.mem (r : Rd s p L) {e : Ed} : e ∈ exL L ↔ e ∈ pairsOf (s :: p) := by
  constructor
  · intro h
    exact r.sub e ((mem_ex r.pc.cn.pos e).mp h)
  · intro h
    have h1 := r.ge e
    have h2 : 0 < (pairsOf (s :: p)).count e := List.count_pos_iff.mpr h
    exact List.count_pos_iff.mp (by omega)
theorem Rd.way (r : Rd s p L) : ∃ w, Way s L w ∧ endOf s w = endOf s p := by
  refine way_is ((deg_ex fun t ht => Int.le_of_lt (r.pc.cn.pos t ht)).mpr r.ov) fun V hs hV e he => ?_
  have := way_hang s p V hs fun e he => hV e (r.mem.mpr he)
  exact this e.1 (pairs_in s p e (r.mem.mp he)).1
theorem Rd.fin (r : Rd s p L) : endS s L = endOf s p := by
  obtain ⟨w, h, e⟩ := r.way
  rw [way_end r.pc.cn.pos h, e]
end
end RM
namespace RM
open PySem PySem.Spec PyProof.Rows L2 CS RZ
/-! ### k13: turned, and in one piece -/
end RM
namespace RM
open PySem PySem.Spec PyProof.Rows L2 CS RZ
/-! ### k13: a round apart -/
end RM
namespace RM
open PySem PySem.Spec PyProof.Rows L2 CS RZ
/-! ### k13: the rounds, as the law makes them -/
end RM
namespace RM
open PySem PySem.Spec PyProof.Rows L2 CS RZ
/-! ### is not True; rows of texts in a list -/
end RM
namespace RM
open PySem PySem.Spec PyProof.Rows L2 CS RZ
/-! ### k13: a drawn turn -/
end RM
namespace RM
open PySem PySem.Spec PyProof.Rows L2 CS RZ
/-! ### k13: one step more, a round apart -/
end RM
namespace RM
open PySem PySem.Spec PyProof.Rows L2 CS RZ
/-! ### xs.remove(y), of data -/
end RM
namespace RM
open PySem PySem.Spec PyProof.Rows L2 CS RZ
/-! ### a slice as a new list; a, b = [..], x; from the bare heap with a box in use -/
end RM
namespace RM
open PySem PySem.Spec PyProof.Rows L2 CS RZ
/-! ### k76: the sure beginning -/
def sureP : Nat → Str → List Tri → List Str
  | 0, _, _ => []
  | m + 1, s, L => match openS s L with
    | [b] => b :: sureP m b (lessT L (s, b))
    | _ => []
end RM
namespace RM
open PySem PySem.Spec PyProof.Rows L2 CS RZ
/-! ### k76: what rows share -/
/-! rows turned -/
end RM
namespace RM
open PySem PySem.Spec PyProof.Rows L2 CS RZ
/-! ### k76: what all journeys share -/
/-! ### k76: whether what is left hangs together -/
end RM
namespace RM
open PySem PySem.Spec PyProof.Rows L2 CS RZ
/-! ### k76: the law's own closure -/
theorem cut_drop {ds : List D} {k : Nat} (h : k ≤ ds.length) : cutL ds (some (k : Nat)) none = ds.drop k := by
  unfold cutL
  rw [HT.sIx_none, HT.sIx_nat, Nat.min_eq_left h]
  exact List.take_of_length_le (by rw [List.length_drop]; omega)
end RM
namespace RM
open PySem PySem.Spec PyProof.Rows L2 CS RZ
/-! ### k76: a walk's own bound; where a journey stands on its sure beginning -/
abbrev Lr (s : Str) (p : List Str) : List Tri := canon (stepT (s :: p))
theorem cn_row {s : Str} {p : List Str} (j : Jn (s :: p)) (hl : (s :: p).length ≤ 31) : Cn (Lr s p) := cn_canon j.fine (fun t ht => by
    obtain ⟨q, hq, rfl⟩ := List.mem_map.mp ht
    exact ⟨j.good _ (pairs_mem hq).1, j.good _ (pairs_mem hq).2⟩) (by rw [step_len]; omega)
theorem ex_row {s : Str} {p : List Str} (j : Jn (s :: p)) (hl : (s :: p).length ≤ 31) : (exL (Lr s p)).Perm (pairsOf (s :: p)) := by
  have c := cn_row j hl
  refine List.perm_iff_count.mpr fun e => ?_
  have h1 := count_ex (Lr s p) e fun t ht => Int.le_of_lt (c.pos t ht)
  have h2 := count_ex (stepT (s :: p)) e fun t ht => (j.fine t ht).2
  unfold stepT at h2
  rw [ex_step] at h2
  rw [show sumAt (Lr s p) e = sumAt (stepT (s :: p)) e from sumAt_canon' j.fine e] at h1
  have h4 : sumAt (stepT (s :: p)) e = sumAt ((pairsOf (s :: p)).map fun p => ((p.1, p.2, 1) : Tri)) e := rfl
  omega
theorem row_len {s : Str} {p : List Str} (j : Jn (s :: p)) (hl : (s :: p).length ≤ 31) : (exL (Lr s p)).length = p.length := by
  rw [(ex_row j hl).length_eq, pairs_len, List.length_cons]
  omega
end RM
namespace RM
open PySem PySem.Spec PyProof.Rows L2 CS RZ
/-! ### k76: what is drawn and asked -/
structure T76 (s : Str) (p : List Str) : Prop where
  j : Jn (s :: p)
  hl : (s :: p).length ≤ 31
  nn : ∀ y ∈ s :: p, y ≠ "none"
section
variable {e : EndsD} {n : Nat} {s : Str} {p : List Str} {t1 t2 t3 t4 t5 t6 t7 t8 t9 t10 : Option Sl}
theorem T76.r (T : T76 s p) : Rd s p (Lr s p) := by
  have := rd_of T.j (by have := T.hl; omega) T.nn (fd_start T.j)
  rwa [show canon (canon (stepT (s :: p))) = Lr s p from (cn_row T.j T.hl).id] at this
theorem T76.len (T : T76 s p) : (exL (Lr s p)).length = p.length := row_len T.j T.hl
end
end RM
namespace RM
open PySem PySem.Spec PyProof.Rows L2 CS RZ
/-! ### k76: place by place -/
section
variable {e : EndsD} {n : Nat} {s x : Str} {p A B : List Str} {t1 t2 t3 t4 t5 t6 t7 t8 t9 t10 : Option Sl}
/-- the journey, cut at a place -/
structure At76 (s : Str) (p A : List Str) (x : Str) (B : List Str) : Prop where
  T : T76 s p
  e : s :: p = A ++ x :: B
  eB : B = p.drop A.length
  ex : (s :: p)[A.length]? = some x
  lt : A.length < p.length
  le : A.length ≤ (sureP p.length s (Lr s p)).length
theorem At76.j (a : At76 s p A x B) : Jn (A ++ x :: B) := by rw [← a.e]; exact a.T.j
theorem At76.hl (a : At76 s p A x B) : (A ++ x :: B).length ≤ 31 := by rw [← a.e]; exact a.T.hl
theorem At76.jB (a : At76 s p A x B) : Jn (x :: B) := ⟨fun y hy => a.j.good y (List.mem_append_right _ hy), fun q hq => a.j.ch q (by
    refine drop_pairs A.length _ q ?_
    rw [List.drop_left' rfl]
    exact hq), by have := a.hl; rw [List.length_append] at this; omega⟩
theorem At76.good (a : At76 s p A x B) : ∀ q ∈ pairsOf (x :: B), GoodP q := fun q hq => ⟨a.jB.good _ (pairs_mem hq).1, a.jB.good _ (pairs_mem hq).2⟩
end
end RM
namespace RM
open PySem PySem.Spec PyProof.Rows L2 CS RZ
/-! ### (..) * k; what is had, computed -/
def repTD : D → D → Option D
  | .tuple ds, .int k => if ds ≠ [] ∧ 2 ≤ k ∧ k ≤ 1000 ∧ ds.length ≤ 1000 then some (.tuple (List.replicate k.toNat ds).flatten) else none
  | _, _ => none
theorem od_repT {X : Cx} : OpD X (binaryOp .Mult) repTD := by
  refine ⟨_, op_repT, fun T Hh H x y dx dy z Q hK s ix iy hg q => ?_⟩
  unfold repTD at hg
  split at hg
  · obtain ⟨⟨c0, c1, c2, c3⟩, rfl⟩ := ifs hg
    obtain ⟨a, xs, rfl, ha, ra⟩ := ix.tup'
    rw [iy.int']
    have hne : xs ≠ [] := fun z => by
      have := ra.length
      rw [z] at this
      exact c0 (List.length_eq_zero_iff.mp this.symm)
    exact ⟨a, _, xs, rfl, rfl, hK ▸ sqt_same s ha, hne, c1, c2, by rw [ra.length]; exact c3, newT q (isL_rep ra _)⟩
  · cases hg
instance (a b : Str) : Decidable (leS a b) := by unfold leS; exact inferInstance
/-H-/
end RM
namespace RM
open PySem PySem.Spec PyProof.Rows L2 CS RZ
/-! ### k76 by hand -/
end RM
namespace RM
open PySem PySem.Spec PyProof.Rows L2 CS RZ
/-! ### last steps out of places: which can be told ahead -/
/-! what leads to the end -/
end RM
namespace RM
open PySem PySem.Spec PyProof.Rows L2 CS RZ
/-! ### d = {}; for a, b in l: d.setdefault(b, []).append(a) -/
end RM
namespace RM
open PySem PySem.Spec PyProof.Rows L2 CS RZ
/-! ### the rule of it -/
end RM
namespace RM
open PySem PySem.Spec PyProof.Rows L2 CS RZ
/-! ### which names lead to an end -/
end RM
namespace RM
open PySem PySem.Spec PyProof.Rows L2 CS RZ
/-! ### a dict with a star -/
end RM
namespace RM
open PySem PySem.Spec PyProof.Rows L2 CS RZ
/-! ### led_to, last_outs -/
end RM
namespace RM
open PySem PySem.Spec PyProof.Rows L2 CS RZ
/-! ### sure_lasts, sure_first_ins -/
end RM
namespace RM
open PySem PySem.Spec PyProof.Rows L2 CS RZ
/-! ### last_outs tells what can be the last step -/
end RM
namespace RM
open PySem PySem.Spec PyProof.Rows L2 CS RZ
/-! ### a comprehension over an own dict -/
end RM
namespace RM
open PySem PySem.Spec PyProof.Rows L2 CS RZ
/-! ### for a, b in zip(x, y) -/
theorem walk_zipT {K : PySem.W.Frag} {a b : Addr} {xs ys : List V} {n : Nat} (hn : n = min xs.length ys.length) : Walk (ItzT K a b) n (fun H => SqT K H a xs ∧ SqT K H b ys) (YPair (fun i => xs[i]?) fun i => ys[i]?) where
  goes i H hi h := ⟨xs, ys, xs[i]'(by omega), ys[i]'(by omega), h.1, h.2, List.getElem?_eq_getElem _, List.getElem?_eq_getElem _⟩
  stops H h := ⟨xs, ys, h.1, h.2, by omega⟩
  yields i H v H' hi h y := by
    obtain ⟨T, x, z, e1, e2, e3, e4, e5⟩ := y
    exact ⟨T, x, z, e1, e2, e3, e4 xs h.1, e5 ys h.2⟩
theorem zip_wd {T : Tab} {Hb : Hp} {J : It} {G : Hp → Prop} {xs ys : List V} {dx dy : List D} (w : Walk J (min xs.length ys.length) G (YPair (fun i => xs[i]?) fun i => ys[i]?)) (hG : ∀ H, Same Hb H → G H) (ix : IsL T Hb xs dx) (iy : IsL T Hb ys dy) : WalkD T J (List.zipWith pairD dx dy) Hb := by
  refine ⟨⟨G, _, by rw [List.length_zipWith, ← ix.length, ← iy.length]; exact w, hG, fun i x H H2 d s y e => ?_⟩⟩
  obtain ⟨t, x0, y0, rfl, ht, rfl, e1, e2⟩ := y
  refine ⟨same_new ht, fun Hx s2 hn => ?_⟩
  have hT := hn t _ upd_same ht
  rw [List.getElem?_zipWith] at e
  cases e3 : dx[i]? with
  | none => rw [e3] at e; cases e
  | some d1 =>
    cases e4 : dy[i]? with
    | none => rw [e3, e4] at e; cases e
    | some d2 =>
      rw [e3, e4] at e
      cases e
      obtain ⟨v1, g1, h1⟩ := ix.get e3
      obtain ⟨v2, g2, h2⟩ := iy.get e4
      have e1 : xs[i]? = some x0 := e1
      have e2 : ys[i]? = some y0 := e2
      rw [e1] at g1
      cases g1
      rw [e2] at g2
      cases g2
      exact .tup (.inl (.inl hT)) (.cons (h1.same s2) (.cons (h2.same s2) .nil))
/-! ### a, b = two new things -/
end RM
namespace RM
open PySem PySem.Spec PyProof.Rows L2 CS RZ
/-! ### last steps out, first steps in, told of a trail -/
end RM
namespace RM
open PySem PySem.Spec PyProof.Rows L2 CS RZ
/-! ### what is due: the last steps that all trails have -/
end RM
namespace RM
open PySem PySem.Spec PyProof.Rows L2 CS RZ
end RM
namespace RM
open PySem PySem.Spec PyProof.Rows L2 CS RZ
/-! ### k39: what is drawn and asked -/
section
variable {e : EndsD} {n : Nat} {s : Str} {p : List Str} {t1 t2 t3 t4 t5 t6 : Option Sl}
theorem T76.fin (T : T76 s p) : endS s (Lr s p) = endOf s p := T.r.fin
end
end RM
set_option maxHeartbeats 4000000
namespace RM
open PySem PySem.Spec PyProof.Rows L2 CS RZ
/-! ### k39: the answers that are told by hand, computed -/
def two : List Tri := [("a", "b", 2), ("b", "a", 2)]
end RM
set_option maxHeartbeats 4000000
namespace RM
open PySem PySem.Spec PyProof.Rows L2 CS RZ
/-! ### k39, by hand -/
def A1 : List Ed := [("b", "d")]
def A2 : List Ed := [("b", "d"), ("c", "a")]
def sdByHand39 : SpD := fun ds n k _ => ds = [] ∧ k (.bool true) n
end RM
namespace RM
open PySem PySem.Spec PyProof.Rows L2 CS RZ
end RM
namespace RM
open PySem PySem.Spec PyProof.Rows L2 CS RZ
/-! ### first steps out of a place (k34) -/
end RM
namespace RM
open PySem PySem.Spec PyProof.Rows L2 CS RZ
end RM
namespace RM
open PySem PySem.Spec PyProof.Rows L2 CS RZ
/-! ### first_outs, first_ins, last_ins -/
end RM
set_option maxHeartbeats 4000000
namespace RM
open PySem PySem.Spec PyProof.Rows L2 CS RZ
/-! ### firstsL computed; what all trails have: first and last steps at one place (k34) -/
end RM
namespace RM
open PySem PySem.Spec PyProof.Rows L2 CS RZ
/-! ### last steps out of several places together (k37, k38, k40) -/
end RM
namespace RM
open PySem PySem.Spec PyProof.Rows L2 CS RZ
/-! ### kept, can_be_last (k37, k38, k40) -/
end RM
namespace RM
open PySem PySem.Spec PyProof.Rows L2 CS RZ
/-! ### can_be_last (k37) -/
end RM
namespace RM
open PySem PySem.Spec PyProof.Rows L2 CS RZ
/-! ### k37's law side: the last exits of a trail -/
end RM
namespace RM
open PySem PySem.Spec PyProof.Rows L2 CS RZ
/-! ### v = [[], [], [], []], of which the lists grow in a loop: nobody else knows them -/
def outs (H : Hp) (S : List Addr) : Hp := fun b => if b ∈ S then none else H b
section
variable {C : Ctx} {ρ : En} {n : Nat} {σ : L2.St} {H H' Hx : Hp} {O : Ow} {a : Addr} {o : HO} {S : List Addr}
theorem outs_mono (s : Same H H') : Same (outs H S) (outs H' S) := fun b o h => by
  unfold outs at h ⊢
  split at h
  · cases h
  · rename_i c
    rw [if_neg c]
    exact s _ _ h
end
/-- slot iG holds the list at p of the lists at qs, which hold gs; nobody else knows them -/
structure Gh (C : Ctx) (iG : Nat) (p : Addr) (qs : List Addr) (gs : List (List D)) (ρ : En) (n : Nat) (σ : L2.St) (H : Hp) (O : Ow) : Prop where
  ev : Ev C ρ n σ (outs H (p :: qs)) O
  slot : σ[iG]? = some (some (.ref p))
  nd : (p :: qs).Nodup
  top : H p = some (.lst (qs.map V.ref))
  rows : ∀ (j : Nat) (q : Addr), qs[j]? = some q → ∃ us g, H q = some (.lst us) ∧ gs[j]? = some g ∧ IsL C.T (hid C O (outs H (p :: qs))) us g
  len : gs.length = qs.length
section
variable {X : Cx} {g : Glob} {xk : WX} {pos : Pos} {iG : Nat}
theorem Gh.ext {C : Ctx} {ρ : En} {n : Nat} {σ : L2.St} {H H' : Hp} {O : Ow} {p : Addr} {qs : List Addr} {gs : List (List D)} (G : Gh C iG p qs gs ρ n σ H O) (s : Same H H') : Gh C iG p qs gs ρ n σ H' O :=
  ⟨G.ev.ext (outs_mono s), G.slot, G.nd, s _ _ G.top, fun j q hj => let ⟨us, l, h1, h2, h3⟩ := G.rows j q hj; ⟨us, l, s _ _ h1, h2, h3.same (hid_same (outs_mono s))⟩, G.len⟩
end
end RM
namespace RM
open PySem PySem.Spec PyProof.Rows L2 CS RZ
/-! ### [f1, f2, f3, f4][e](..): a def out of a list of defs -/
end RM
namespace RM
open PySem PySem.Spec PyProof.Rows L2 CS RZ
/-! ### last_outs and the others, of a place that is none too (k34) -/
/-! what the law is told -/
end RM
namespace RM
open PySem PySem.Spec PyProof.Rows L2 CS RZ
/-! ### _law_ends_due (k34) -/
/-- ys is what sorted(set(xs)) tells -/
structure SS (ys xs : List Str) : Prop where
  nd : ys.Nodup
  mem : ∀ p, p ∈ ys ↔ p ∈ xs
  pw : sortedS ys = true
theorem lc_yes {cg : CG} {te : CE} {vs : List Nat} {d : D} {ds : List D} {ρ ρ1 : En} {n : Nat} {acc : List D} {k : List D → En → Nat → Prop} (h1 : cg d ρ = some ρ1) (h2 : te ρ1 n (fun y ρ3 n3 => acc.length < lim ∧ cLcL cg cYes te vs ds (wipeE ρ3 vs) n3 (acc ++ [y]) k) kF) : cLcL cg cYes te vs (d :: ds) ρ n acc k := ⟨ρ1, h1, h2⟩
end RM
namespace RM
open PySem PySem.Spec PyProof.Rows L2 CS RZ
/-! ### k34's turn -/
section
variable {s a b : Str} {L : List Tri}
theorem SS.one {ys xs zs : List Str} (h : SS ys xs) (pw : zs.Pairwise leS) (nd : zs.Nodup) (hm : ∀ p, p ∈ zs ↔ p ∈ xs) : zs = ys :=
  sorted_one pw (sorted_pw h.pw) nd h.nd fun p => (hm p).trans (h.mem p).symm
end
end RM
set_option maxHeartbeats 4000000
namespace RM
open PySem PySem.Spec PyProof.Rows L2 CS RZ
/-! ### xs + ys as a new list -/
def cAddF (ta tb : CE) : CE := fun ρ n k ke => ta ρ n (fun x ρ1 n1 => tb ρ1 n1 (fun y ρ2 n2 => ∃ ds es : List D, x = .list ds ∧ y = .list es ∧ ds.length + es.length ≤ lim ∧ k (.list (ds ++ es)) ρ2 n2) ke) ke
theorem pf_add {X : Cx} {g : Glob} {xk : WX} {pos : Pos} {a b : Expr} {ta tb : CE} (ha : PD X g xk a ta) (hb : PD X g xk b tb) : PDF X g xk (.BinOp a .Add b pos) (cAddF ta tb) := by
  refine ⟨PE.imp (pe_op op_cat ha.pe hb.pe) fun σ H Q h => ?_⟩
  obtain ⟨C, ρ, n, O, k, ke, hK, E, t, x, q⟩ := h
  refine ⟨C, ρ, n, O, _, ke, hK, E, t, x, fun d ρ1 n1 v H1 O1 k1 E1 S1 i1 => ⟨C, ρ1, n1, O1, _, ke, hK, E1, k1, x, fun d2 ρ2 n2 v2 H2 O2 k2 E2 S2 i2 => ?_⟩⟩
  obtain ⟨ds, es, rfl, rfl, hl, k2⟩ := k2
  have i1 := i1.same S2
  obtain ⟨a, xs, rfl, ha, ra⟩ := i1.list'
  obtain ⟨b, ys, rfl, hb, rb⟩ := i2.list'
  exact ⟨a, b, xs, ys, rfl, rfl, hid_le _ _ ha, hid_le _ _ hb, by rw [ra.length, rb.length]; exact lim_le hl, fun p hp => q _ _ _ p H2 _ _ k2 E2 (S1.trans S2) hp (same_new hp) (.lst upd_same (ra.append rb)) rfl⟩
/-! ### for x in a text -/
/-! ### k34, by hand -/
end RM
namespace RM
/-! ### determinants, by the first row -/
section
variable {R C : Type} (e : R → C → Int)
def E1 (r : R) : List C → (List C → Int) → Int
  | [], _ => 0
  | c :: cs, F => e r c * F cs - E1 r cs (fun l => F (c :: l))
def det : List R → List C → Int
  | [], [] => 1
  | [], _ :: _ => 0
  | r :: rs, cs => E1 e r cs (det rs)
variable {e}
theorem det_cons (r : R) (rs : List R) (cs : List C) : det e (r :: rs) cs = E1 e r cs (det e rs) := by
  unfold det
  rfl
theorem E1_cons (r : R) (c : C) (cs : List C) (F : List C → Int) : E1 e r (c :: cs) F = e r c * F cs - E1 e r cs (fun l => F (c :: l)) := rfl
theorem E1_lin (r : R) (a b : Int) : ∀ (cs : List C) (F G : List C → Int), E1 e r cs (fun l => a * F l + b * G l) = a * E1 e r cs F + b * E1 e r cs G
  | [], F, G => by simp [E1]
  | c :: cs, F, G => by
    rw [E1_cons, E1_cons, E1_cons, E1_lin r a b cs, Int.mul_add, Int.mul_sub, Int.mul_sub, Int.mul_left_comm, Int.mul_left_comm (e r c) b]
    omega
theorem E1_zero (r : R) (cs : List C) (F : List C → Int) (h : ∀ l, F l = 0) : E1 e r cs F = 0 := by
  have e1 : F = fun l => 0 * F l + 0 * F l := by funext l; rw [h]; omega
  rw [e1, E1_lin]
  omega
theorem E1_row {x y z : R} {a b : Int} : ∀ (cs : List C) (F : List C → Int), (∀ c ∈ cs, e x c = a * e y c + b * e z c) → E1 e x cs F = a * E1 e y cs F + b * E1 e z cs F
  | [], F, _ => by simp [E1]
  | c :: cs, F, h => by
    rw [E1_cons, E1_cons, E1_cons, E1_row cs _ fun d hd => h d (List.mem_cons_of_mem _ hd), h c (List.mem_cons_self ..), Int.add_mul, Int.mul_sub, Int.mul_sub, Int.mul_assoc, Int.mul_assoc]
    omega
theorem E1_swap (x y : R) : ∀ (cs : List C) (F : List C → Int), E1 e x cs (fun l => E1 e y l F) = - E1 e y cs (fun l => E1 e x l F)
  | [], F => by simp [E1]
  | c :: cs, F => by
    rw [E1_cons, E1_cons]
    have h1 : (fun l => E1 e y (c :: l) F) = fun l => e y c * F l + (-1) * E1 e y l (fun l => F (c :: l)) := by
      funext l
      rw [E1_cons]
      omega
    have h2 : (fun l => E1 e x (c :: l) F) = fun l => e x c * F l + (-1) * E1 e x l (fun l => F (c :: l)) := by
      funext l
      rw [E1_cons]
      omega
    rw [h1, h2, E1_lin, E1_lin, E1_swap x y cs]
    omega
/-! rows -/
theorem det_row {x y z : R} {a b : Int} {rs : List R} : ∀ (pre : List R) (cs : List C), (∀ c, e x c = a * e y c + b * e z c) → det e (pre ++ x :: rs) cs = a * det e (pre ++ y :: rs) cs + b * det e (pre ++ z :: rs) cs
  | [], cs, h => by
    rw [List.nil_append, List.nil_append, List.nil_append, det_cons, det_cons, det_cons]
    exact E1_row cs _ fun c _ => h c
  | r :: pre, cs, h => by
    rw [List.cons_append, List.cons_append, List.cons_append, det_cons, det_cons, det_cons, ← E1_lin]
    congr 1
    funext l
    exact det_row pre l h
theorem det_swap {x y : R} {rs : List R} : ∀ (pre : List R) (cs : List C), det e (pre ++ x :: y :: rs) cs = - det e (pre ++ y :: x :: rs) cs
  | [], cs => by
    rw [List.nil_append, List.nil_append, det_cons, det_cons]
    have h1 : det e (y :: rs) = fun l => E1 e y l (det e rs) := by funext l; exact det_cons ..
    have h2 : det e (x :: rs) = fun l => E1 e x l (det e rs) := by funext l; exact det_cons ..
    rw [h1, h2]
    exact E1_swap x y cs _
  | r :: pre, cs => by
    rw [List.cons_append, List.cons_append, det_cons, det_cons]
    have h1 : det e (pre ++ x :: y :: rs) = fun l => (-1) * det e (pre ++ y :: x :: rs) l + 0 * det e (pre ++ y :: x :: rs) l := by
      funext l
      rw [det_swap pre l]
      omega
    rw [h1, E1_lin]
    omega
/-- sign of a number of exchanges -/
def sg (n : Nat) : Int := if n % 2 = 0 then 1 else -1
theorem sg_succ (n : Nat) : sg (n + 1) = - sg n := by
  unfold sg
  split <;> split <;> omega
theorem sg_sq (n : Nat) : sg n * sg n = 1 := by
  unfold sg
  split <;> rfl
theorem sg_zero : sg 0 = 1 := rfl
theorem det_move {x : R} {rs : List R} : ∀ (pre : List R) (cs : List C), det e (pre ++ x :: rs) cs = sg pre.length * det e (x :: (pre ++ rs)) cs
  | [], cs => by rw [List.nil_append, List.nil_append, List.length_nil, sg_zero, Int.one_mul]
  | r :: pre, cs => by
    rw [List.cons_append, List.cons_append, det_cons]
    have h1 : det e (pre ++ x :: rs) = fun l => sg pre.length * det e (x :: (pre ++ rs)) l + 0 * det e (x :: (pre ++ rs)) l := by
      funext l
      rw [det_move pre l]
      omega
    rw [h1, E1_lin, ← det_cons, List.length_cons, sg_succ]
    have := det_swap (e := e) (x := r) (y := x) (rs := pre ++ rs) [] cs
    rw [List.nil_append, List.nil_append] at this
    rw [this, Int.neg_mul, Int.mul_neg]
    omega
theorem det_two {x : R} {pre rs : List R} (cs : List C) : det e (pre ++ x :: x :: rs) cs = 0 := by
  have := det_swap (e := e) (x := x) (y := x) (rs := rs) pre cs
  omega
theorem det_dup {x : R} {rs : List R} (cs : List C) (h : x ∈ rs) : det e (x :: rs) cs = 0 := by
  obtain ⟨p, q, rfl⟩ := List.append_of_mem h
  have h1 := det_move (e := e) (x := x) (rs := x :: q) p cs
  rw [det_two] at h1
  have h2 : sg p.length * (sg p.length * det e (x :: (p ++ x :: q)) cs) = 0 := by rw [← h1]; omega
  rw [← Int.mul_assoc, sg_sq, Int.one_mul] at h2
  exact h2
/-! columns -/
theorem E1_col {x y z : C} {a b : Int} {r : R} {post : List C} : ∀ (pre : List C) (F : List C → Int), e r x = a * e r y + b * e r z → (∀ p q, F (p ++ x :: q) = a * F (p ++ y :: q) + b * F (p ++ z :: q)) → E1 e r (pre ++ x :: post) F = a * E1 e r (pre ++ y :: post) F + b * E1 e r (pre ++ z :: post) F
  | [], F, h, hF => by
    rw [List.nil_append, List.nil_append, List.nil_append, E1_cons, E1_cons, E1_cons, h]
    have h1 : (fun l => F (x :: l)) = fun l => a * F (y :: l) + b * F (z :: l) := by
      funext l
      exact hF [] l
    rw [h1, E1_lin, Int.add_mul, Int.mul_sub, Int.mul_sub, Int.mul_assoc, Int.mul_assoc]
    omega
  | c :: pre, F, h, hF => by
    rw [List.cons_append, List.cons_append, List.cons_append, E1_cons, E1_cons, E1_cons, hF pre post, E1_col pre (fun l => F (c :: l)) h fun p q => hF (c :: p) q, Int.mul_add, Int.mul_sub, Int.mul_sub, Int.mul_left_comm, Int.mul_left_comm (e r c) b]
    omega
theorem det_col {x y z : C} {a b : Int} : ∀ (rs : List R) (pre post : List C), (∀ r ∈ rs, e r x = a * e r y + b * e r z) → det e rs (pre ++ x :: post) = a * det e rs (pre ++ y :: post) + b * det e rs (pre ++ z :: post)
  | [], pre, post, _ => by
    have : ∀ (w : C), det e [] (pre ++ w :: post) = 0 := fun w => by cases pre <;> rfl
    rw [this, this, this]
    omega
  | r :: rs, pre, post, h => by
    rw [det_cons, det_cons, det_cons]
    exact E1_col pre _ (h r (List.mem_cons_self ..)) fun p q => det_col rs p q fun r' hr => h r' (List.mem_cons_of_mem _ hr)
theorem det_czero {x : C} {rs : List R} {pre post : List C} (h : ∀ r ∈ rs, e r x = 0) : det e rs (pre ++ x :: post) = 0 := by
  rw [det_col (y := x) (z := x) (a := 0) (b := 0) rs pre post fun r hr => by rw [h r hr]; omega]
  omega
/-- below the first row the first column is 0 -/
theorem det_first {r : R} {rs : List R} {c : C} {cs : List C} (h : ∀ q ∈ rs, e q c = 0) : det e (r :: rs) (c :: cs) = e r c * det e rs cs := by
  rw [det_cons, E1_cons, E1_zero]
  · omega
  · intro l
    exact det_czero (pre := []) h
/-! other names for rows and columns -/
theorem E1_map {R' C' : Type} {e' : R' → C' → Int} {f : C → C'} {r : R} {r' : R'} (h : ∀ c, e' r' (f c) = e r c) : ∀ (cs : List C) (F : List C → Int) (G : List C' → Int), (∀ l, G (l.map f) = F l) → E1 e' r' (cs.map f) G = E1 e r cs F
  | [], F, G, _ => rfl
  | c :: cs, F, G, hG => by
    rw [List.map_cons, E1_cons, E1_cons, h, hG, E1_map h cs (fun l => F (c :: l)) (fun l => G (f c :: l)) fun l => hG (c :: l)]
theorem det_map {R' C' : Type} {e' : R' → C' → Int} {f : C → C'} {g : R → R'} (h : ∀ r c, e' (g r) (f c) = e r c) : ∀ (rs : List R) (cs : List C), det e' (rs.map g) (cs.map f) = det e rs cs
  | [], [] => rfl
  | [], _ :: _ => rfl
  | r :: rs, cs => by
    rw [List.map_cons, det_cons, det_cons]
    exact E1_map (h r) cs _ _ fun l => det_map h rs l
/-- a factor of each row -/
def prodI : List Int → Int
  | [] => 1
  | a :: l => a * prodI l
theorem det_scale {S : Type} {e' : S → C → Int} (k : S → Int) (f : S → R) (h : ∀ s c, e' s c = k s * e (f s) c) : ∀ (rs : List S) (cs : List C), det e' rs cs = prodI (rs.map k) * det e (rs.map f) cs
  | [], [] => rfl
  | [], _ :: _ => rfl
  | s :: rs, cs => by
    rw [List.map_cons, List.map_cons, det_cons, det_cons]
    have h1 : det e' rs = fun l => prodI (rs.map k) * det e (rs.map f) l + 0 * det e (rs.map f) l := by
      funext l
      rw [det_scale k f h rs l]
      omega
    rw [h1, E1_lin]
    have h2 : ∀ (cs : List C) (F : List C → Int), E1 e' s cs F = k s * E1 e (f s) cs F := by
      intro cs
      induction cs with
      | nil => intro F; simp [E1]
      | cons c cs ih =>
        intro F
        rw [E1_cons, E1_cons, ih, h, Int.mul_sub, Int.mul_assoc]
    rw [h2]
    show _ = (k s * prodI (rs.map k)) * _
    rw [Int.mul_assoc, Int.mul_left_comm, Int.zero_mul, Int.add_zero]
end
end RM
namespace RM
open PySem PySem.Spec PyProof.Rows L2 CS RZ
/-! ### how many journeys: a determinant (the steps of one kind told apart) -/
def fac : Nat → Int
  | 0 => 1
  | n + 1 => ((n + 1 : Nat) : Int) * fac n
end RM
namespace RM
open PySem PySem.Spec PyProof.Rows L2 CS RZ
/-! ### how many journeys: the theorem -/
theorem sI_congr {α : Type} {l : List α} {f g : α → Int} (h : ∀ a ∈ l, f a = g a) : (l.map f).sum = (l.map g).sum := by rw [List.map_congr_left h]
theorem sI_mul {α : Type} (k : Int) : ∀ (l : List α) (f : α → Int), (l.map fun a => k * f a).sum = k * (l.map f).sum
  | [], _ => by simp
  | a :: l, f => by
    rw [List.map_cons, List.map_cons, List.sum_cons, List.sum_cons, sI_mul k l f, Int.mul_add]
end RM
namespace RM
open PySem PySem.Spec PyProof.Rows L2 CS RZ
/-! ### how many journeys: the steps of one kind alike -/
theorem fac_pos : ∀ n : Nat, 0 < fac n
  | 0 => by decide
  | n + 1 => Int.mul_pos (by omega) (fac_pos n)
theorem prodI_pos : ∀ l : List Int, (∀ a ∈ l, 0 < a) → 0 < prodI l
  | [], _ => by decide
  | a :: l, h => Int.mul_pos (h a (List.mem_cons_self ..)) (prodI_pos l fun b hb => h b (List.mem_cons_of_mem _ hb))
end RM
namespace RM
open PySem PySem.Spec PyProof.Rows L2 CS RZ
/-! ### determinants, row by row without remainders (Bareiss) -/
abbrev Row := List Int
def gt (r : Row) (j : Nat) : Int := r.getD j 0
/-- the rows' determinant -/
def dl (M : List Row) : Int := det gt M (List.range M.length)
def powI (b : Int) : Nat → Int
  | 0 => 1
  | n + 1 => b * powI b n
theorem powI_ne {b : Int} (h : b ≠ 0) : ∀ n, powI b n ≠ 0
  | 0 => show (1 : Int) ≠ 0 by decide
  | n + 1 => Int.mul_ne_zero h (powI_ne h n)
/-- each minor of m + 1 rows is a multiple of b ^ m -/
def Div (M : List Row) (k : Nat) (b : Int) : Prop := ∀ (rs : List Row) (js : List Nat) (m : Nat), (∀ r ∈ rs, r ∈ M) → (∀ j ∈ js, j < k) → rs.length = m + 1 → js.length = m + 1 → powI b m ∣ det gt rs js
theorem powI_one : ∀ n, powI 1 n = 1
  | 0 => rfl
  | n + 1 => by show 1 * powI 1 n = 1; rw [powI_one n]; rfl
theorem div_one (M : List Row) (k : Nat) : Div M k 1 := fun rs js m _ _ _ _ => ⟨det gt rs js, by rw [powI_one]; omega⟩
/-- what is above the line, before the division -/
def crs (h r : Row) (j : Nat) : Int := gt h 0 * gt r (j + 1) - gt r 0 * gt h (j + 1)
def nwR (b : Int) (h r : Row) : Row := List.zipWith (fun x y => (gt h 0 * x - gt r 0 * y).fdiv b) r.tail h.tail
def apN (r : Nat → Int) (j : Nat) : Int := r j
def e2R (h r : Row) (j : Nat) : Int := gt h 0 * gt r j - gt r 0 * gt h j
theorem det_congr {R C : Type} {e e' : R → C → Int} : ∀ (rs : List R) (cs : List C), (∀ r ∈ rs, ∀ c ∈ cs, e r c = e' r c) → det e rs cs = det e' rs cs
  | [], [], _ => rfl
  | [], _ :: _, _ => rfl
  | r :: rs, cs, h => by
    rw [det_cons, det_cons]
    have h1 : ∀ (cs' : List C) (F G : List C → Int), (∀ c ∈ cs', e r c = e' r c) → (∀ l, (∀ c ∈ l, c ∈ cs') → F l = G l) → E1 e r cs' F = E1 e' r cs' G := by
      intro cs'
      induction cs' with
      | nil => intro F G _ _; rfl
      | cons c cs' ih =>
        intro F G h1 h2
        rw [E1_cons, E1_cons, h1 c (List.mem_cons_self ..), h2 cs' fun d hd => List.mem_cons_of_mem _ hd, ih (fun l => F (c :: l)) (fun l => G (c :: l)) (fun d hd => h1 d (List.mem_cons_of_mem _ hd)) fun l hl => h2 (c :: l) fun d hd => ?_]
        rcases List.mem_cons.mp hd with rfl | hd
        · exact List.mem_cons_self ..
        · exact List.mem_cons_of_mem _ (hl d hd)
    exact h1 cs _ _ (fun c hc => h r (List.mem_cons_self ..) c hc) fun l hl => det_congr rs l fun r' hr c hc => h r' (List.mem_cons_of_mem _ hr) c (hl c hc)
theorem ops_row {h : Row} {js : List Nat} : ∀ (rs : List Row) (P : List (Nat → Int)), det apN (gt h :: P ++ rs.map (e2R h)) js = powI (gt h 0) rs.length * det apN (gt h :: P ++ rs.map gt) js
  | [], P => by rw [List.map_nil, List.map_nil]; show _ = 1 * _; omega
  | r :: rs, P => by
    have h1 := det_row (e := apN) (x := e2R h r) (y := gt r) (z := gt h) (a := gt h 0) (b := - gt r 0) (rs := rs.map (e2R h)) (gt h :: P) js fun c => by
      show gt h 0 * gt r c - gt r 0 * gt h c = gt h 0 * gt r c + - gt r 0 * gt h c
      rw [Int.neg_mul]
      omega
    have h2 : det apN (gt h :: P ++ gt h :: rs.map (e2R h)) js = 0 := det_dup js (List.mem_append_right _ (List.mem_cons_self ..))
    have h3 := ops_row (h := h) (js := js) rs (P ++ [gt r])
    rw [List.map_cons, List.map_cons, h1, h2]
    have e1 : gt h :: P ++ gt r :: rs.map (e2R h) = gt h :: (P ++ [gt r]) ++ rs.map (e2R h) := by simp
    have e2 : gt h :: P ++ gt r :: rs.map gt = gt h :: (P ++ [gt r]) ++ rs.map gt := by simp
    rw [e1, e2, h3, List.length_cons]
    show _ = (gt h 0 * powI (gt h 0) rs.length) * _
    rw [Int.mul_assoc]
    omega
theorem chio {h : Row} (rs : List Row) (js : List Nat) : powI (gt h 0) rs.length * det gt (h :: rs) (0 :: js.map (· + 1)) = gt h 0 * det (crs h) rs js := by
  have h1 := ops_row (h := h) (js := 0 :: js.map (· + 1)) rs []
  have h2 := det_map (e := gt) (e' := apN) (f := fun j : Nat => j) (g := gt) (fun r c => rfl) (h :: rs) (0 :: js.map (· + 1))
  rw [List.map_id', List.map_cons] at h2
  have h3 := det_first (e := apN) (r := gt h) (rs := rs.map (e2R h)) (c := 0) (cs := js.map (· + 1)) fun q hq => by
    obtain ⟨r, _, rfl⟩ := List.mem_map.mp hq
    show gt h 0 * gt r 0 - gt r 0 * gt h 0 = 0
    rw [Int.mul_comm]
    omega
  have h4 := det_map (e := crs h) (e' := apN) (f := fun j : Nat => j + 1) (g := e2R h) (fun r c => rfl) rs js
  show powI (gt h 0) rs.length * det gt (h :: rs) (0 :: js.map (· + 1)) = _
  rw [← h2]
  have h1' : det apN (gt h :: rs.map (e2R h)) (0 :: js.map (· + 1)) = powI (gt h 0) rs.length * det apN (gt h :: rs.map gt) (0 :: js.map (· + 1)) := h1
  rw [← h1', h3]
  have h4' : det apN (rs.map (e2R h)) (js.map (· + 1)) = det (crs h) rs js := h4
  rw [h4']
  rfl
section
variable {M rest : List Row} {h : Row} {k : Nat} {b : Int}
theorem gt_tail (r : Row) (j : Nat) : gt r.tail j = gt r (j + 1) := by
  unfold gt
  cases r <;> simp
theorem gt_nw {r : Row} (hr : r.length = k + 1) (hh : h.length = k + 1) {j : Nat} (hj : j < k) : gt (nwR b h r) j = (crs h r j).fdiv b := by
  have e1 : r.tail.length = k := by rw [List.length_tail]; omega
  have e2 : h.tail.length = k := by rw [List.length_tail]; omega
  have g1 : gt (nwR b h r) j = (nwR b h r)[j]'(by unfold nwR; rw [List.length_zipWith]; omega) := by
    unfold gt
    rw [List.getD_eq_getElem?_getD, List.getElem?_eq_getElem (by unfold nwR; rw [List.length_zipWith]; omega)]
    rfl
  have g2 : ∀ (l : Row) (hl : j < l.length), l[j] = gt l j := fun l hl => by
    unfold gt
    rw [List.getD_eq_getElem?_getD, List.getElem?_eq_getElem hl]
    rfl
  rw [g1]
  unfold nwR
  rw [List.getElem_zipWith, g2 _ (by omega), g2 _ (by omega), gt_tail, gt_tail]
  rfl
theorem exact_div {a b : Int} (hb : b ≠ 0) (hd : b ∣ a) : b * a.fdiv b = a := by
  obtain ⟨c, rfl⟩ := hd
  rw [Int.mul_fdiv_cancel_left c hb]
theorem two_minor (h r : Row) (j : Nat) : det gt [h, r] [0, j + 1] = crs h r j := by
  simp only [det_cons, E1_cons, E1]
  unfold det crs
  simp
  try exact Int.mul_comm _ _
theorem nw_exact (hb : b ≠ 0) (D : Div M (k + 1) b) (hM : ∀ r ∈ M, r.length = k + 1) (hh : h ∈ M) {r : Row} (hr : r ∈ M) {j : Nat} (hj : j < k) : crs h r j = b * gt (nwR b h r) j := by
  rw [gt_nw (hM r hr) (hM h hh) hj]
  refine (exact_div hb ?_).symm
  have := D [h, r] [0, j + 1] 1 (fun x hx => by
    rcases List.mem_cons.mp hx with rfl | hx
    · exact hh
    · rw [List.mem_singleton.mp hx]; exact hr) (fun x hx => by
    rcases List.mem_cons.mp hx with rfl | hx
    · omega
    · rw [List.mem_singleton.mp hx]; omega) rfl rfl
  rw [two_minor] at this
  have e1 : powI b 1 = b := by show b * 1 = b; omega
  rw [e1] at this
  exact this
theorem prodI_rep {α : Type} (b : Int) : ∀ rs : List α, prodI (rs.map fun _ => b) = powI b rs.length
  | [] => rfl
  | r :: rs => by
    rw [List.map_cons, List.length_cons]
    show b * prodI _ = b * powI b _
    rw [prodI_rep b rs]
theorem nw_minor (hb : b ≠ 0) (hp : gt h 0 ≠ 0) (D : Div M (k + 1) b) (hM : ∀ r ∈ M, r.length = k + 1) (hh : h ∈ M) {rs : List Row} (hrs : ∀ r ∈ rs, r ∈ M) {js : List Nat} (hj : ∀ j ∈ js, j < k) {m : Nat} (l1 : rs.length = m + 1) :
    powI b (m + 1) * det gt (rs.map (nwR b h)) js = powI (gt h 0) m * det gt (h :: rs) (0 :: js.map (· + 1)) := by
  have h1 := chio (h := h) rs js
  have h2 : det (crs h) rs js = det (fun r j => b * gt (nwR b h r) j) rs js := det_congr rs js fun r hr j hj' => nw_exact hb D hM hh (hrs r hr) (hj j hj')
  have h3 := det_scale (e := gt) (e' := fun r j => b * gt (nwR b h r) j) (fun _ => b) (nwR b h) (fun s c => rfl) rs js
  rw [prodI_rep] at h3
  rw [h2, h3, l1] at h1
  have h4 : gt h 0 * (powI b (m + 1) * det gt (rs.map (nwR b h)) js) = gt h 0 * (powI (gt h 0) m * det gt (h :: rs) (0 :: js.map (· + 1))) := by
    rw [← h1]
    show (gt h 0 * powI (gt h 0) m) * _ = _
    rw [Int.mul_assoc]
  exact Int.eq_of_mul_eq_mul_left hp h4
theorem div_step (hb : b ≠ 0) (hp : gt h 0 ≠ 0) (D : Div M (k + 1) b) (hM : ∀ r ∈ M, r.length = k + 1) (hh : h ∈ M) (hr : ∀ r ∈ rest, r ∈ M) : Div (rest.map (nwR b h)) k (gt h 0) := by
  intro rs' js m hrs hj l1 l2
  obtain ⟨rs, rfl, hrs0⟩ : ∃ rs : List Row, rs' = rs.map (nwR b h) ∧ ∀ r ∈ rs, r ∈ rest := by
    clear l1
    induction rs' with
    | nil => exact ⟨[], rfl, fun r hr => by cases hr⟩
    | cons r' rs' ih =>
      obtain ⟨rs, e, g⟩ := ih fun r hr => hrs r (List.mem_cons_of_mem _ hr)
      obtain ⟨r, hr', e'⟩ := List.mem_map.mp (hrs r' (List.mem_cons_self ..))
      exact ⟨r :: rs, by rw [List.map_cons, ← e, e'], fun x hx => by
        rcases List.mem_cons.mp hx with rfl | hx
        · exact hr'
        · exact g x hx⟩
  rw [List.length_map] at l1
  have h1 := nw_minor hb hp D hM hh (fun r hr' => hr r (hrs0 r hr')) hj l1
  have h2 := D (h :: rs) (0 :: js.map (· + 1)) (m + 1) (fun x hx => by
    rcases List.mem_cons.mp hx with rfl | hx
    · exact hh
    · exact hr x (hrs0 x hx)) (fun x hx => by
    rcases List.mem_cons.mp hx with rfl | hx
    · omega
    · obtain ⟨j, hj', rfl⟩ := List.mem_map.mp hx
      have := hj j hj'
      omega) (by rw [List.length_cons, l1]) (by rw [List.length_cons, List.length_map, l2])
  obtain ⟨y, hy⟩ := h2
  refine ⟨y, ?_⟩
  rw [hy] at h1
  have h3 : powI b (m + 1) * det gt (rs.map (nwR b h)) js = powI b (m + 1) * (powI (gt h 0) m * y) := by
    rw [h1]
    simp only [Int.mul_left_comm]
  exact Int.eq_of_mul_eq_mul_left (powI_ne hb _) h3
end
/-- how far one has come: the determinant is X -/
structure Bar (X : Int) (M : List Row) (s b : Int) : Prop where
  sq : ∀ r ∈ M, r.length = M.length
  b0 : b ≠ 0
  s1 : s = 1 ∨ s = -1
  div : Div M M.length b
  eq : s * dl M = X * powI b (M.length - 1)
  e0 : M = [] → s = 1
theorem bar_start {M : List Row} (sq : ∀ r ∈ M, r.length = M.length) : Bar (dl M) M 1 1 := ⟨sq, by decide, .inl rfl, div_one _ _, by rw [powI_one]; omega, fun _ => rfl⟩
theorem range_up (k : Nat) : List.range (k + 1) = 0 :: (List.range k).map (· + 1) := List.range_succ_eq_map
theorem bar_zero {X : Int} {M : List Row} {s b : Int} (B : Bar X M s b) (hn : M ≠ []) (h : ∀ r ∈ M, gt r 0 = 0) : X = 0 := by
  have hl : M.length = (M.length - 1) + 1 := by
    have := List.length_pos_iff.mpr hn
    omega
  have h1 : dl M = 0 := by
    unfold dl
    rw [hl, range_up]
    exact det_czero (pre := []) h
  have := B.eq
  rw [h1, Int.mul_zero] at this
  exact (Int.mul_eq_zero.mp this.symm).resolve_right (powI_ne B.b0 _)
theorem bar_step {X : Int} {M : List Row} {s b : Int} (B : Bar X M s b) (hl : 2 ≤ M.length) {pre post : List Row} {h : Row} (hM : M = pre ++ h :: post) (hp : gt h 0 ≠ 0) : Bar X ((pre ++ post).map (nwR b h)) (if pre.length % 2 = 0 then s else -s) (gt h 0) := by
  have hk : M.length = (pre ++ post).length + 1 := by rw [hM]; simp; omega
  have hh : h ∈ M := by rw [hM]; simp
  have hr : ∀ r ∈ pre ++ post, r ∈ M := fun r hr => by
    rw [hM]
    rcases List.mem_append.mp hr with w | w
    · exact List.mem_append_left _ w
    · exact List.mem_append_right _ (List.mem_cons_of_mem _ w)
  have sq : ∀ r ∈ M, r.length = (pre ++ post).length + 1 := fun r hr' => by rw [B.sq r hr', hk]
  have D : Div M ((pre ++ post).length + 1) b := by rw [← hk]; exact B.div
  refine ⟨fun r hr' => ?_, hp, ?_, ?_, ?_, fun h0 => ?_⟩
  · obtain ⟨r0, h0, rfl⟩ := List.mem_map.mp hr'
    unfold nwR
    rw [List.length_zipWith, List.length_tail, List.length_tail, sq r0 (hr r0 h0), sq h hh, List.length_map]
    omega
  · have := B.s1
    split <;> omega
  · rw [List.length_map]
    exact div_step B.b0 hp D sq hh hr
  · rw [List.length_map]
    obtain ⟨m, hm⟩ : ∃ m, (pre ++ post).length = m + 1 := ⟨(pre ++ post).length - 1, by omega⟩
    have h1 := nw_minor B.b0 hp D sq hh hr (js := List.range (pre ++ post).length) (fun j hj => List.mem_range.mp hj) hm
    rw [← range_up, ← hk] at h1
    have h2 : dl M = sg pre.length * det gt (h :: (pre ++ post)) (List.range M.length) := by
      unfold dl
      have e := det_move (e := gt) (x := h) (rs := post) pre (List.range M.length)
      rw [← hM] at e
      exact e
    have h3 : dl ((pre ++ post).map (nwR b h)) = det gt ((pre ++ post).map (nwR b h)) (List.range (pre ++ post).length) := by
      unfold dl
      rw [List.length_map]
    have h4 := B.eq
    rw [h2] at h4
    have e1 : M.length - 1 = m + 1 := by omega
    have e2 : (pre ++ post).length - 1 = m := by omega
    rw [e1] at h4
    rw [h3, e2]
    have e3 : (if pre.length % 2 = 0 then s else -s) = s * sg pre.length := by
      unfold sg
      split <;> omega
    rw [e3]
    refine Int.eq_of_mul_eq_mul_left (powI_ne B.b0 (m + 1)) ?_
    rw [Int.mul_left_comm, h1]
    have : s * sg pre.length * (powI (gt h 0) m * det gt (h :: (pre ++ post)) (List.range M.length)) = powI (gt h 0) m * (s * (sg pre.length * det gt (h :: (pre ++ post)) (List.range M.length))) := by
      simp only [Int.mul_assoc, Int.mul_left_comm]
    rw [this, h4]
    rw [Int.mul_left_comm, Int.mul_left_comm (powI b (m + 1)), Int.mul_comm (powI (gt h 0) m)]
  · have := List.map_eq_nil_iff.mp h0
    rw [this] at hk
    rw [List.length_nil] at hk
    omega
theorem bar_end {X : Int} {M : List Row} {s b : Int} (B : Bar X M s b) (hl : M.length ≤ 1) : X = match M with | [] => s | r :: _ => s * gt r 0 := by
  have h := B.eq
  match M, hl with
  | [], _ =>
    show X = s
    have e1 : s * dl [] = s := by show s * 1 = s; omega
    have e2 : X * powI b 0 = X := by show X * 1 = X; omega
    rw [e1] at h
    rw [h]
    exact e2.symm
  | [r], _ =>
    show X = s * gt r 0
    have e1 : dl [r] = gt r 0 := by
      show det gt [r] [0] = _
      rw [det_first (rs := []) (cs := []) (fun q hq => by cases hq)]
      show _ * 1 = _
      omega
    have e2 : X * powI b 0 = X := by show X * 1 = X; omega
    rw [e1] at h
    rw [h]
    exact e2.symm
end RM
namespace RM
open PySem PySem.Spec PyProof.Rows L2 CS RZ
/-! ### great numbers: *, //, & 1; enumerate; comb, perm, gcd -/
def mulW : D → D → Option D
  | .int i, .int j => if i.natAbs.log2 + j.natAbs.log2 < 1000000 then some (.int (i * j)) else none
  | _, _ => none
def fdvW : D → D → Option D
  | .int i, .int j => if j ≠ 0 ∧ j.natAbs.log2 < 9000 then some (.int (i.fdiv j)) else none
  | _, _ => none
def oddD : D → D → Option D
  | .int i, .int j => if 0 ≤ i ∧ j = 1 then some (.int (i % 2)) else none
  | _, _ => none
section
variable {X : Cx}
theorem od_mulW : OpD X (binaryOp .Mult) mulW := by
  refine ⟨_, op_mulW, fun T Hh H x y dx dy z Q hK s ix iy hg q => ?_⟩
  unfold mulW at hg
  split at hg
  · obtain ⟨c, rfl⟩ := ifs hg
    rw [ix.int', iy.int']
    exact ⟨_, _, rfl, rfl, c, q.flat fun _ => .int _⟩
  · cases hg
theorem op_fdivX : OpR X (binaryOp .FloorDiv) (rI (fun _ j => j ≠ 0 ∧ j.natAbs.log2 < 9000) fun i j => .int (i.fdiv j)) := opI fun i j _ _ _ _ _ hc q => floordiv_int hc.1 q (.inl (PyProof.noPylong_of_log2 hc.2))
theorem od_fdvW : OpD X (binaryOp .FloorDiv) fdvW := by
  refine ⟨_, op_fdivX, fun T Hh H x y dx dy z Q hK s ix iy hg q => ?_⟩
  unfold fdvW at hg
  split at hg
  · obtain ⟨c, rfl⟩ := ifs hg
    rw [ix.int', iy.int']
    exact ⟨_, _, rfl, rfl, c, q.flat fun _ => .int _⟩
  · cases hg
theorem od_odd : OpD X (binaryOp .BitAnd) oddD := by
  refine ⟨_, op_odd, fun T Hh H x y dx dy z Q hK s ix iy hg q => ?_⟩
  unfold oddD at hg
  split at hg
  · rename_i i j
    obtain ⟨⟨c1, c2⟩, rfl⟩ := ifs hg
    subst c2
    rw [ix.int', iy.int']
    have e1 : ((i.toNat : Nat) : Int) = i := by omega
    have e2 : (((i.toNat % 2 : Nat)) : Int) = i % 2 := by omega
    refine ⟨i.toNat, by rw [e1], rfl, ?_⟩
    rw [e2]
    exact q.flat fun _ => .int _
  · cases hg
end
/-! enumerate -/
def enumD (ds : List D) : List D := (List.range ds.length).zipWith (fun i d => .tuple [.int (i : Nat), d]) ds
def cEnumW (ta : CA) : CA := fun ρ n k ke => ta ρ n (fun ds ρ' n' => ∃ xs, ds = [.list xs] ∧ k (enumD xs) ρ' n') ke
def cEnumT (ta : CA) : CA := fun ρ n k ke => ta ρ n (fun ds ρ' n' => ∃ xs, ds = [.tuple xs] ∧ k (enumD xs) ρ' n') ke
theorem enumD_len (ds : List D) : (enumD ds).length = ds.length := by
  unfold enumD
  rw [List.length_zipWith, List.length_range]
  omega
theorem enumD_get {ds : List D} {i : Nat} {d : D} (h : (enumD ds)[i]? = some d) : ∃ d0, ds[i]? = some d0 ∧ d = .tuple [.int (i : Nat), d0] := by
  unfold enumD at h
  rw [List.getElem?_zipWith] at h
  cases e : ds[i]? with
  | none =>
    rw [e] at h
    cases e2 : (List.range ds.length)[i]? <;> rw [e2] at h <;> cases h
  | some d0 =>
    have hi := (List.getElem?_eq_some_iff.mp e).1
    rw [e, List.getElem?_eq_getElem (by rw [List.length_range]; exact hi), List.getElem_range] at h
    cases h
    exact ⟨d0, rfl, rfl⟩
theorem enum_wd {T : Tab} {Hb : Hp} {J : It} {G : Hp → Prop} {xs : List V} {dx : List D} (w : Walk J xs.length G (YPair (fun i => some (.int (i : Nat))) fun i => xs[i]?)) (hG : ∀ H, Same Hb H → G H) (ix : IsL T Hb xs dx) : WalkD T J (enumD dx) Hb := by
  refine ⟨⟨G, _, by rw [enumD_len, ← ix.length]; exact w, hG, fun i x H H2 d s y e => ?_⟩⟩
  obtain ⟨t, x0, y0, rfl, ht, rfl, e1, e2⟩ := y
  refine ⟨same_new ht, fun Hx s2 hn => ?_⟩
  have hT := hn t _ upd_same ht
  obtain ⟨d0, e3, rfl⟩ := enumD_get e
  obtain ⟨v1, g1, h1⟩ := ix.get e3
  have e1 : some (V.int (i : Nat)) = some x0 := e1
  have e2 : xs[i]? = some y0 := e2
  rw [e2] at g1
  cases g1
  cases e1
  exact .tup (.inl (.inl hT)) (.cons (.int _) (.cons (h1.same s2) .nil))
section
variable {X : Cx} {g : Glob} {xk : WX} {pos p : Pos} {x : Str} {e : Expr} {es : List Expr} {ta : CA}
theorem pdi_enum {tpos : Pos} {elts : List Expr} {kk : Nat} (G : Good X g) (hg : Gl X "enumerate") (hm : X.mg "enumerate" = none) (ha : PDA X g xk [e] ta) (hs : starEach [e] X.env = [(false, eval e X.env)] := by rfl) : PDI X g xk (.Tuple elts kk tpos) (.Call (.Name "enumerate" p) [e] [] pos) (cEnumW ta) := by
  refine ⟨pi_imp (pi_enum hg hm ha.pa hs) fun σ H R r => ?_⟩
  obtain ⟨C, ρ, n, O, k, ke, hK, E, t, x, q⟩ := r
  refine ⟨C, ρ, n, O, _, ke, hK, E, t, x, fun ds ρ1 n1 vs H1 O1 k1 E1 S1 i1 => ?_⟩
  obtain ⟨xs, rfl, k1⟩ := k1
  have eK := hK.1.trans G.K
  obtain ⟨v, rfl, iv⟩ := i1.one
  obtain ⟨a, us, rfl, ha, ra⟩ := iv.list'
  exact ⟨a, us, rfl, SqL.of (hid_le _ _ ha), q _ _ _ _ _ _ k1 E1 S1 (enum_wd walk_enum (fun H s => SqL.of (s _ _ ha)) ra)⟩
/-! functions of math -/
def gComb (ds : List D) (z : D) : Prop := ∃ a b : Int, ds = [.int a, .int b] ∧ 0 ≤ a ∧ 0 ≤ b ∧ a < 18000 ∧ z = .int (PySem.W.mcComb a b)
def gPerm (ds : List D) (z : D) : Prop := ∃ a b : Int, ds = [.int a, .int b] ∧ 0 ≤ a ∧ 0 ≤ b ∧ a < 18000 ∧ b ≤ 18000 ∧ z = .int (PySem.W.mcPerm a b)
theorem cd_comb : CallD X (.builtin "math.comb") gComb := by
  refine ⟨fun vs H Q => ∃ a b : Int, vs = [.int a, .int b] ∧ 0 ≤ a ∧ 0 ≤ b ∧ a < 18000 ∧ Q (.int (PySem.W.mcComb a b)) H, fun pins s σ H vs us Q I r h => ?_, fun T Hh H vs ds z Q hK s i g q => ?_⟩
  · obtain ⟨a, b, rfl, h1, h2, h3, q⟩ := h
    obtain ⟨t, u, rfl⟩ := Vals.int2 r
    exact PySem.W.mc_comb h1 h2 (by omega) (.inr (by omega)) fun _ => ⟨.int _, H, I.tok _, ⟨_, rfl⟩, q⟩
  · obtain ⟨a, b, rfl, h1, h2, h3, rfl⟩ := g
    obtain ⟨v, u, rfl, iv, iu⟩ := i.two
    rw [iv.int', iu.int']
    exact ⟨a, b, rfl, h1, h2, h3, q.flat fun _ => .int _⟩
theorem cd_perm : CallD X (.builtin "math.perm") gPerm := by
  refine ⟨fun vs H Q => ∃ a b : Int, vs = [.int a, .int b] ∧ 0 ≤ a ∧ 0 ≤ b ∧ a < 18000 ∧ b ≤ 18000 ∧ Q (.int (PySem.W.mcPerm a b)) H, fun pins s σ H vs us Q I r h => ?_, fun T Hh H vs ds z Q hK s i g q => ?_⟩
  · obtain ⟨a, b, rfl, h1, h2, h3, h4, q⟩ := h
    obtain ⟨t, u, rfl⟩ := Vals.int2 r
    exact PySem.W.mc_perm h1 h2 (by omega) (by omega) fun _ => ⟨.int _, H, I.tok _, ⟨_, rfl⟩, q⟩
  · obtain ⟨a, b, rfl, h1, h2, h3, h4, rfl⟩ := g
    obtain ⟨v, u, rfl, iv, iu⟩ := i.two
    rw [iv.int', iu.int']
    exact ⟨a, b, rfl, h1, h2, h3, h4, q.flat fun _ => .int _⟩
theorem pd_callM {id : String} {u : List D → D → Prop} (hc : CallD X (.builtin id) u) (G : Good X g) (hg : Gl X x) (hm : X.mg x = some (.builtin id)) (ha : PDA X g xk (e :: es) ta) (hdb : (x == ("__debug__" : Str)) = false := by decide)
    (he : starEach (e :: es) X.env = (false, eval e X.env) :: starEach es X.env := by rfl) (hpl : (backTo pos (starEach es X.env)).any (·.1) = false := by rfl) : PD X g xk (.Call (.Name x p) (e :: es) [] pos) (cCB u ta) := by
  obtain ⟨r, hr, hg'⟩ := hc
  exact ⟨PE.imp (pe_callBfun hr hg hm ha.pa hdb he hpl) fun σ H Q h => cb_use G hg' h⟩
end
end RM
namespace RM
open PySem PySem.Spec PyProof.Rows L2 CS RZ
/-! ### choices and arrangements -/
def bn : Nat → Nat → Int
  | _, 0 => 1
  | 0, _ + 1 => 0
  | n + 1, k + 1 => bn n k + bn n (k + 1)
theorem bn_zero (n : Nat) : bn n 0 = 1 := by cases n <;> rfl
theorem bn_big : ∀ (n k : Nat), n < k → bn n k = 0
  | 0, k + 1, _ => rfl
  | n + 1, k + 1, h => by
    show bn n k + bn n (k + 1) = 0
    rw [bn_big n k (by omega), bn_big n (k + 1) (by omega)]
    rfl
theorem bn_fac : ∀ (s m k : Nat), m + k = s → bn (m + k) k * (fac k * fac m) = fac (m + k)
  | _, m, 0, _ => by
    rw [bn_zero]
    show 1 * (1 * fac m) = fac m
    omega
  | s, 0, k + 1, h => by
    have h1 := bn_fac (s - 1) 0 k (by omega)
    have e1 : 0 + (k + 1) = k + 1 := by omega
    have e2 : 0 + k = k := by omega
    rw [e1]
    rw [e2] at h1
    show (bn k k + bn k (k + 1)) * (((k + 1 : Nat) : Int) * fac k * fac 0) = ((k + 1 : Nat) : Int) * fac k
    rw [bn_big k (k + 1) (by omega)]
    have e3 : fac 0 = 1 := rfl
    rw [e3, Int.mul_one] at h1 ⊢
    rw [Int.add_zero, Int.mul_left_comm, h1]
  | s, m + 1, k + 1, h => by
    have h1 := bn_fac (s - 1) (m + 1) k (by omega)
    have h2 := bn_fac (s - 1) m (k + 1) (by omega)
    have e1 : m + 1 + (k + 1) = (m + k + 1) + 1 := by omega
    have e2 : m + 1 + k = m + k + 1 := by omega
    have e3 : m + (k + 1) = m + k + 1 := by omega
    rw [e2] at h1
    rw [e3] at h2
    rw [e1]
    show (bn (m + k + 1) k + bn (m + k + 1) (k + 1)) * (((k + 1 : Nat) : Int) * fac k * (((m + 1 : Nat) : Int) * fac m)) = (((m + k + 1) + 1 : Nat) : Int) * fac (m + k + 1)
    have g1 : fac (m + 1) = ((m + 1 : Nat) : Int) * fac m := rfl
    have g2 : fac (k + 1) = ((k + 1 : Nat) : Int) * fac k := rfl
    rw [Int.add_mul]
    have a1 : bn (m + k + 1) k * (((k + 1 : Nat) : Int) * fac k * (((m + 1 : Nat) : Int) * fac m)) = ((k + 1 : Nat) : Int) * fac (m + k + 1) := by
      rw [← g1, ← h1]
      simp only [Int.mul_assoc, Int.mul_left_comm]
    have a2 : bn (m + k + 1) (k + 1) * (((k + 1 : Nat) : Int) * fac k * (((m + 1 : Nat) : Int) * fac m)) = ((m + 1 : Nat) : Int) * fac (m + k + 1) := by
      rw [← g2, ← h2]
      simp only [Int.mul_assoc, Int.mul_left_comm]
    rw [a1, a2, ← Int.add_mul]
    congr 1
    omega
theorem fac_ne (n : Nat) : fac n ≠ 0 := by have := fac_pos n; omega
theorem fp_fac (a : Nat) : ∀ k : Nat, k ≤ a → Builtin.Math.fallingProduct (a : Int) k * fac (a - k) = fac a
  | 0, _ => by
    rw [PySem.W.mc_fp_zero]
    show 1 * fac a = fac a
    omega
  | k + 1, h => by
    have ih := fp_fac a k (by omega)
    rw [PySem.W.mc_fp_succ]
    obtain ⟨m, hm⟩ : ∃ m, a - k = m + 1 := ⟨a - k - 1, by omega⟩
    have e1 : a - (k + 1) = m := by omega
    rw [hm] at ih
    have e2 : fac (m + 1) = ((m + 1 : Nat) : Int) * fac m := rfl
    have e3 : (a : Int) - (k : Int) = ((m + 1 : Nat) : Int) := by omega
    rw [e1, e3, ← ih, e2, Int.mul_assoc]
theorem fp_bn (a m : Nat) (h : m ≤ a) : Builtin.Math.fallingProduct (a : Int) m = bn a m * fac m := by
  have h1 := fp_fac a m h
  have h2 := bn_fac a (a - m) m (by omega)
  have e1 : a - m + m = a := by omega
  rw [e1] at h2
  refine Int.eq_of_mul_eq_mul_right (fac_ne (a - m)) ?_
  rw [h1, Int.mul_assoc, h2]
theorem comb_bn (a m : Nat) (h : m ≤ a) : Builtin.Math.fallingProduct (a : Int) m / Builtin.Math.fallingProduct (m : Int) m = bn a m := by
  have h1 := fp_fac m m (Nat.le_refl _)
  have e1 : m - m = 0 := by omega
  rw [e1] at h1
  have e2 : fac 0 = 1 := rfl
  rw [e2, Int.mul_one] at h1
  rw [h1, fp_bn a m h]
  exact Int.mul_ediv_cancel _ (fac_ne m)
theorem comb_fac (N n : Nat) : PySem.W.mcComb ((N + n : Nat) : Int) (n : Int) * (fac n * fac N) = fac (N + n) := by
  by_cases c : n ≤ N
  · rw [PySem.W.mcComb_at (m := (n : Int)) (by omega) (by omega) (by omega), Int.toNat_natCast, comb_bn (N + n) n (by omega)]
    exact bn_fac _ N n rfl
  · rw [PySem.W.mcComb_at (m := (N : Int)) (by omega) (by omega) (by omega), Int.toNat_natCast, comb_bn (N + n) N (by omega)]
    have := bn_fac _ n N rfl
    rw [Nat.add_comm n N] at this
    rw [Int.mul_comm (fac n)]
    exact this
/-- in how many orders so many things of each kind can stand -/
def arrG : List Nat → Int → Nat → Int
  | [], w, _ => w
  | n :: ns, w, l => arrG ns (w * PySem.W.mcComb ((l + n : Nat) : Int) (n : Int)) (l + n)
def arrF (ns : List Nat) : Int := arrG ns 1 0
theorem arrG_spec : ∀ (ns : List Nat) (w : Int) (l : Nat), arrG ns w l * (prodI (ns.map fac) * fac l) = w * fac (l + ns.sum)
  | [], w, l => by
    show w * (1 * fac l) = w * fac (l + 0)
    rw [Int.one_mul]
    rfl
  | n :: ns, w, l => by
    have ih := arrG_spec ns (w * PySem.W.mcComb ((l + n : Nat) : Int) (n : Int)) (l + n)
    have h1 := comb_fac l n
    rw [List.map_cons, List.sum_cons]
    show arrG ns (w * PySem.W.mcComb ((l + n : Nat) : Int) (n : Int)) (l + n) * ((fac n * prodI (ns.map fac)) * fac l) = w * fac (l + (n + ns.sum))
    generalize PySem.W.mcComb ((l + n : Nat) : Int) (n : Int) = cb at *
    generalize arrG ns (w * cb) (l + n) = A at *
    refine Int.eq_of_mul_eq_mul_right (fac_ne (l + n)) ?_
    have e1 : A * ((fac n * prodI (ns.map fac)) * fac l) * fac (l + n) = (A * (prodI (ns.map fac) * fac (l + n))) * (fac n * fac l) := by
      simp only [Int.mul_assoc, Int.mul_left_comm, Int.mul_comm]
    rw [e1, ih, Nat.add_assoc]
    have e2 : w * cb * fac (l + (n + ns.sum)) * (fac n * fac l) = w * fac (l + (n + ns.sum)) * (cb * (fac n * fac l)) := by
      simp only [Int.mul_assoc, Int.mul_left_comm]
    rw [e2, h1]
theorem arr_spec (ns : List Nat) : arrF ns * prodI (ns.map fac) = fac ns.sum := by
  have := arrG_spec ns 1 0
  rw [Nat.zero_add, Int.one_mul] at this
  have e : fac 0 = 1 := rfl
  rw [e, Int.mul_one] at this
  exact this
theorem facs_pos (ns : List Nat) : 0 < prodI (ns.map fac) := prodI_pos _ fun a ha => by
  obtain ⟨n, _, rfl⟩ := List.mem_map.mp ha
  exact fac_pos n
theorem arr_pos (ns : List Nat) : 0 < arrF ns := by
  have h1 := arr_spec ns
  have h2 := facs_pos ns
  have h3 := fac_pos ns.sum
  rcases Int.lt_trichotomy (arrF ns) 0 with c | c | c
  · have := Int.mul_neg_of_neg_of_pos c h2
    omega
  · rw [c, Int.zero_mul] at h1
    omega
  · exact c
theorem arr_le (ns : List Nat) : arrF ns ≤ fac ns.sum := by
  have h1 := arr_spec ns
  have h2 := facs_pos ns
  have h3 := arr_pos ns
  rw [← h1]
  have h4 : arrF ns * 1 ≤ arrF ns * prodI (ns.map fac) := Int.mul_le_mul_of_nonneg_left (by omega) (by omega)
  omega
theorem fac_le (n : Nat) : n ≤ 200 → fac n ≤ 2 ^ (8 * n) := by
  induction n with
  | zero => intro _; decide
  | succ n ih =>
    intro h
    have h1 := ih (by omega)
    have h2 := fac_pos n
    show ((n + 1 : Nat) : Int) * fac n ≤ _
    have e : (2 : Int) ^ (8 * (n + 1)) = 256 * 2 ^ (8 * n) := by
      rw [show 8 * (n + 1) = 8 * n + 8 from rfl, Int.pow_add]
      omega
    rw [e]
    exact Int.mul_le_mul (by omega) h1 (by omega) (by decide)
end RM
namespace RM
open PySem PySem.Spec PyProof.Rows L2 CS RZ
/-! ### arrangements -/
abbrev n_arrangements : List Str := ["numbers", "number", "ways", "length"]
def ar_b : CS := cSq (cSet 3 (cOp addD (cVar 3) (cVar 1))) (cSet 2 (cOp mulW (cVar 2) (cCB gComb (cCons (cVar 3) (cCons (cVar 1) (cNil))))))
def cs_arrangements : CS := cSq (cAsg (stT (stCons (stN 2) (stCons (stN 3) (stNil)))) (cTup (cCons (cC (.int 1)) (cCons (cC (.int 0)) (cNil))))) (cSq (cFor (cSeq (cVar 0)) (stN 1) ar_b) (cRet (cVar 2)))
def natsD (ns : List Nat) : List D := ns.map fun n => .int (n : Nat)
def sdArr : SpD := fun ds n k _ => ∃ x ns, ds = [x] ∧ seqD x = some (natsD ns) ∧ ns.sum ≤ 150 ∧ k (.int (arrF ns)) n
theorem log2_lt {a b : Nat} (h : a < 2 ^ b) (hb : 0 < b) : a.log2 < b := PySem.Flt.log2_lt_of hb h
theorem arrG_app : ∀ (a b : List Nat) (w : Int) (l : Nat), arrG (a ++ b) w l = arrG b (arrG a w l) (l + a.sum)
  | [], b, w, l => rfl
  | x :: a, b, w, l => by
    rw [List.cons_append, List.sum_cons, ← Nat.add_assoc]
    exact arrG_app a b _ _
theorem arr_snoc (a : List Nat) (x : Nat) : arrF (a ++ [x]) = arrF a * PySem.W.mcComb ((a.sum + x : Nat) : Int) (x : Int) := by
  unfold arrF
  rw [arrG_app, Nat.zero_add]
  rfl
theorem arr_small {ns : List Nat} (h : ns.sum ≤ 200) : (arrF ns).natAbs < 2 ^ 1601 := by
  have h1 := arr_le ns
  have h2 := arr_pos ns
  have h3 := fac_le ns.sum h
  have h4 : (2 : Int) ^ (8 * ns.sum) ≤ 2 ^ 1600 := by
    have : (2 : Nat) ^ (8 * ns.sum) ≤ 2 ^ 1600 := Nat.pow_le_pow_right (by decide) (by omega)
    exact_mod_cast this
  have h5 : arrF ns ≤ 2 ^ 1600 := Int.le_trans h1 (Int.le_trans h3 h4)
  have h6 : (arrF ns).natAbs ≤ 2 ^ 1600 := by
    have e : ((2 ^ 1600 : Nat) : Int) = (2 : Int) ^ 1600 := by rw [Int.natCast_pow]; rfl
    omega
  exact Nat.lt_of_le_of_lt h6 (Nat.pow_lt_pow_right (by decide) (by decide))
theorem comb_small {N n : Nat} (h : N + n ≤ 200) : (PySem.W.mcComb ((N + n : Nat) : Int) (n : Int)).natAbs < 2 ^ 1601 := by
  have h0 : arrF [N, n] = PySem.W.mcComb ((N + n : Nat) : Int) (n : Int) := by
    have h1 := arr_snoc [N] n
    have h2 : arrF [N] = 1 := by
      have := arr_spec [N]
      rw [List.map_cons, List.map_nil, List.sum_cons, List.sum_nil, Nat.add_zero] at this
      have e : prodI [fac N] = fac N := by show fac N * 1 = _; omega
      rw [e] at this
      have h3 := fac_ne N
      exact Int.eq_of_mul_eq_mul_right h3 (by rw [this]; omega)
    have e1 : [N] ++ [n] = [N, n] := rfl
    rw [e1, h2] at h1
    have e2 : [N].sum = N := by simp
    rw [e2] at h1
    rw [h1]
    omega
  rw [← h0]
  exact arr_small (by simp; omega)
section
variable {e : EndsD} {n : Nat} {x : D}
theorem ar_loop : ∀ (ns done : List Nat) (t1 : Option Sl), (done ++ ns).sum ≤ 150 → (∀ t1, e.nx [some (.v x), t1, some (.v (.int (arrF (done ++ ns)))), some (.v (.int ((done ++ ns).sum : Nat)))] n) →
    cForL (stN 1) ar_b (natsD ns) [some (.v x), t1, some (.v (.int (arrF done))), some (.v (.int (done.sum : Nat)))] n e
  | [], done, t1, _, q => by
    rw [List.append_nil] at q
    exact q t1
  | m :: ns, done, t1, hs, q => by
    have hs2 : done.sum + m ≤ 150 := by simp at hs; omega
    have e1 : (done.sum : Int) + (m : Int) = ((done.sum + m : Nat) : Int) := by omega
    have b1 := log2_lt (arr_small (ns := done) (by omega)) (by decide)
    have b2 := log2_lt (comb_small (N := done.sum) (n := m) (by omega)) (by decide)
    refine ⟨[some (.v x), some (.v (.int (m : Nat))), some (.v (.int (arrF done))), some (.v (.int (done.sum : Nat)))], rfl, ?_⟩
    refine ⟨.int ((done.sum : Int) + (m : Int)), rfl, ?_⟩
    rw [e1]
    refine ⟨_, ⟨_, _, rfl, by omega, by omega, by omega, rfl⟩, _, if_pos (by omega), ?_⟩
    rw [← arr_snoc]
    have e2 : done.sum + m = (done ++ [m]).sum := by simp
    have := ar_loop ns (done ++ [m]) (some (.v (.int (m : Nat)))) (by rw [List.append_assoc]; exact hs) fun t1 => by rw [List.append_assoc]; exact q t1
    rw [← e2] at this
    exact this
theorem himp_arrangements (ds : List D) (n : Nat) (k : D → Nat → Prop) (ke : Xv → Nat → Prop) (h : sdArr ds n k ke) (he : e.rt = k) : cs_arrangements (startE n_arrangements ds) n e := by
  obtain ⟨x, ns, rfl, hx, hs, q⟩ := h
  subst he
  refine ⟨by show 2 ≤ lim; decide, _, rfl, natsD ns, hx, ?_⟩
  exact ar_loop ns [] none (by rw [List.nil_append]; exact hs) fun t1 => q
end
end RM
namespace RM
open PySem PySem.Spec PyProof.Rows L2 CS RZ
/-! ### determinant -/
abbrev n_determinant : List Str := ["rows", "left", "sign", "before", "fit", "head", "rest", "row", "at", "worth", "above"]
def dt_1 : CS := cOwn 4 (cLc (cEnumW (cCons (cVar 1) (cNil))) (stT (stCons (stN 8) (stCons (stN 7) (stNil)))) (cB (cOp neD (cOp atD (cVar 7) (cC (.int 0))) (cC (.int 0)))) (cVar 8) [8, 7])
def dt_2 : CS := cIfS (cNotT (cTru (.nm 4))) (cRet (cC (.int 0))) (cNext)
def dt_3 : CS := cAsg (stT (stCons (stN 5) (stCons (stN 6) (stNil)))) (cTup (cCons (cOp atD (cVar 1) (cOp atD (cVar 4) (cC (.int 0)))) (cCons (cOp addD (cSl (cVar 1) (cNo) (cPart (cOp atD (cVar 4) (cC (.int 0))))) (cSl (cVar 1) (cPart (cOp addD (cOp atD (cVar 4) (cC (.int 0))) (cC (.int 1)))) (cNo))) (cNil))))
def dt_4 : CS := cSet 2 (cIf (cB (cOp eqD (cOp oddD (cOp atD (cVar 4) (cC (.int 0))) (cC (.int 1))) (cC (.int 0)))) (cVar 2) (cNeg (cVar 2)))
def dt_6 : CS := cSet 3 (cOp atD (cVar 5) (cC (.int 0)))
def dt_t : CT := cB (cOp gtD (cCB gLen (cCons (cVar 1) (cNil))) (cC (.int 1)))
def dt_r : CS := cRet (cIf (cTru (.nm 1)) (cOp mulW (cVar 2) (cOp atD (cOp atD (cVar 1) (cC (.int 0))) (cC (.int 0)))) (cC (.int 1)))
abbrev rowI (r : Row) : D := .list (intsD r)
/-- all entries are below 2 ^ B -/
def Bd (M : List Row) (B : Nat) : Prop := ∀ r ∈ M, ∀ y ∈ r, y.natAbs < 2 ^ B
theorem gt_bd {r : Row} {B : Nat} (h : ∀ y ∈ r, y.natAbs < 2 ^ B) (j : Nat) : (gt r j).natAbs < 2 ^ B := by
  unfold gt
  rw [List.getD_eq_getElem?_getD]
  cases e : r[j]? with
  | none => exact Nat.two_pow_pos B
  | some y => exact h y (List.mem_of_getElem? e)
theorem at_row {r : Row} (h : 0 < r.length) : atD (rowI r) (.int 0) = some (.int (gt r 0)) := by
  cases r with
  | nil => cases h
  | cons a r => exact atI_zero _ _
theorem at_ix {l : List D} {f : Nat} {d : D} (h : l[f]? = some d) : atD (.list l) (.int (f : Nat)) = some d := atI_nat h
theorem cutL_take {ds : List D} {f : Nat} (h : f ≤ ds.length) : cutL ds none (some ((f : Nat) : Int)) = ds.take f := by
  unfold cutL
  rw [show HT.sIx ds.length 0 none = 0 from HT.sIx_none _ _, show HT.sIx ds.length ds.length (some ((f : Nat) : Int)) = min f ds.length from HT.sIx_nat _ _ _]
  rw [Nat.min_eq_left h]
  simp
abbrev vd (x : D) (l s b t4 t5 t6 t7 t8 t9 t10 : Option Sl) : En := [some (.v x), l, s, b, t4, t5, t6, t7, t8, t9, t10]
theorem mulW_ok {i j : Int} {a b : Nat} (hi : i.natAbs < 2 ^ a) (hj : j.natAbs < 2 ^ b) (ha : 0 < a) (hb : 0 < b) (h : a + b ≤ 900000) : mulW (.int i) (.int j) = some (.int (i * j)) := by
  have h1 := log2_lt hi ha
  have h2 := log2_lt hj hb
  exact if_pos (by omega)
theorem fdvW_ok {i j : Int} {b : Nat} (h0 : j ≠ 0) (hj : j.natAbs < 2 ^ b) (hb : 0 < b) (h : b ≤ 9000) : fdvW (.int i) (.int j) = some (.int (i.fdiv j)) := by
  have h2 := log2_lt hj hb
  exact if_pos ⟨h0, by omega⟩
theorem fdiv_le {i b : Int} (hb : b ≠ 0) (hd : b ∣ i) : (i.fdiv b).natAbs ≤ i.natAbs := by
  have h := exact_div hb hd
  have h2 : (b * i.fdiv b).natAbs = b.natAbs * (i.fdiv b).natAbs := Int.natAbs_mul _ _
  rw [h] at h2
  rw [h2]
  exact Nat.le_mul_of_pos_left _ (Int.natAbs_pos.mpr hb)
theorem pow_two2 (B : Nat) : 2 ^ B * 2 ^ B = 2 ^ (2 * B) := by rw [← Nat.pow_add]; congr 1; omega
/-- the next matrix is not much greater -/
theorem nw_bd {M rest : List Row} {h : Row} {k B : Nat} {b : Int} (hb : b ≠ 0) (D : Div M (k + 1) b) (sq : ∀ r ∈ M, r.length = k + 1) (hh : h ∈ M) (hr : ∀ r ∈ rest, r ∈ M) (bd : Bd M B) : Bd (rest.map (nwR b h)) (2 * B + 1) := by
  intro r' hr' y hy
  obtain ⟨r, hr0, rfl⟩ := List.mem_map.mp hr'
  obtain ⟨j, hj⟩ := List.mem_iff_getElem?.mp hy
  obtain ⟨hjl, e⟩ := List.getElem?_eq_some_iff.mp hj
  have hl : (nwR b h r).length = k := by
    unfold nwR
    rw [List.length_zipWith, List.length_tail, List.length_tail, sq r (hr r hr0), sq h hh]
    omega
  have hjk : j < k := by rw [hl] at hjl; exact hjl
  have ey : y = gt (nwR b h r) j := by
    unfold gt
    rw [List.getD_eq_getElem?_getD, hj]
    rfl
  rw [ey, gt_nw (sq r (hr r hr0)) (sq h hh) hjk]
  have hx := nw_exact hb D sq hh (hr r hr0) hjk
  have hd : b ∣ crs h r j := ⟨_, hx⟩
  refine Nat.lt_of_le_of_lt (fdiv_le hb hd) ?_
  have b1 := gt_bd (bd h hh) 0
  have b2 := gt_bd (bd r (hr r hr0)) (j + 1)
  have b3 := gt_bd (bd r (hr r hr0)) 0
  have b4 := gt_bd (bd h hh) (j + 1)
  have m1 : (gt h 0 * gt r (j + 1)).natAbs < 2 ^ (2 * B) := by
    rw [Int.natAbs_mul, ← pow_two2]
    exact Nat.mul_lt_mul'' b1 b2
  have m2 : (gt r 0 * gt h (j + 1)).natAbs < 2 ^ (2 * B) := by
    rw [Int.natAbs_mul, ← pow_two2]
    exact Nat.mul_lt_mul'' b3 b4
  have e2 : 2 ^ (2 * B + 1) = 2 ^ (2 * B) + 2 ^ (2 * B) := by rw [Nat.pow_succ]; omega
  unfold crs
  rw [e2]
  omega
/-- with their places -/
def ixL {α : Type} : Nat → List α → List (Nat × α)
  | _, [] => []
  | i, a :: l => (i, a) :: ixL (i + 1) l
theorem ix_get {α : Type} : ∀ (l : List α) (s i : Nat), (ixL s l)[i]? = (l[i]?).map fun a => (s + i, a)
  | [], s, i => by simp [ixL]
  | a :: l, s, 0 => by simp [ixL]
  | a :: l, s, i + 1 => by
    show (ixL (s + 1) l)[i]? = (l[i]?).map _
    rw [ix_get l (s + 1) i]
    have : s + 1 + i = s + (i + 1) := by omega
    rw [this]
theorem enum_map {α : Type} (f : α → D) (M : List α) : enumD (M.map f) = (ixL 0 M).map fun p => .tuple [.int (p.1 : Nat), f p.2] := by
  unfold enumD
  refine List.ext_getElem? fun i => ?_
  rw [List.getElem?_zipWith, List.getElem?_map, List.length_map, List.getElem?_map, ix_get]
  cases h : M[i]? with
  | none => cases (List.range M.length)[i]? <;> rfl
  | some a =>
    have hi := (List.getElem?_eq_some_iff.mp h).1
    rw [List.getElem?_eq_getElem (by rw [List.length_range]; exact hi), List.getElem_range, Nat.zero_add]
    rfl
theorem ix_mem {α : Type} {l : List α} {p : Nat × α} (h : p ∈ ixL 0 l) : l[p.1]? = some p.2 := by
  obtain ⟨i, hi⟩ := List.mem_iff_getElem?.mp h
  rw [ix_get, Nat.zero_add] at hi
  cases e : l[i]? with
  | none => rw [e] at hi; cases hi
  | some a =>
    rw [e] at hi
    cases hi
    exact e
theorem ix_all {α : Type} {l : List α} {a : α} (h : a ∈ l) : ∃ i, (i, a) ∈ ixL 0 l := by
  obtain ⟨i, hi⟩ := List.mem_iff_getElem?.mp h
  refine ⟨i, List.mem_iff_getElem?.mpr ⟨i, ?_⟩⟩
  rw [ix_get, hi, Nat.zero_add]
  rfl
theorem ix_len {α : Type} : ∀ (l : List α) (s : Nat), (ixL s l).length = l.length
  | [], _ => rfl
  | a :: l, s => by
    show (ixL (s + 1) l).length + 1 = l.length + 1
    rw [ix_len l (s + 1)]
section
variable {e : EndsD} {n : Nat} {x : D} {t4 t5 t6 : Option Sl} {M : List Row} {s b : Int}
theorem odd_ok (f : Nat) : oddD (.int (f : Nat)) (.int 1) = some (.int (((f : Nat) : Int) % 2)) := by
  unfold oddD
  exact if_pos ⟨by omega, rfl⟩
theorem zip_rows (f g : Row) : List.zipWith pairD (intsD f) (intsD g) = (f.zip g).map fun p => .tuple [.int p.1, .int p.2] := by
  unfold intsD
  rw [List.zipWith_map_left, List.zipWith_map_right]
  induction f generalizing g with
  | nil => rfl
  | cons a f ih =>
    cases g with
    | nil => rfl
    | cons c g =>
      rw [List.zipWith_cons_cons, List.zip_cons_cons, List.map_cons, ih]
      rfl
theorem zip_map (F : Int → Int → Int) : ∀ f g : Row, ((f.zip g).map fun p => PyData.int (F p.1 p.2)) = intsD (List.zipWith F f g)
  | [], _ => rfl
  | _ :: _, [] => rfl
  | a :: f, c :: g => by
    rw [List.zip_cons_cons, List.map_cons, zip_map F f g]
    rfl
end
end RM
namespace RM
open PySem PySem.Spec PyProof.Rows L2 CS RZ
/-! ### exit_numbers, orders, last_ways -/
section
variable {e : EndsD}
theorem lim_k : (1000 : Nat) ≤ lim := by decide
end
end RM
namespace RM
open PySem PySem.Spec PyProof.Rows L2 CS RZ
/-! ### tree_sum -/
end RM
namespace RM
open PySem PySem.Spec PyProof.Rows L2 CS RZ
/-! ### how_many is how many there are -/
end RM
namespace RM
open PySem PySem.Spec PyProof.Rows L2 CS RZ
/-! ### how_many -/
end RM
set_option maxHeartbeats 4000000
namespace RM
open PySem PySem.Spec PyProof.Rows L2 CS RZ
/-! ### a op b op c as a test -/
/-! ### for a, b in zip(text, list) -/
end RM
set_option maxHeartbeats 4000000
namespace RM
open PySem PySem.Spec PyProof.Rows L2 CS RZ
/-! ### k17: _law_chosen, _law_all_steps -/
end RM
set_option maxHeartbeats 4000000
namespace RM
open PySem PySem.Spec PyProof.Rows L2 CS RZ
/-! ### how many journeys rows of any order have -/
theorem canon_filt {R : List Tri} (h : (R.map pr).Nodup) : (canon R).Perm (R.filter fun t => decide (0 < t.2.2)) := by
  have n1 : (canon R).Nodup := List.Pairwise.of_map pr (fun a b c e => c (by rw [e])) (canon_nodup R)
  have n2 : R.Nodup := List.Pairwise.of_map pr (fun a b c e => c (by rw [e])) h
  refine (List.perm_ext_iff_of_nodup n1 (n2.sublist List.filter_sublist)).mpr fun t => ?_
  rw [List.mem_filter, decide_eq_true_iff]
  constructor
  · intro ht
    obtain ⟨h1, h2, h3⟩ := canon_mem ht
    obtain ⟨u, hu, e⟩ := List.mem_map.mp h1
    have e2 : t.2.2 = u.2.2 := by
      rw [h3, ← e, ← numAt_sum h, numAt_mem h hu]
    have : t = u := Prod.ext (congrArg Prod.fst e).symm (Prod.ext (congrArg Prod.snd e).symm e2)
    rw [this]
    exact ⟨hu, by rw [← e2]; exact h2⟩
  · rintro ⟨ht, h0⟩
    unfold canon
    have e1 : sumAt R (pr t) = t.2.2 := by rw [← numAt_sum h, numAt_mem h ht]
    refine List.mem_map.mpr ⟨pr t, List.mem_filter.mpr ⟨?_, ?_⟩, ?_⟩
    · rw [(List.mergeSort_perm _ _).mem_iff, mem_firsts]
      exact List.mem_map_of_mem ht
    · rw [e1]
      exact decide_eq_true h0
    · rw [e1]
      rfl
theorem ex_perm {A B : List Tri} (h : A.Perm B) : (exL A).Perm (exL B) := by
  unfold exL
  exact h.flatMap_right _
structure Rw (R : List Tri) : Prop where
  g : GoodL R
  fine : Fine R
  nd : (R.map pr).Nodup
  len : R.length ≤ 30
theorem Rw.ex {R : List Tri} (h : Rw R) : (exL (canon R)).Perm (exL R) := by
  have := ex_perm (canon_filt h.nd)
  rwa [ex_filter] at this
theorem Rw.cn {R : List Tri} (h : Rw R) : Cn (canon R) := cn_canon h.fine h.g h.len
/-- what how_many and Counts ask of rows -/
theorem Rw.pc {R : List Tri} (h : Rw R) {s : Str} (gs : GoodS s) (hs : s ≠ "none") (hn : ∀ t ∈ R, t.1 ≠ "none" ∧ t.2.1 ≠ "none") : Pc s (canon R) := by
  refine ⟨h.cn, gs, h.cn.len, fun p hp => ?_⟩
  rcases (places_mem p).mp hp with rfl | ⟨t, ht, h2⟩
  · exact hs
  · have hm := (canon_filt h.nd).mem_iff.mp ht
    have hm := (List.mem_filter.mp hm).1
    rcases h2 with rfl | rfl
    · exact (hn t hm).1
    · exact (hn t hm).2
end RM
set_option maxHeartbeats 4000000
namespace RM
open PySem PySem.Spec PyProof.Rows L2 CS RZ
/-! ### k17: round trips from one place; three places in a row -/
theorem fac_step {n : Nat} (h : 0 < n) : fac n = (n : Nat) * fac (n - 1) := by
  obtain ⟨m, rfl⟩ : ∃ m, n = m + 1 := ⟨n - 1, by omega⟩
  show ((m : Int) + 1) * fac m = ((m + 1 : Nat) : Int) * fac (m + 1 - 1)
  rw [Nat.add_sub_cancel]
  congr 1
end RM
set_option maxHeartbeats 4000000
namespace RM
open PySem PySem.Spec PyProof.Rows L2 CS RZ
/-! ### k17: _law_great_right -/
theorem okS_ints {is : List Int} (h : is.length ≤ 1000) : okS 4 (.list (intsD is)) := ⟨by unfold intsD; rw [List.length_map]; exact h, fun d hd => by
  obtain ⟨i, _, rfl⟩ := List.mem_map.mp hd
  trivial⟩
end RM
set_option maxHeartbeats 4000000
namespace RM
open PySem PySem.Spec PyProof.Rows L2 CS RZ
/-! ### k17, by hand -/
end RM
set_option maxHeartbeats 4000000
namespace RM
open PySem PySem.Spec PyProof.Rows L2 CS RZ
end RM
set_option maxHeartbeats 4000000
namespace RM
open PySem PySem.Spec PyProof.Rows L2 CS RZ
/-! ### k17: drawn turns -/
section
variable {e : EndsD} {n : Nat} {t1 t2 t3 t4 t5 t6 t7 t8 : Option Sl} {ss : List Str}
/-- the counts of a drawn walk, or of drawn steps -/
structure D17 (ss : List Str) (L : List Tri) : Prop where
  cn : Cn L
  sub : ∀ t ∈ L, t.1 ∈ ss ∧ t.2.1 ∈ ss
  len : (exL L).length ≤ 10
  s4 : ∀ s ∈ ss, s ∈ tagPool
  le : ss.length ≤ 4
theorem D17.pc {L : List Tri} {s : Str} (h : D17 ss L) (hs : s ∈ ss) : Pc s L := by
  have := pc_of h.cn.fine h.cn.g h.cn.len (tag_good _ (h.s4 _ hs)) (tag_none _ (h.s4 _ hs)) (fun t ht => ⟨tag_none _ (h.s4 _ (h.sub t ht).1), tag_none _ (h.s4 _ (h.sub t ht).2)⟩)
  rwa [h.cn.id] at this
theorem D17.size {L : List Tri} {s : Str} (h : D17 ss L) (hs : s ∈ ss) : (8 * (exL L).length + 2) * 2 ^ (placesL s L).length ≤ 9000 := by
  have h1 : (placesL s L).length ≤ ss.length := nodup_le places_nd fun p hp => by
    rcases (places_mem p).mp hp with rfl | ⟨t, ht, rfl | rfl⟩
    · exact hs
    · exact (h.sub t ht).1
    · exact (h.sub t ht).2
  have h2 : 2 ^ (placesL s L).length ≤ 2 ^ 4 := Nat.pow_le_pow_right (by decide) (Nat.le_trans h1 h.le)
  have h3 := h.len
  have h4 : (8 * (exL L).length + 2) * 2 ^ (placesL s L).length ≤ (8 * 10 + 2) * 2 ^ 4 := Nat.mul_le_mul (by omega) h2
  exact Nat.le_trans h4 (by decide)
theorem D17.nn {L : List Tri} {s : Str} (h : D17 ss L) (hs : s ∈ ss) : nn ([], s, L) ≤ 9864101 := nn_five (tag_good _ (h.s4 _ hs)) h.cn (by have := h.le; omega) h.sub (by have := h.len; omega)
end
end RM
namespace RM
open PySem PySem.Spec PyProof.Rows L2 CS
/-! ### values that _law_same asks, with long lists -/
end RM
namespace RM
open PySem PySem.Spec PyProof.Rows L2 CS RZ
/-! ### the list of all journeys stands in order, each once -/
/-! ### turned journeys -/
end RM
set_option maxHeartbeats 4000000
namespace RM
open PySem PySem.Spec PyProof.Rows L2 CS RZ
/-! ### k12: a drawn journey turned -/
end RM
namespace RM
open PySem PySem.Spec PyProof.Rows L2 CS RZ
/-! ### zip of two sequences, each a list or a tuple (true: a tuple) -/
def SqK (K : PySem.W.Frag) (H : Hp) : Bool → Addr → List V → Prop
  | true, a, xs => SqT K H a xs
  | false, a, xs => SqL K H a xs
def itK (h : Heap) : Bool → Addr → Addr → Nat → Prop
  | true, i, a, n => h.IsTupleIter i a n
  | false, i, a, n => h.IsListIter i a n
def isK (h : Heap) : Bool → Addr → Array Value → Prop
  | true, a, its => h.IsTuple a its
  | false, a, its => h.IsList a its
def objK (t : Bool) (a : Addr) : Obj := { cls := .type (cond t "tuple_iterator" "list_iterator"), data := .fields #[.ref a, .int 0 0] }
theorem sqK_get {X : Cx} {pins : List (Addr × Obj)} {σ : L2.St} {H : Hp} {s : Shared} (I : Inv X pins σ H s) : ∀ {t : Bool} {a : Addr} {xs : List V}, SqK X.K H t a xs → ∃ its, Vals xs its ∧ isK s.heap t a its.toArray ∧ a < s.heap.objs.size
  | true, a, xs, h => by
    obtain ⟨its, v, p, _⟩ := I.tuple h
    have p2 : s.heap.IsTuple a its.toArray := p
    obtain ⟨o, g, _⟩ := id p2
    exact ⟨its, v, p2, Heap.lt_size g⟩
  | false, a, xs, h => by
    obtain ⟨its, v, p, _⟩ := I.list h
    exact ⟨its, v, p.isList, p.lt⟩
theorem sqK_inj {X : Cx} {pins : List (Addr × Obj)} {σ : L2.St} {H : Hp} {s : Shared} (I : Inv X pins σ H s) : ∀ {t : Bool} {a : Addr} {xs ys : List V}, SqK X.K H t a xs → SqK X.K H t a ys → xs = ys
  | true, _, _, _, h, h2 => I.tuple_inj h h2
  | false, _, _, _, h, h2 => I.list_inj h h2
theorem drawK {prog : Program} {w : World} {A : Around} (hd : A.handled = none) {i a : Addr} (ne : a ≠ i) (its : Array Value) : ∀ t : Bool, Draws prog w A i [i, a] its.size (fun n v => its[n]? = some v) (fun n h => itK h t i a n ∧ isK h t a its)
  | true => Draws.tuple hd i a ne its
  | false => Draws.list hd i a ne its
theorem beginK {a : Addr} (its : Array Value) : ∀ t : Bool, Begins (.ref a) (objK t a) (fun h => isK h t a its)
  | true => begins_tuple a its
  | false => begins_list a its
theorem itK_keep {h h' : Heap} {i a : Addr} {n : Nat} (k : ∀ o, h.get? i = some o → h'.get? i = some o) : ∀ {t : Bool}, itK h t i a n → itK h' t i a n
  | true, x => Heap.IsTupleIter.at x k
  | false, x => Heap.IsListIter.at x k
theorem itK_obj {h : Heap} {i a : Addr} {n : Nat} : ∀ {t : Bool}, itK h t i a n → ∃ o f, h.get? i = some o ∧ o.data = .fields f
  | true, ⟨o, g, _, d⟩ => ⟨o, _, g, d⟩
  | false, ⟨o, g, _, d⟩ => ⟨o, _, g, d⟩
theorem itK_new {h : Heap} {i a : Addr} : ∀ {t : Bool}, h.get? i = some (objK t a) → itK h t i a 0
  | true, g => ⟨_, g, rfl, rfl⟩
  | false, g => ⟨_, g, rfl, rfl⟩
def ItzM (K : PySem.W.Frag) (ta tb : Bool) (a b : Addr) : It :=
  ⟨fun i H => ∃ (xs ys : List V) (x y : V), SqK K H ta a xs ∧ SqK K H tb b ys ∧ xs[i]? = some x ∧ ys[i]? = some y,
    fun i H v H' => ∃ T x y, v = .ref T ∧ H T = none ∧ H' = upd H T (.tup [x, y]) ∧ (∀ xs, SqK K H ta a xs → xs[i]? = some x) ∧ ∀ ys, SqK K H tb b ys → ys[i]? = some y,
    fun i H => ∃ xs ys : List V, SqK K H ta a xs ∧ SqK K H tb b ys ∧ i ≤ xs.length ∧ i ≤ ys.length ∧ (xs.length = i ∨ ys.length = i)⟩
theorem sepM {z TI TO i1 i2 a b : Addr} (D : ZipApart z TI TO i1 i2 a b) : ZipSep2 z TI TO i1 i2 [i1, a] [i2, b] where
  TIz := D.TIz
  TOz := D.TOz
  TITO := D.TITO
  TIi1 := D.TIi1
  mem1 := List.mem_cons_self ..
  zf1 := by simp; exact ⟨D.i1z.symm, D.l1z.symm⟩
  Tf1 := by simp; exact ⟨D.TOi1, D.l1TO.symm⟩
  TIi2 := D.TIi2
  mem2 := List.mem_cons_self ..
  zf2 := by simp; exact ⟨D.i2z.symm, D.l2z.symm⟩
  Tf2 := by simp; exact ⟨D.TOi2, D.l2TO.symm⟩
  sep1_2 := by simp; exact ⟨D.i12, D.l2i1.symm⟩
  sep2_1 := by simp; exact ⟨D.i12.symm, D.l1i2.symm⟩
/-- how such a zip stands when n pairs are out -/
def ZmAt (ta tb : Bool) (a b z TI TO i1 i2 : Addr) (n : Nat) (h : Heap) : Prop :=
  (IsZip h z TI TO .none ∧ IsTupOf2 h TI (.ref i1) (.ref i2) ∧ ∃ u v, IsTupOf2 h TO u v) ∧ itK h ta i1 a n ∧ itK h tb i2 b n
theorem turn_zipM {P : Program} {w : World} {K : PySem.W.Frag} {elts : List Expr} {kk : Nat} {tpos : Pos} {ta tb : Bool} {a b z TI TO i1 i2 : Addr} (D : ZipApart z TI TO i1 i2 a b) :
    Turn P w K (.Tuple elts kk tpos) (ItzM K ta tb a b) [z, TI, TO, i1, i2] z (ZmAt ta tb a b z TI TO i1 i2) := by
  have five : ∀ {c : Addr}, c ∈ [z, TI, TO, i1, i2] ↔ (c = z ∨ c = TI ∨ c = TO ∨ c = i1 ∨ c = i2) := fun {c} => by simp
  have there : ∀ n h, ZmAt ta tb a b z TI TO i1 i2 n h → ∀ c ∈ [z, TI, TO, i1, i2], ∃ o, h.get? c = some o ∧ ∀ v, o.data ≠ .cell v := by
    rintro n h ⟨⟨s1, s2, u, v, s3⟩, s4, s5⟩ c hc
    have no : ∀ {o : Obj} {f : Array Value}, o.data = .fields f → ∀ v, o.data ≠ .cell v := fun e v q => by
      rw [q] at e
      cases e
    obtain ⟨o1, f1, g1, d1⟩ := itK_obj s4
    obtain ⟨o2, f2, g2, d2⟩ := itK_obj s5
    rcases five.mp hc with rfl | rfl | rfl | rfl | rfl
    · exact ⟨_, s1, no rfl⟩
    · exact ⟨_, s2, fun _ => Data.noConfusion⟩
    · exact ⟨_, s3, fun _ => Data.noConfusion⟩
    · exact ⟨o1, g1, no d1⟩
    · exact ⟨o2, g2, no d2⟩
  have keep : ∀ n h h', ZmAt ta tb a b z TI TO i1 i2 n h → (∀ c ∈ [z, TI, TO, i1, i2], ∀ o, h.get? c = some o → h'.get? c = some o) → ZmAt ta tb a b z TI TO i1 i2 n h' := by
    rintro n h h' ⟨⟨s1, s2, u, v, s3⟩, s4, s5⟩ k
    have k' : ∀ c, (c = z ∨ c = TI ∨ c = TO ∨ c = i1 ∨ c = i2) → ∀ o, h.get? c = some o → h'.get? c = some o := fun c hc => k c (five.mpr hc)
    exact ⟨⟨k' _ (.inl rfl) _ s1, k' _ (.inr (.inl rfl)) _ s2, u, v, k' _ (.inr (.inr (.inl rfl))) _ s3⟩, itK_keep (k' _ (.inr (.inr (.inr (.inl rfl))))) s4, itK_keep (k' _ (.inr (.inr (.inr (.inr rfl))))) s5⟩
  refine ⟨five.mpr (.inl rfl), there, keep, ?_, ?_, fun A i s Q E st q => wpAny_pyIter_zip st.1.1 q⟩
  · intro X eP ew eK calm i pins s σ H E I own st go
    subst eP ew eK
    obtain ⟨xs, ys, x, y, lx, ly, ix, iy⟩ := go
    obtain ⟨its1, vals1, pl1, _⟩ := sqK_get I lx
    obtain ⟨its2, vals2, pl2, _⟩ := sqK_get I ly
    obtain ⟨u1, hu1, ru1⟩ := vals1.get ix
    obtain ⟨u2, hu2, ru2⟩ := vals2.get iy
    have l1 : i < its1.toArray.size := by
      have h1 := (List.getElem?_eq_some_iff.mp hu1).1
      simpa using h1
    have l2 : i < its2.toArray.size := by
      have h1 := (List.getElem?_eq_some_iff.mp hu2).1
      simpa using h1
    have W := WalksT.zipD2 (sepM D) (drawK (prog := X.prog) (w := X.w) (show X.A.in1.handled = none from I.ok.hd calm) D.l1i1 its1.toArray ta) (drawK (prog := X.prog) (w := X.w) (show X.A.in1.handled = none from I.ok.hd calm) D.l2i2 its2.toArray tb)
    refine W.item i s _ E (Nat.lt_min.mpr ⟨l1, l2⟩) ⟨st.1.1, st.1.2.1, st.1.2.2, ⟨st.2.1, pl1⟩, st.2.2, pl2⟩ fun T us h1 tk pt nT tup mid k1 => ⟨_, rfl, ?_⟩
    obtain ⟨v1, v2, h2, h3, rfl⟩ := pt
    have e1 : v1 = u1 := by
      rw [List.getElem?_toArray, hu1] at h2
      exact (Option.some.inj h2).symm
    have e2 : v2 = u2 := by
      rw [List.getElem?_toArray, hu2] at h3
      exact (Option.some.inj h3).symm
    subst e1 e2
    refine W.go elts kk tpos i T { s with heap := h1, toks := tk } _ E mid fun h3 st3 k2 => ?_
    have nw : T ∉ [z, TO, i1, i2] := W.apart i T h1 mid
    have tup3 : h3.IsTuple T #[v1, v2] := by
      obtain ⟨o, g1, g2⟩ := tup
      exact ⟨o, k2 T o nw g1, g2⟩
    have kept : ∀ c o, c ∉ [z, TI, TO, i1, i2] → s.heap.get? c = some o → h3.get? c = some o := fun c o na g => by
      have na' : c ∉ [z, TO, i1, i2] := fun q => na (by simp at q ⊢; rcases q with q | q | q | q <;> simp [q])
      exact k2 c o na' (k1 c o na' g)
    have J := I.turnedNew (t' := tk) (ob := .tup [x, y]) kept own nT ⟨by show 2 ≤ sizeLine; decide, _, .cons ru1 (.cons ru2 .nil), tup3⟩
    refine ⟨.ref T, _, J, rfl, ⟨T, x, y, rfl, I.hok.fresh nT, rfl, fun l hl => by rw [sqK_inj I hl lx]; exact ix, fun l hl => by rw [sqK_inj I hl ly]; exact iy⟩, ⟨⟨st3.1, st3.2.1, st3.2.2.1⟩, st3.2.2.2.1.1, st3.2.2.2.2.1⟩, fun c hc => ?_⟩
    obtain ⟨o, g, _⟩ := there i s.heap st c hc
    rw [upd_ne (Nat.ne_of_lt (Nat.lt_of_lt_of_le (Heap.lt_size g) nT))]
    exact (own c hc).1
  · intro X eP ew eK calm i pins s σ H E I own st stop
    subst eP ew eK
    obtain ⟨xs, ys, lx, ly, l1, l2, last⟩ := stop
    obtain ⟨its1, vals1, pl1, _⟩ := sqK_get I lx
    obtain ⟨its2, vals2, pl2, _⟩ := sqK_get I ly
    have el1 := vals1.length
    have el2 := vals2.length
    have W := WalksT.zipD2 (sepM D) (drawK (prog := X.prog) (w := X.w) (show X.A.in1.handled = none from I.ok.hd calm) D.l1i1 its1.toArray ta) (drawK (prog := X.prog) (w := X.w) (show X.A.in1.handled = none from I.ok.hd calm) D.l2i2 its2.toArray tb)
    have ei : i = min its1.toArray.size its2.toArray.size := by
      simp only [List.size_toArray]
      omega
    refine W.done s _ E (ei ▸ ⟨st.1.1, st.1.2.1, st.1.2.2, ⟨st.2.1, pl1⟩, st.2.2, pl2⟩) fun h1 tk k1 => ⟨rfl, ?_⟩
    exact I.turnedL (t' := tk) (fun c o na g => k1 c o (fun q => na (by simp at q ⊢; rcases q with q | q | q | q <;> simp [q])) g) own
def iZipM (K : PySem.W.Frag) (ta : TA) : TI := fun σ H R => ta σ H fun vs H1 => ∃ u v a b xs ys, vs = [.ref a, .ref b] ∧ SqK K H1 u a xs ∧ SqK K H1 v b ys ∧ R (ItzM K u v a b) H1
theorem pi_zipM {X : Cx} {e e2 : Expr} {ta : TA} {p pos tpos : Pos} {elts : List Expr} {kk : Nat} (hg : Gl X "zip") (hm : X.mg "zip" = none) (ha : PA X [e, e2] ta)
    (h1 : starEach [e, e2] X.env = (false, eval e X.env) :: starEach [e2] X.env := by rfl) (h2 : (backTo pos (starEach [e2] X.env)).any (·.1) = false := by rfl) :
    PI X (.Tuple elts kk tpos) (.Call (.Name "zip" p) [e, e2] [] pos) (iZipM X.K ta) := by
  constructor
  intro pins s σ H R I h
  refine Call_ ?_
  refine ld_blt I hg hm PyProof.Rows.boot_zip ?_
  refine PyProof.Rows.callWith_type1 ?_ h1 h2
  refine thn (ha.run pos pins s σ H _ I h) fun us s1 told => ?_
  obtain ⟨vs, H1, J, rel, u, v, a, b, xs, ys, rfl, lx, ly, q⟩ := told
  match us, rel with
  | [_, _], .cons rfl (.cons rfl .nil) =>
    obtain ⟨its1, vals1, pl1, lt1⟩ := sqK_get J lx
    obtain ⟨its2, vals2, pl2, lt2⟩ := sqK_get J ly
    refine zip_begins2 (beginK its1.toArray u) (beginK its2.toArray v) pl1 pl2 fun h3 g0 g1 g2 g3 g4 sz k => wpAny_pyIter_zip g0 ?_
    refine ⟨_, [s1.heap.objs.size + 4, s1.heap.objs.size + 2, s1.heap.objs.size + 3, s1.heap.objs.size, s1.heap.objs.size + 1], _, _, H1, rfl, J.kept (t' := s1.toks) k, turn_zipM (PySem.W.ktu_apart s1.heap.objs.size a b lt1 lt2), ⟨⟨g0, g1, _, _, g2⟩, itK_new g3, itK_new g4⟩, fun c hc => ?_, q⟩
    have le : s1.heap.objs.size ≤ c := by
      simp only [List.mem_cons, List.not_mem_nil, or_false] at hc
      rcases hc with rfl | rfl | rfl | rfl | rfl
      all_goals first | exact Nat.le_refl _ | exact Nat.le_add_right _ _
    exact J.fpOk le (J.hok.fresh le)
theorem walk_zipM {K : PySem.W.Frag} {u v : Bool} {a b : Addr} {xs ys : List V} {n : Nat} (hn : n = min xs.length ys.length) : Walk (ItzM K u v a b) n (fun H => SqK K H u a xs ∧ SqK K H v b ys) (YPair (fun i => xs[i]?) fun i => ys[i]?) where
  goes i H hi h := ⟨xs, ys, xs[i]'(by omega), ys[i]'(by omega), h.1, h.2, List.getElem?_eq_getElem _, List.getElem?_eq_getElem _⟩
  stops H h := ⟨xs, ys, h.1, h.2, by omega, by omega, by omega⟩
  yields i H v H' hi h y := by
    obtain ⟨T, x, z, e1, e2, e3, e4, e5⟩ := y
    exact ⟨T, x, z, e1, e2, e3, e4 xs h.1, e5 ys h.2⟩
theorem sqK_same {K : PySem.W.Frag} {H H' : Hp} (s : Same H H') : ∀ {t : Bool} {a : Addr} {xs : List V}, SqK K H t a xs → SqK K H' t a xs
  | true, _, _, h => sqt_same s h
  | false, _, _, h => s.seq h
def cZipM (ta : CA) : CA := fun ρ n k ke => ta ρ n (fun ds ρ' n' => ∃ d1 d2 xs ys, ds = [d1, d2] ∧ seqD d1 = some xs ∧ seqD d2 = some ys ∧ k (List.zipWith pairD xs ys) ρ' n') ke
theorem seq_in {T : Tab} {H : Hp} {v : V} {d : D} {xs : List D} (h : seqD d = some xs) (i : Is T H v d) : ∃ t a us, v = .ref a ∧ SqK T.K H t a us ∧ IsL T H us xs := by
  cases d with
  | list l =>
    cases h
    obtain ⟨a, us, rfl, ha, ra⟩ := i.list'
    exact ⟨false, a, us, rfl, SqL.of ha, ra⟩
  | tuple l =>
    cases h
    obtain ⟨a, us, rfl, ha, ra⟩ := i.tup'
    exact ⟨true, a, us, rfl, ha, ra⟩
  | _ => cases h
section
variable {X : Cx} {g : Glob} {xk : WX}
theorem pdi_zipM {e e2 : Expr} {ta : CA} {p pos tpos : Pos} {elts : List Expr} {kk : Nat} (G : Good X g) (hg : Gl X "zip") (hm : X.mg "zip" = none) (ha : PDA X g xk [e, e2] ta)
    (h1 : starEach [e, e2] X.env = (false, eval e X.env) :: starEach [e2] X.env := by rfl) (h2 : (backTo pos (starEach [e2] X.env)).any (·.1) = false := by rfl) : PDI X g xk (.Tuple elts kk tpos) (.Call (.Name "zip" p) [e, e2] [] pos) (cZipM ta) := by
  refine ⟨pi_imp (pi_zipM hg hm ha.pa h1 h2) fun σ H R r => ?_⟩
  obtain ⟨C, ρ, n, O, k, ke, hK, E, t, x, q⟩ := r
  refine ⟨C, ρ, n, O, _, ke, hK, E, t, x, fun ds ρ1 n1 vs H1 O1 k1 E1 S1 i1 => ?_⟩
  obtain ⟨d1, d2, xs, ys, rfl, s1, s2, k1⟩ := k1
  have eK := hK.1.trans G.K
  obtain ⟨v, u, rfl, iv, iu⟩ := i1.two
  obtain ⟨ta', a, us, rfl, ha, ra⟩ := seq_in s1 iv
  obtain ⟨tb', b, ws, rfl, hb, rb⟩ := seq_in s2 iu
  exact ⟨ta', tb', a, b, us, ws, rfl, eK ▸ sqK_same hid_le ha, eK ▸ sqK_same hid_le hb, q _ _ _ _ _ _ k1 E1 S1 (zip_wd (walk_zipM rfl) (fun H s => ⟨eK ▸ sqK_same s ha, eK ▸ sqK_same s hb⟩) ra rb)⟩
end
end RM
namespace RM
open PySem PySem.Spec PyProof.Rows L2 CS RZ
/-! ### determinant of rows that are lists or tuples, in any mix -/
def dm_in : CE := cLc (cZipM (cCons (cSl (cVar 7) (cPart (cC (.int 1))) (cNo)) (cCons (cSl (cVar 5) (cPart (cC (.int 1))) (cNo)) (cNil)))) (stT (stCons (stN 9) (stCons (stN 10) (stNil)))) (cYes) (cOp fdvW (cOp subD (cOp mulW (cOp atD (cVar 5) (cC (.int 0))) (cVar 9)) (cOp mulW (cOp atD (cVar 7) (cC (.int 0))) (cVar 10))) (cVar 3)) [9, 10]
def dm_5 : CS := cOwn 1 (cLc (cSeq (cVar 6)) (stN 7) (cYes) dm_in [7])
def dm_b : CS := cSq dt_1 (cSq dt_2 (cSq dt_3 (cSq dt_4 (cSq dm_5 dt_6))))
def cs_determinantM : CS := cSq (cAsg (stT (stCons (stN 1) (stCons (stN 2) (stCons (stN 3) (stNil))))) (cTup (cCons (cCF gList' (cCons (cVar 0) (cNil))) (cCons (cC (.int 1)) (cCons (cC (.int 1)) (cNil)))))) (cSq (cWh dt_t dm_b) dt_r)
abbrev Rb := Bool × Row
def rowB : Rb → D
  | (true, r) => .tuple (intsD r)
  | (false, r) => .list (intsD r)
abbrev mB (R : List Rb) : D := .list (R.map rowB)
abbrev unB (R : List Rb) : List Row := R.map Prod.snd
def sdDetM : SpD := fun ds n k _ => ∃ x R B, ds = [x] ∧ seqD x = some (R.map rowB) ∧ (∀ r ∈ R, r.2.length = R.length) ∧ R.length ≤ 100 ∧ 0 < B ∧ Bd (unB R) B ∧ (B + 1) * 2 ^ R.length ≤ 9000 ∧ k (.int (dl (unB R))) n
theorem seq_rowB : ∀ r : Rb, seqD (rowB r) = some (intsD r.2)
  | (true, _) => rfl
  | (false, _) => rfl
theorem at_rowB {r : Rb} (h : 0 < r.2.length) : atD (rowB r) (.int 0) = some (.int (gt r.2 0)) := by
  rw [atD_seq (seq_rowB r)]
  have := at_row h
  rw [atD_seq (x := rowI r.2) rfl] at this
  exact this
theorem sl_rowB : ∀ r : Rb, sliceD (rowB r) (some 1) none = some (rowB (r.1, r.2.tail))
  | (true, r) => by
    show some (PyData.tuple (cutL (intsD r) (some 1) none)) = _
    rw [cutL_tail]
    unfold intsD
    rw [← List.map_tail]
    rfl
  | (false, r) => by
    show some (PyData.list (cutL (intsD r) (some 1) none)) = _
    rw [cutL_tail]
    unfold intsD
    rw [← List.map_tail]
    rfl
def fitB (R : List Rb) : List (Nat × Rb) := (ixL 0 R).filter fun p => decide (gt p.2.2 0 ≠ 0)
section
variable {e : EndsD} {n : Nat} {x : D} {t4 t5 t6 : Option Sl} {R : List Rb} {s b : Int}
theorem dm_1_ok (hp : ∀ r ∈ R, 0 < r.2.length) (hl : R.length ≤ 100) (q : e.nx (vd x (some (.v (mB R))) (some (.v (.int s))) (some (.v (.int b))) (some (.own (.list ((fitB R).map fun p => .int (p.1 : Nat))))) t5 t6 none none none none) n) :
    dt_1 (vd x (some (.v (mB R))) (some (.v (.int s))) (some (.v (.int b))) t4 t5 t6 none none none none) n e := by
  refine ⟨R.map rowB, rfl, ?_⟩
  rw [enum_map]
  show cLcL _ _ _ _ _ (vd x (some (.v (mB R))) (some (.v (.int s))) (some (.v (.int b))) t4 t5 t6 none none none none) n [] _
  refine map_run (fun p : Nat × Rb => .tuple [.int (p.1 : Nat), rowB p.2]) (fun p => decide (gt p.2.2 0 ≠ 0)) (fun p => .int (p.1 : Nat)) (ixL 0 R) [] (fun p hp' => ⟨vd x (some (.v (mB R))) (some (.v (.int s))) (some (.v (.int b))) t4 t5 t6 (some (.v (rowB p.2))) (some (.v (.int (p.1 : Nat)))) none none, rfl, rfl, fun K1 hK => ?_, fun K2 hK => hK⟩) ?_ ?_
  · refine ⟨_, at_rowB (hp p.2 (List.mem_of_getElem? (ix_mem hp'))), _, neD_int _ _, _, rfl, ?_⟩
    have : (!(gt p.2.2 0 == 0)) = decide (gt p.2.2 0 ≠ 0) := by
      by_cases c : gt p.2.2 0 = 0 <;> simp [c]
    rw [this]
    exact hK
  · rw [ix_len, List.length_nil]
    have : (100 : Nat) ≤ lim := by decide
    omega
  · exact ⟨by show 4 < 11; decide, q⟩
theorem dm_2_ok (l : List Nat) (q0 : l = [] → e.rt (.int 0) n) (q1 : l ≠ [] → e.nx (vd x (some (.v (mB R))) (some (.v (.int s))) (some (.v (.int b))) (some (.own (.list (l.map fun i => .int (i : Nat))))) t5 t6 none none none none) n) :
    dt_2 (vd x (some (.v (mB R))) (some (.v (.int s))) (some (.v (.int b))) (some (.own (.list (l.map fun i => .int (i : Nat))))) t5 t6 none none none none) n e := by
  cases l with
  | nil => exact ⟨rfl, _, false, rfl, rfl, rfl, q0 rfl⟩
  | cons i l => exact ⟨rfl, _, true, rfl, rfl, rfl, q1 (by simp)⟩
theorem dm_3_ok {l : List D} {f : Nat} {pre post : List Rb} {h : Rb} (hM : R = pre ++ h :: post) (hf : pre.length = f) (hl : R.length ≤ 100)
    (q : e.nx (vd x (some (.v (mB R))) (some (.v (.int s))) (some (.v (.int b))) (some (.v (.list (.int (f : Nat) :: l)))) (some (.v (rowB h))) (some (.v (mB (pre ++ post)))) none none none none) n) :
    dt_3 (vd x (some (.v (mB R))) (some (.v (.int s))) (some (.v (.int b))) (some (.own (.list (.int (f : Nat) :: l)))) t5 t6 none none none none) n e := by
  have hg : (R.map rowB)[f]? = some (rowB h) := by
    rw [List.getElem?_map, hM, ← hf]
    simp
  have c1 : cutL (R.map rowB) none (some ((f : Nat) : Int)) = pre.map rowB := by
    rw [cutL_take (by rw [List.length_map, hM]; simp; omega), ← List.map_take, hM, ← hf]
    simp
  have c2 : cutL (R.map rowB) (some (((f + 1 : Nat)) : Int)) none = post.map rowB := by
    rw [cut_drop (by rw [List.length_map, hM]; simp; omega), ← List.map_drop, hM, ← hf]
    simp
  have e1 : ((f : Nat) : Int) + 1 = ((f + 1 : Nat) : Int) := by omega
  refine ⟨_, atI_zero _ _, _, at_ix hg, ?_⟩
  refine ⟨_, atI_zero _ _, (f : Nat), rfl, _, rfl, ?_⟩
  refine ⟨_, atI_zero _ _, .int ((f : Nat) + 1), rfl, ((f : Nat) : Int) + 1, rfl, _, rfl, ?_⟩
  rw [e1, c1, c2]
  refine ⟨_, add_lst ?_, ?_⟩
  · rw [List.length_map, List.length_map]
    have e2 : R.length = pre.length + (post.length + 1) := by rw [hM]; simp
    have : (100 : Nat) ≤ lim := by decide
    omega
  · rw [← List.map_append]
    exact ⟨by show 2 ≤ lim; decide, _, rfl, q⟩
theorem dm_4_ok {l : List D} {f : Nat} {w5 w6 : Option Sl} (q : e.nx (vd x (some (.v (mB R))) (some (.v (.int (if f % 2 = 0 then s else -s)))) (some (.v (.int b))) (some (.v (.list (.int (f : Nat) :: l)))) w5 w6 none none none none) n) :
    dt_4 (vd x (some (.v (mB R))) (some (.v (.int s))) (some (.v (.int b))) (some (.v (.list (.int (f : Nat) :: l)))) w5 w6 none none none none) n e := by
  refine ⟨_, atI_zero _ _, .int (((f : Nat) : Int) % 2), odd_ok f, _, eqD_int _ _, _, rfl, ?_⟩
  by_cases c : f % 2 = 0
  · have e1 : ((((f : Nat) : Int) % 2) == 0) = true := by
      rw [beq_iff_eq]
      omega
    rw [e1]
    rw [if_pos c] at q
    exact q
  · have e1 : ((((f : Nat) : Int) % 2) == 0) = false := by
      rw [beq_eq_false_iff_ne]
      omega
    rw [e1]
    rw [if_neg c] at q
    exact ⟨s, rfl, q⟩
theorem dm_5_ok {h : Rb} {rest : List Rb} {B k : Nat} {w1 w4 : Option Sl} (hl : rest.length ≤ 100) (hb : b ≠ 0) (bb : b.natAbs < 2 ^ (B + 1)) (B9 : B + 1 ≤ 9000) (hB : 0 < B) (hh : h.2.length = k + 1) (hr : ∀ r ∈ rest, r.2.length = k + 1) (hk : k ≤ 100) (bh : ∀ y ∈ h.2, y.natAbs < 2 ^ B) (br : ∀ r ∈ rest, ∀ y ∈ r.2, y.natAbs < 2 ^ B)
    (q : e.nx (vd x (some (.own (mB (rest.map fun r => (false, nwR b h.2 r.2))))) (some (.v (.int s))) (some (.v (.int b))) w4 (some (.v (rowB h))) (some (.v (mB rest))) none none none none) n) :
    dm_5 (vd x w1 (some (.v (.int s))) (some (.v (.int b))) w4 (some (.v (rowB h))) (some (.v (mB rest))) none none none none) n e := by
  have hlim : (100 : Nat) ≤ lim := by decide
  refine ⟨rest.map rowB, rfl, ?_⟩
  show cLcL _ _ _ _ _ (vd x w1 (some (.v (.int s))) (some (.v (.int b))) w4 (some (.v (rowB h))) (some (.v (mB rest))) none none none none) n [] _
  refine map_run2 rowB (fun _ => true) (fun r => rowI (nwR b h.2 r.2)) rest [] (fun r hr' => ⟨vd x w1 (some (.v (.int s))) (some (.v (.int b))) w4 (some (.v (rowB h))) (some (.v (mB rest))) (some (.v (rowB r))) none none none, rfl, rfl, fun K1 hK => hK, fun _ K2 hK => ?_⟩) (by rw [List.length_nil]; omega) ?_
  · refine ⟨1, rfl, _, sl_rowB r, 1, rfl, _, sl_rowB h, _, _, _, _, rfl, seq_rowB _, seq_rowB _, ?_⟩
    rw [zip_rows]
    show cLcL _ _ _ _ _ (vd x w1 (some (.v (.int s))) (some (.v (.int b))) w4 (some (.v (rowB h))) (some (.v (mB rest))) (some (.v (rowB r))) none none none) n [] _
    refine map_run2 (fun p : Int × Int => .tuple [.int p.1, .int p.2]) (fun _ => true) (fun p => .int ((gt h.2 0 * p.1 - gt r.2 0 * p.2).fdiv b)) (r.2.tail.zip h.2.tail) [] (fun p hp => ⟨vd x w1 (some (.v (.int s))) (some (.v (.int b))) w4 (some (.v (rowB h))) (some (.v (mB rest))) (some (.v (rowB r))) none (some (.v (.int p.1))) (some (.v (.int p.2))), rfl, rfl, fun K1 hK => hK, fun _ K2 hK => ?_⟩) ?_ ?_
    · obtain ⟨p1, p2⟩ := List.of_mem_zip hp
      have b1 := br r hr' p.1 (List.mem_of_mem_tail p1)
      have b2 := bh p.2 (List.mem_of_mem_tail p2)
      refine ⟨_, at_rowB (by omega), _, mulW_ok (gt_bd bh 0) b1 hB hB (by omega), ?_⟩
      refine ⟨_, at_rowB (by rw [hr r hr']; omega), _, mulW_ok (gt_bd (br r hr') 0) b2 hB hB (by omega), ?_⟩
      exact ⟨_, rfl, _, fdvW_ok hb bb (by omega) B9, hK⟩
    · rw [List.length_zip, List.length_nil, List.length_tail]
      have := hr r hr'
      omega
    · rw [filter_true, List.nil_append]
      have e1 : ((r.2.tail.zip h.2.tail).map fun p => PyData.int ((gt h.2 0 * p.1 - gt r.2 0 * p.2).fdiv b)) = intsD (nwR b h.2 r.2) := by
        exact zip_map (fun u v => (gt h.2 0 * u - gt r.2 0 * v).fdiv b) _ _
      rw [e1]
      exact hK
  · rw [filter_true, List.nil_append]
    have e1 : (rest.map fun r => rowI (nwR b h.2 r.2)) = (rest.map fun r => ((false, nwR b h.2 r.2) : Rb)).map rowB := by rw [List.map_map]; rfl
    rw [e1]
    exact ⟨by show 1 < 11; decide, q⟩
theorem un_mem {r : Row} (h : r ∈ unB R) : ∃ p ∈ R, p.2 = r := List.mem_map.mp h
theorem dm_loop : ∀ (k : Nat) (R : List Rb) (s b X : Int) (B : Nat) (w1 t4 t5 t6 : Option Sl), R.length ≤ k → R.length ≤ 100 → Bar X (unB R) s b → 0 < B → Bd (unB R) B → b.natAbs < 2 ^ (B + 1) → (B + 1) * 2 ^ R.length ≤ 9000 → (w1 = some (.v (mB R)) ∨ w1 = some (.own (mB R))) →
    e.rt (.int X) n → (∀ (R : List Rb) (s b : Int) (B : Nat) (t4 t5 t6 : Option Sl), R.length ≤ 1 → Bar X (unB R) s b → 0 < B → B ≤ 9000 → Bd (unB R) B → e.nx (vd x (some (.v (mB R))) (some (.v (.int s))) (some (.v (.int b))) t4 t5 t6 none none none none) n) →
    cWhL dt_t dm_b (k + 1) (vd x w1 (some (.v (.int s))) (some (.v (.int b))) t4 t5 t6 none none none none) n e
  | k, R, s, b, X, B, w1, t4, t5, t6, hk, h100, Br, hB, bd, bb, hs, hw, q0, q => by
    have test : ∀ K : Bool → En → Nat → Prop, K (decide ((R.length : Int) > 1)) (vd x (some (.v (mB R))) (some (.v (.int s))) (some (.v (.int b))) t4 t5 t6 none none none none) n → ∀ ke, dt_t (vd x w1 (some (.v (.int s))) (some (.v (.int b))) t4 t5 t6 none none none none) n K ke := by
      intro K hK ke
      have hl : lenD (mB R) = some R.length := by show some (R.map rowB).length = _; rw [List.length_map]
      rcases hw with rfl | rfl
      · exact ⟨_, ⟨_, _, rfl, hl, rfl⟩, _, rfl, _, rfl, hK⟩
      · exact ⟨_, ⟨_, _, rfl, hl, rfl⟩, _, rfl, _, rfl, hK⟩
    refine test _ ?_ _
    have hpw : 0 < 2 ^ R.length := Nat.two_pow_pos _
    have hB9 : B + 1 ≤ 9000 := Nat.le_trans (Nat.le_mul_of_pos_right _ hpw) hs
    have ul : (unB R).length = R.length := List.length_map _
    by_cases c : R.length ≤ 1
    · rw [decide_eq_false (by omega)]
      exact q R s b B t4 t5 t6 c Br hB (by omega) bd
    · rw [decide_eq_true (show (R.length : Int) > 1 by omega)]
      obtain ⟨k, rfl⟩ : ∃ k', k = k' + 1 := ⟨k - 1, by omega⟩
      have sqR : ∀ r ∈ R, r.2.length = R.length := fun r hr => by rw [Br.sq r.2 (List.mem_map_of_mem hr), ul]
      have bdR : ∀ r ∈ R, ∀ y ∈ r.2, y.natAbs < 2 ^ B := fun r hr => bd r.2 (List.mem_map_of_mem hr)
      have hrow : ∀ r ∈ R, 0 < r.2.length := fun r hr => by rw [sqR r hr]; omega
      refine dm_1_ok hrow h100 ?_
      have e0 : ((fitB R).map fun p => PyData.int (p.1 : Nat)) = ((fitB R).map Prod.fst).map fun i => PyData.int (i : Nat) := by rw [List.map_map]; rfl
      rw [e0]
      refine dm_2_ok _ (fun h0 => ?_) fun h1 => ?_
      · have : X = 0 := bar_zero Br (fun h => by rw [h] at ul; simp at ul; rw [← ul] at c; simp at c) fun r hr => by
          obtain ⟨pr, hpr, rfl⟩ := un_mem hr
          obtain ⟨i, hi⟩ := ix_all hpr
          refine Decidable.byContradiction fun g => ?_
          have : (i, pr) ∈ fitB R := List.mem_filter.mpr ⟨hi, by simpa using g⟩
          rw [List.map_eq_nil_iff.mp h0] at this
          cases this
        rw [this] at q0
        exact q0
      · obtain ⟨⟨f, h⟩, fl, hfl⟩ : ∃ p l, fitB R = p :: l := by
          cases hh : fitB R with
          | nil => rw [hh] at h1; exact (h1 rfl).elim
          | cons p l => exact ⟨p, l, rfl⟩
        have hm : (f, h) ∈ fitB R := by rw [hfl]; exact List.mem_cons_self ..
        obtain ⟨hm1, hm2⟩ := List.mem_filter.mp hm
        have hget : R[f]? = some h := ix_mem hm1
        have hp : gt h.2 0 ≠ 0 := by simpa using hm2
        obtain ⟨hfl', hge⟩ := List.getElem?_eq_some_iff.mp hget
        have hM : R = R.take f ++ h :: R.drop (f + 1) := by
          conv => lhs; rw [← List.take_append_drop f R]
          rw [List.drop_eq_getElem_cons hfl', hge]
        have hf : (R.take f).length = f := by rw [List.length_take]; omega
        rw [hfl]
        refine dm_3_ok hM hf h100 ?_
        refine dm_4_ok ?_
        have hlen : (R.take f ++ R.drop (f + 1)).length + 1 = R.length := by
          have := congrArg List.length hM
          simp only [List.length_append, List.length_cons] at this ⊢
          omega
        have hsub : ∀ r ∈ R.take f ++ R.drop (f + 1), r ∈ R := fun r hr => by
          rcases List.mem_append.mp hr with w | w
          · exact List.mem_of_mem_take w
          · exact List.mem_of_mem_drop w
        have hhM : h ∈ R := List.mem_of_getElem? hget
        have sq : ∀ r ∈ R, r.2.length = (R.take f ++ R.drop (f + 1)).length + 1 := fun r hr => by rw [sqR r hr, hlen]
        refine dm_5_ok (B := B) (k := (R.take f ++ R.drop (f + 1)).length) (by omega) Br.b0 bb hB9 hB (sq h hhM) (fun r hr => sq r (hsub r hr)) (by omega) (bdR h hhM) (fun r hr => bdR r (hsub r hr)) ?_
        refine ⟨_, at_rowB (hrow h hhM), ?_⟩
        have hM2 : unB R = unB (R.take f) ++ h.2 :: unB (R.drop (f + 1)) := by
          have := congrArg unB hM
          unfold unB at this ⊢
          rw [List.map_append, List.map_cons] at this
          exact this
        have St := bar_step Br (by omega) hM2 hp
        have hf2 : (unB (R.take f)).length = f := by unfold unB; rw [List.length_map, hf]
        rw [hf2] at St
        have eN : (unB (R.take f) ++ unB (R.drop (f + 1))).map (nwR b h.2) = unB ((R.take f ++ R.drop (f + 1)).map fun r => ((false, nwR b h.2 r.2) : Rb)) := by
          unfold unB
          rw [← List.map_append, List.map_map, List.map_map]
          rfl
        rw [eN] at St
        have hlen2 : ((R.take f ++ R.drop (f + 1)).map fun r => ((false, nwR b h.2 r.2) : Rb)).length + 1 = R.length := by rw [List.length_map]; exact hlen
        have sq2 : ∀ r ∈ unB R, r.length = (R.take f ++ R.drop (f + 1)).length + 1 := fun r hr => by
          obtain ⟨pr, hpr, rfl⟩ := un_mem hr
          exact sq pr hpr
        have hsub2 : ∀ r ∈ unB (R.take f ++ R.drop (f + 1)), r ∈ unB R := fun r hr => by
          obtain ⟨pr, hpr, rfl⟩ := List.mem_map.mp hr
          exact List.mem_map_of_mem (hsub pr hpr)
        have dv : Div (unB R) ((R.take f ++ R.drop (f + 1)).length + 1) b := by
          rw [hlen, ← ul]
          exact Br.div
        have nb2 : Bd (unB ((R.take f ++ R.drop (f + 1)).map fun r => ((false, nwR b h.2 r.2) : Rb))) (2 * B + 1) := by
          have := nw_bd Br.b0 dv sq2 (List.mem_map_of_mem (f := Prod.snd) hhM) hsub2 bd
          unfold unB at this ⊢
          rw [List.map_map] at this ⊢
          exact this
        refine dm_loop k ((R.take f ++ R.drop (f + 1)).map fun r => ((false, nwR b h.2 r.2) : Rb)) _ _ X (2 * B + 1) _ _ _ _ (by omega) (by omega) St (by omega) nb2 ?_ ?_ (.inr rfl) q0 q
        · exact Nat.lt_of_lt_of_le (gt_bd (bdR h hhM) 0) (Nat.pow_le_pow_right (by decide) (by omega))
        · have e2 : (2 * B + 1 + 1) * 2 ^ ((R.take f ++ R.drop (f + 1)).map fun r => ((false, nwR b h.2 r.2) : Rb)).length = (B + 1) * 2 ^ R.length := by
            rw [← hlen2, Nat.pow_succ]
            have : 2 * B + 1 + 1 = 2 * (B + 1) := by omega
            rw [this, Nat.mul_comm 2 (B + 1), Nat.mul_assoc, Nat.mul_comm 2]
          rw [e2]
          exact hs
theorem himp_determinantM (ds : List D) (n : Nat) (k : D → Nat → Prop) (ke : Xv → Nat → Prop) (h : sdDetM ds n k ke) (he : e.rt = k) : cs_determinantM (startE n_determinant ds) n e := by
  obtain ⟨x, R, B, rfl, hx, sq, hl, hB, bd, hs, q⟩ := h
  subst he
  have ul : (unB R).length = R.length := List.length_map _
  refine ⟨R.map rowB, .inl ⟨x, rfl, hx⟩, by show 3 ≤ lim; decide, _, rfl, ?_⟩
  refine ⟨R.length + 1, ?_⟩
  refine dm_loop (x := x) R.length R 1 1 (dl (unB R)) B _ none none none (Nat.le_refl _) hl (bar_start fun r hr => by obtain ⟨pr, hpr, rfl⟩ := un_mem hr; rw [ul]; exact sq pr hpr) hB bd (Nat.lt_of_lt_of_le (by decide : (1 : Int).natAbs < 2 ^ 1) (Nat.pow_le_pow_right (by decide) (by omega))) hs (.inl rfl) q fun R' s b B' t4 t5 t6 h1 Br hB' hB9 bd' => ?_
  have hX := bar_end Br (by rw [List.length_map]; exact h1)
  rcases R' with _ | ⟨r, _ | ⟨r2, R'⟩⟩
  · have hX : dl (unB R) = s := hX
    refine ⟨rfl, _, false, rfl, rfl, rfl, ?_⟩
    rw [hX, Br.e0 rfl] at q
    exact q
  · have hX : dl (unB R) = s * gt r.2 0 := hX
    refine ⟨rfl, _, true, rfl, rfl, rfl, ?_⟩
    refine ⟨_, atI_zero _ _, _, at_rowB (by rw [Br.sq r.2 (List.mem_singleton.mpr rfl)]; exact Nat.zero_lt_one), _, mulW_ok (a := 2) (b := B') ?_ (gt_bd (bd' r.2 (List.mem_singleton.mpr rfl)) 0) (by decide) hB' (by omega), ?_⟩
    · rcases Br.s1 with rfl | rfl <;> decide
    · rw [hX] at q
      exact q
  · simp at h1
end
end RM
namespace RM
open PySem PySem.Spec PyProof.Rows L2 CS RZ
/-! ### k16: a determinant by its first row; orders by what can come first -/
def sgn (k : Nat) : Int := 1 - 2 * (((k : Nat) : Int) % 2)
theorem sgn_zero : sgn 0 = 1 := rfl
theorem sgn_succ (k : Nat) : sgn (k + 1) = -sgn k := by
  unfold sgn
  omega
theorem ix_shift {α : Type} : ∀ (l : List α) (s : Nat), ixL (s + 1) l = (ixL s l).map fun p => (p.1 + 1, p.2)
  | [], _ => rfl
  | a :: l, s => by
    show (s + 1, a) :: ixL (s + 1 + 1) l = (s + 1, a) :: (ixL (s + 1) l).map _
    rw [ix_shift l (s + 1)]
theorem E1_ix {R C : Type} {e : R → C → Int} {r : R} : ∀ (cs : List C) (F : List C → Int), E1 (e := e) r cs F = ((ixL 0 cs).map fun p => sgn p.1 * e r p.2 * F (cs.eraseIdx p.1)).sum
  | [], _ => rfl
  | c :: cs, F => by
    show e r c * F cs - E1 (e := e) r cs (fun l => F (c :: l)) = _
    rw [E1_ix cs (fun l => F (c :: l))]
    show _ = (((0, c) :: ixL 1 cs).map fun p => sgn p.1 * e r p.2 * F ((c :: cs).eraseIdx p.1)).sum
    rw [List.map_cons, List.sum_cons, ix_shift, List.map_map]
    have e1 : (((ixL 0 cs).map ((fun p : Nat × C => sgn p.1 * e r p.2 * F ((c :: cs).eraseIdx p.1)) ∘ fun p => (p.1 + 1, p.2))).sum) = -1 * ((ixL 0 cs).map fun p => sgn p.1 * e r p.2 * F (c :: cs.eraseIdx p.1)).sum := by
      rw [← sI_mul]
      refine sI_congr fun p _ => ?_
      show sgn (p.1 + 1) * e r p.2 * F (c :: cs.eraseIdx p.1) = -1 * (sgn p.1 * e r p.2 * F (c :: cs.eraseIdx p.1))
      rw [sgn_succ]
      grind
    rw [e1]
    show _ = sgn 0 * e r c * F cs + _
    rw [sgn_zero, Int.one_mul]
    omega
def skip (k j : Nat) : Nat := if j < k then j else j + 1
theorem gt_erase (r : Row) (k j : Nat) : gt (r.eraseIdx k) j = gt r (skip k j) := by
  unfold gt skip
  rw [List.getD_eq_getElem?_getD, List.getD_eq_getElem?_getD, List.getElem?_eraseIdx]
  split <;> rfl
theorem range_erase {n k : Nat} (h : k < n + 1) : (List.range (n + 1)).eraseIdx k = (List.range n).map (skip k) := by
  refine List.ext_getElem? fun i => ?_
  rw [List.getElem?_eraseIdx, List.getElem?_map]
  unfold skip
  by_cases c : i < k
  · rw [if_pos c, List.getElem?_range (by omega), List.getElem?_range (by omega)]
    show _ = some (if i < k then i else i + 1)
    rw [if_pos c]
  · rw [if_neg c]
    by_cases c2 : i < n
    · rw [List.getElem?_range (by omega), List.getElem?_range c2]
      show _ = some (if i < k then i else i + 1)
      rw [if_neg c]
    · rw [List.getElem?_eq_none (by rw [List.length_range]; omega), List.getElem?_eq_none (l := List.range n) (by rw [List.length_range]; omega)]
      rfl
def ldet : Nat → List Row → Int
  | _, [] => 1
  | 0, _ :: _ => 0
  | m + 1, r :: rs => ((ixL 0 r).map fun p => p.2 * sgn p.1 * ldet m (rs.map fun q => q.eraseIdx p.1)).sum
theorem ldet_dl : ∀ (m : Nat) (M : List Row), M.length = m → (∀ r ∈ M, r.length = m) → ldet m M = dl M
  | 0, [], _, _ => rfl
  | 0, _ :: _, h, _ => by cases h
  | m + 1, [], h, _ => by cases h
  | m + 1, r :: rs, h, sq => by
    rw [List.length_cons] at h
    have hl : rs.length = m := by omega
    have hr : r.length = m + 1 := sq r (List.mem_cons_self ..)
    show ((ixL 0 r).map fun p => p.2 * sgn p.1 * ldet m (rs.map fun q => q.eraseIdx p.1)).sum = E1 (e := gt) r (List.range (rs.length + 1)) (det gt rs)
    rw [E1_ix, hl]
    congr 1
    refine List.ext_getElem? fun i => ?_
    rw [List.getElem?_map, List.getElem?_map, ix_get, ix_get, Nat.zero_add]
    by_cases c : i < m + 1
    · have hi : i < r.length := by omega
      rw [List.getElem?_eq_getElem hi, List.getElem?_range c]
      have e1 : r[i] = gt r i := by
        unfold gt
        rw [List.getD_eq_getElem?_getD, List.getElem?_eq_getElem hi]
        rfl
      have e2 : ldet m (rs.map fun q => q.eraseIdx i) = det gt rs ((List.range (m + 1)).eraseIdx i) := by
        rw [ldet_dl m (rs.map fun q => q.eraseIdx i) (by rw [List.length_map]; exact hl) fun q hq => by
          obtain ⟨q2, h2, rfl⟩ := List.mem_map.mp hq
          rw [List.length_eraseIdx, if_pos (by rw [sq q2 (List.mem_cons_of_mem _ h2)]; exact c), sq q2 (List.mem_cons_of_mem _ h2)]
          rfl]
        unfold dl
        rw [List.length_map, hl, range_erase c]
        have d1 := det_map (e := fun (q : Row) (j : Nat) => gt (q.eraseIdx i) j) (e' := gt) (f := fun j : Nat => j) (g := fun q : Row => q.eraseIdx i) (fun _ _ => rfl) rs (List.range m)
        have d2 := det_map (e := fun (q : Row) (j : Nat) => gt (q.eraseIdx i) j) (e' := gt) (f := skip i) (g := fun q : Row => q) (fun q j => (gt_erase q i j).symm) rs (List.range m)
        rw [List.map_id' (List.range m)] at d1
        rw [List.map_id' rs] at d2
        rw [d1, d2]
      show some (r[i] * sgn i * ldet m (rs.map fun q => q.eraseIdx i)) = some (sgn i * gt r i * det gt rs ((List.range (m + 1)).eraseIdx i))
      rw [e1, e2, Int.mul_comm (gt r i) (sgn i)]
    · rw [List.getElem?_eq_none (by omega), List.getElem?_eq_none (l := List.range (m + 1)) (by rw [List.length_range]; omega)]
      rfl
/-! ### orders of things, by what comes first -/
def decAt (ns : List Nat) (k : Nat) : List Nat := ns.modify k (· - 1)
def strg : Nat → List Nat → Int
  | 0, _ => 1
  | m + 1, ns => if ns.sum = 0 then 1 else ((ixL 0 ns).map fun p => if 0 < p.2 then strg m (decAt ns p.1) else 0).sum
theorem dec_sum : ∀ (ns : List Nat) (k x : Nat), ns[k]? = some x → 0 < x → (decAt ns k).sum + 1 = ns.sum ∧ prodI (ns.map fac) = (x : Nat) * prodI ((decAt ns k).map fac)
  | [], k, x, h, _ => by cases h
  | n :: ns, 0, x, h, hx => by
    cases h
    show ((n - 1) :: ns).sum + 1 = _ ∧ fac n * _ = (n : Int) * (fac (n - 1) * _)
    rw [List.sum_cons, List.sum_cons]
    refine ⟨by omega, ?_⟩
    rw [fac_step hx, Int.mul_assoc]
  | n :: ns, k + 1, x, h, hx => by
    obtain ⟨h1, h2⟩ := dec_sum ns k x h hx
    show (n :: decAt ns k).sum + 1 = _ ∧ fac n * prodI (ns.map fac) = (x : Int) * (fac n * prodI ((decAt ns k).map fac))
    rw [List.sum_cons, List.sum_cons, h2]
    refine ⟨by omega, ?_⟩
    grind
theorem ix_sum : ∀ (ns : List Nat) (s : Nat), ((ixL s ns).map fun p => ((p.2 : Nat) : Int)).sum = ((ns.sum : Nat) : Int)
  | [], _ => rfl
  | n :: ns, s => by
    show (((s, n) :: ixL (s + 1) ns).map _).sum = _
    rw [List.map_cons, List.sum_cons, List.sum_cons, ix_sum ns (s + 1)]
    show (n : Int) + _ = _
    omega
theorem strg_fac : ∀ (m : Nat) (ns : List Nat), ns.sum ≤ m → strg m ns * prodI (ns.map fac) = fac ns.sum
  | 0, ns, h => by
    have h0 : ns.sum = 0 := by omega
    rw [h0]
    show 1 * prodI (ns.map fac) = 1
    rw [Int.one_mul]
    have : ∀ l : List Nat, l.sum = 0 → prodI (l.map fac) = 1 := by
      intro l
      induction l with
      | nil => intro _; rfl
      | cons a l ih =>
        intro hl
        rw [List.sum_cons] at hl
        show fac a * prodI (l.map fac) = 1
        rw [ih (by omega), show a = 0 by omega]
        rfl
    exact this ns h0
  | m + 1, ns, h => by
    by_cases h0 : ns.sum = 0
    · have := strg_fac 0 ns (by omega)
      show (if ns.sum = 0 then 1 else _) * _ = _
      rw [if_pos h0]
      exact this
    · show (if ns.sum = 0 then 1 else ((ixL 0 ns).map fun p => if 0 < p.2 then strg m (decAt ns p.1) else 0).sum) * _ = _
      rw [if_neg h0, Int.mul_comm, ← sI_mul]
      have e1 : ((ixL 0 ns).map fun p => prodI (ns.map fac) * (if 0 < p.2 then strg m (decAt ns p.1) else 0)).sum = ((ixL 0 ns).map fun p => fac (ns.sum - 1) * ((p.2 : Nat) : Int)).sum := by
        refine sI_congr fun p hp => ?_
        have hg := ix_mem hp
        by_cases c : 0 < p.2
        · obtain ⟨h1, h2⟩ := dec_sum ns p.1 p.2 hg c
          have ih := strg_fac m (decAt ns p.1) (by omega)
          rw [if_pos c, h2, show ns.sum - 1 = (decAt ns p.1).sum by omega, ← ih]
          grind
        · rw [if_neg c, show p.2 = 0 by omega]
          simp
      rw [e1, sI_mul, ix_sum, Int.mul_comm, ← fac_step (by omega)]
theorem strg_arr {m : Nat} {ns : List Nat} (h : ns.sum ≤ m) : strg m ns = arrF ns := by
  have h1 := strg_fac m ns h
  have h2 := arr_spec ns
  have h3 : prodI (ns.map fac) ≠ 0 := Int.ne_of_gt (prodI_pos _ fun a ha => by
    obtain ⟨k, _, rfl⟩ := List.mem_map.mp ha
    exact fac_pos k)
  refine Int.eq_of_mul_eq_mul_right h3 ?_
  rw [h1, h2]
end RM
set_option maxHeartbeats 4000000
namespace RM
open PySem PySem.Spec PyProof.Rows L2 CS RZ
/-! ### (..) * 0 and (..) * 1 -/
theorem tuple_mul_one (l : Addr) (items : Array Value) (n : Nat) (dd : Option Addr) (sl : Array (Option Value)) (u : Tok) :
    Meets (Builtin.«tuple.__mul__» ⟨[.ref l, .int 1 u], []⟩) (fun _ R s => s.heap.get? l = some { cls := .type "tuple", dict := dd, data := .seq items n, slots := sl } ∧ R (.ok (.ret (.ref l))) s) :=
  .of_wp fun prog w A R s h => by
    obtain ⟨hp, g, d, tk, os⟩ := s
    obtain ⟨hl, h⟩ := h
    have f1 := AutoSeq1.idx_int
    wp_walk using wpAny_loadPart' hl
    exact ⟨_, rfl, h⟩
theorem tuple_mul_nil (l : Addr) (items : Array Value) (n : Nat) (dd : Option Addr) (sl : Array (Option Value)) (u : Tok) (hne : items.isEmpty = false) :
    Meets (Builtin.«tuple.__mul__» ⟨[.ref l, .int 0 u], []⟩) (fun _ R s => s.heap.get? l = some { cls := .type "tuple", dict := dd, data := .seq items n, slots := sl } ∧ R (.ok (.ret (.ref s.heap.objs.size))) { s with heap := s.heap.push { cls := Value.type "tuple", data := Data.seq #[] } }) :=
  .of_wp fun prog w A R s h => by
    obtain ⟨hp, g, d, tk, os⟩ := s
    obtain ⟨hl, h⟩ := h
    have f1 := AutoSeq1.idx_int
    wp_walk using wpAny_loadPart' hl
    exact ⟨_, rfl, h⟩
section
variable {X : Cx}
def rRep01 (K : PySem.W.Frag) : R2 := fun x y H Q => ∃ l xs, x = .ref l ∧ SqT K H l xs ∧ xs ≠ [] ∧ ((y = .int 1 ∧ Q (.ref l) H) ∨ (y = .int 0 ∧ ∀ p, H p = none → Q (.ref p) (upd H p (.tup []))))
theorem op_rep01 : OpR X (binaryOp .Mult) (rRep01 X.K) := by
  intro pins s σ H x y v u Q I rx ry h
  obtain ⟨l, xs, rfl, hT, hne, h⟩ := h
  cases rx
  obtain ⟨its, r, ⟨⟨cls, dd, data, sl⟩, ho, hc, n, hd⟩, hs⟩ := I.tuple hT
  simp only at hc hd
  subst hc hd
  have hi : its.toArray.isEmpty = false := by
    cases its with
    | nil =>
      have := r.length
      exact absurd (List.eq_nil_of_length_eq_zero this) hne
    | cons a b => rfl
  rcases h with ⟨rfl, q⟩ | ⟨rfl, q⟩
  · obtain ⟨t, rfl⟩ := ry
    refine wpAny_binaryOp_repeat_ref (T := "tuple") (U := "int") (by decide) ⟨_, ho, rfl⟩ (fun s' => typeIs_int s' 1 t) noFill_tuple_mul F.fills_int_mul F.slot_int_rmul repeat_tuple F.slot_int_index.lookup ?_
    refine call_meets F.slot_int_rmul (typeIs_int s 1 t) F.entry_int_rmul (F.args_int_rmul_2 _ _) (int_rmul_tuple 1 t l its.toArray n dd sl) ⟨ho, rfl, ⟨_, ho, rfl⟩, ?_⟩
    exact call_meets F.slot_tuple_mul ⟨_, ho, rfl⟩ F.entry_tuple_mul (F.args_tuple_mul_2 _ _) (tuple_mul_one l its.toArray n dd sl t) ⟨ho, .ref l, H, I, rfl, q⟩
  · obtain ⟨t, rfl⟩ := ry
    refine wpAny_binaryOp_repeat_ref (T := "tuple") (U := "int") (by decide) ⟨_, ho, rfl⟩ (fun s' => typeIs_int s' 0 t) noFill_tuple_mul F.fills_int_mul F.slot_int_rmul repeat_tuple F.slot_int_index.lookup ?_
    refine call_meets F.slot_int_rmul (typeIs_int s 0 t) F.entry_int_rmul (F.args_int_rmul_2 _ _) (int_rmul_tuple 0 t l its.toArray n dd sl) ⟨ho, rfl, ⟨_, ho, rfl⟩, ?_⟩
    refine call_meets F.slot_tuple_mul ⟨_, ho, rfl⟩ F.entry_tuple_mul (F.args_tuple_mul_2 _ _) (tuple_mul_nil l its.toArray n dd sl t hi) ⟨ho, .ref s.heap.objs.size, _, I.laid (t' := s.toks) (o := .tup []) (fun b ob q => Heap.get?_push_of_some _ q) (Nat.le_refl _) ?_, rfl, q _ (I.hok.fresh (Nat.le_refl _))⟩
    exact ⟨Nat.zero_le _, [], .nil, IsTup.new _ _⟩
end
def repMD : D → D → Option D
  | .tuple ds, .int k => if ds ≠ [] ∧ 0 ≤ k ∧ k ≤ 1000 ∧ ds.length ≤ 1000 then some (.tuple (List.replicate k.toNat ds).flatten) else none
  | _, _ => none
theorem od_repM {X : Cx} : OpD X (binaryOp .Mult) repMD := by
  obtain ⟨r, h1, h2⟩ := od_repT (X := X)
  refine ⟨_, OpR.or h1 op_rep01, fun T Hh H x y dx dy z Q hK s ix iy hg q => ?_⟩
  unfold repMD at hg
  split at hg
  · rename_i ds k
    obtain ⟨⟨c0, c1, c2, c3⟩, rfl⟩ := ifs hg
    by_cases c : 2 ≤ k
    · exact .inl (h2 T Hh H x y _ _ _ Q hK s ix iy (by unfold repTD; exact if_pos ⟨c0, c, c2, c3⟩) q)
    · have ix0 := ix
      obtain ⟨a, xs, rfl, ha, ra⟩ := ix.tup'
      have hne : xs ≠ [] := fun z => by
        have := ra.length
        rw [z] at this
        exact c0 (List.length_eq_zero_iff.mp this.symm)
      have ey := iy.int'
      rcases (show k = 1 ∨ k = 0 by omega) with rfl | rfl
      · refine .inr ⟨a, xs, rfl, hK ▸ sqt_same s ha, hne, .inl ⟨ey, ?_⟩⟩
        refine oldV q ?_
        rw [show (List.replicate (1 : Int).toNat ds).flatten = ds by simp]
        exact ix0
      · refine .inr ⟨a, xs, rfl, hK ▸ sqt_same s ha, hne, .inr ⟨ey, newT q .nil⟩⟩
  · cases hg
end RM
namespace RM
open PySem PySem.Spec PyProof.Rows L2 CS RZ
/-! ### k16: _law_det -/
abbrev tupI (r : Row) : D := .tuple (intsD r)
def sdLdet (m : Nat) : SpD := fun ds n k _ => ∃ (M : List Row) (B : Nat), ds = [.tuple (M.map tupI)] ∧ M.length < m ∧ m ≤ 10 ∧ (∀ r ∈ M, r.length = M.length) ∧ 0 < B ∧ B ≤ 1000 ∧ Bd M B ∧ k (.int (ldet M.length M)) n
abbrev n_ldet : List Str := ["_law_rows_so", "_law_sum_so", "_law_k", "_law_own", "_law_rest", "_law_bit"]
def ld16_1 : CS := cIfS (cB (cOp eqD (cVar 0) (cTup (cNil)))) (cRet (cC (.int 1))) (cNext)
def ld16_2 : CS := cSet 1 (cC (.int 0))
def ld16_a : CS := cSet 4 (cCB gTuple (cCons (cLc (cSeq (cSl (cVar 0) (cPart (cC (.int 1))) (cNo))) (stN 5) (cYes) (cOp addD (cSl (cVar 5) (cNo) (cPart (cVar 2))) (cSl (cVar 5) (cPart (cOp addD (cVar 2) (cC (.int 1)))) (cNo))) [5]) (cNil)))
def ld16_b (m : Nat) : CS := cSet 1 (cOp addD (cVar 1) (cOp mulW (cOp mulW (cVar 3) (cOp subD (cC (.int 1)) (cOp mulW (cC (.int 2)) (cOp modD (cCB gInt (cCons (cVar 2) (cNil))) (cC (.int 2)))))) (cCall (sdLdet m) (cCons (cVar 4) (cNil)))))
def ld16_3 (m : Nat) : CS := cFor (cEnumT (cCons (cOp atD (cVar 0) (cC (.int 0))) (cNil))) (stT (stCons (stN 2) (stCons (stN 3) (stNil)))) (cSq ld16_a (ld16_b m))
def ld16_4 : CS := cRet (cVar 1)
def cs_ldet (m : Nat) : CS := cSq ld16_1 (cSq ld16_2 (cSq (ld16_3 m) ld16_4))
theorem two_pos (n : Nat) : 0 < 2 ^ n := Nat.two_pow_pos n
theorem sgn_abs (k : Nat) : (sgn k).natAbs ≤ 1 := by
  unfold sgn
  omega
theorem sum_abs {α : Type} {f : α → Int} {b : Nat} : ∀ l : List α, (∀ a ∈ l, (f a).natAbs ≤ b) → ((l.map f).sum).natAbs ≤ l.length * b
  | [], _ => by simp
  | a :: l, h => by
    have h1 := h a (List.mem_cons_self ..)
    have h2 := sum_abs l fun x hx => h x (List.mem_cons_of_mem _ hx)
    rw [List.map_cons, List.sum_cons, List.length_cons, Nat.add_mul, Nat.one_mul]
    have := Int.natAbs_add_le (f a) ((l.map f).sum)
    omega
theorem bd_erase {rs : List Row} {B k : Nat} (h : Bd rs B) : Bd (rs.map fun q => q.eraseIdx k) B := fun r hr y hy => by
  obtain ⟨q, hq, rfl⟩ := List.mem_map.mp hr
  exact h q hq y (List.mem_of_mem_eraseIdx hy)
theorem ldet_abs {B : Nat} : ∀ (j : Nat) (M : List Row), j ≤ 15 → M.length = j → (∀ r ∈ M, r.length = j) → Bd M B → (ldet j M).natAbs ≤ 2 ^ (j * (B + 4))
  | 0, [], _, _, _, _ => by show 1 ≤ 2 ^ (0 * _); rw [Nat.zero_mul]; exact Nat.le_refl 1
  | 0, _ :: _, _, h, _, _ => by cases h
  | j + 1, [], _, h, _, _ => by cases h
  | j + 1, r :: rs, hj, h, sq, bd => by
    rw [List.length_cons] at h
    show (((ixL 0 r).map fun p => p.2 * sgn p.1 * ldet j (rs.map fun q => q.eraseIdx p.1)).sum).natAbs ≤ _
    have hr : r.length = j + 1 := sq r (List.mem_cons_self ..)
    have h1 := sum_abs (f := fun p : Nat × Int => p.2 * sgn p.1 * ldet j (rs.map fun q => q.eraseIdx p.1)) (b := 2 ^ (B + j * (B + 4))) (ixL 0 r) fun p hp => by
      have hg := ix_mem hp
      have hk : p.1 < r.length := (List.getElem?_eq_some_iff.mp hg).1
      have b1 : p.2.natAbs < 2 ^ B := bd r (List.mem_cons_self ..) p.2 (List.mem_of_getElem? hg)
      have b2 := ldet_abs j (rs.map fun q => q.eraseIdx p.1) (by omega) (by rw [List.length_map]; omega) (fun q hq => by
        obtain ⟨q2, h2, rfl⟩ := List.mem_map.mp hq
        have h3 := sq q2 (List.mem_cons_of_mem _ h2)
        rw [List.length_eraseIdx, if_pos (by omega), h3]
        rfl) (bd_erase fun q hq => bd q (List.mem_cons_of_mem _ hq))
      have b3 := sgn_abs p.1
      show (p.2 * sgn p.1 * ldet j _).natAbs ≤ _
      rw [Int.natAbs_mul, Int.natAbs_mul, Nat.pow_add]
      refine Nat.mul_le_mul ?_ b2
      have := Nat.mul_le_mul (Nat.le_of_lt b1) b3
      omega
    refine Nat.le_trans h1 ?_
    rw [ix_len, hr]
    have e1 : 2 ^ ((j + 1) * (B + 4)) = 2 ^ 4 * 2 ^ (B + j * (B + 4)) := by
      rw [← Nat.pow_add]
      congr 1
      rw [Nat.add_mul]
      omega
    rw [e1]
    exact Nat.mul_le_mul_right _ (by omega)
theorem ok_rows (M : List Row) : OkN 2 (.tuple (M.map tupI)) := OkN.tuple fun d hd => by
  obtain ⟨r, _, rfl⟩ := List.mem_map.mp hd
  exact OkN.tuple fun d hd => by
    obtain ⟨i, _, rfl⟩ := List.mem_map.mp hd
    exact OkN.int 0 i
theorem eqD_rows (M : List Row) : eqD (.tuple (M.map tupI)) (.tuple []) = some (.bool M.isEmpty) := by
  unfold eqD
  rw [(ok_rows M).ok (by decide), (OkN.tuple (k := 0) (ds := []) (fun d hd => by cases hd)).ok (by decide), if_pos (show (true && true) = true from rfl)]
  cases M <;> simp [PyData.eqv, PyData.eqvAll]
theorem erase_row {r : Row} {k : Nat} (h : k < r.length) : cutL (intsD r) none (some ((k : Nat) : Int)) ++ cutL (intsD r) (some ((k + 1 : Nat) : Int)) none = intsD (r.eraseIdx k) := by
  have hl : (intsD r).length = r.length := by unfold intsD; rw [List.length_map]
  rw [cutL_take (by omega), cut_drop (by omega)]
  unfold intsD
  rw [List.eraseIdx_eq_take_drop_succ, List.map_append, List.map_take, List.map_drop]
section
variable {e : EndsD} {n : Nat} {t2 t3 t4 : Option Sl} {r : Row} {rs : List Row}
abbrev vld (r : Row) (rs : List Row) (acc : Int) (t2 t3 t4 : Option Sl) : En := [some (.v (.tuple ((r :: rs).map tupI))), some (.v (.int acc)), t2, t3, t4, none]
theorem ld_a_ok {acc : Int} {k : Nat} {y : Int} (hl : rs.length ≤ 100) (hk : ∀ q ∈ rs, k < q.length) (hq : ∀ q ∈ rs, q.length ≤ 100) (q : e.nx (vld r rs acc (some (.v (.int (k : Nat)))) (some (.v (.int y))) (some (.v (.tuple ((rs.map fun q => q.eraseIdx k).map tupI))))) n) : ld16_a (vld r rs acc (some (.v (.int (k : Nat)))) (some (.v (.int y))) t4) n e := by
  have hlim := lim_k
  refine ⟨1, rfl, .tuple (rs.map tupI), ?_, rs.map tupI, rfl, ?_⟩
  · show some (PyData.tuple (cutL ((r :: rs).map tupI) (some 1) none)) = _
    rw [cutL_tail]
    rfl
  show cLcL _ _ _ _ (rs.map tupI) (vld r rs acc (some (.v (.int (k : Nat)))) (some (.v (.int y))) t4) n [] _
  refine map_run2 tupI (fun _ => true) (fun q => tupI (q.eraseIdx k)) rs [] (fun w hw => ⟨[some (.v (.tuple ((r :: rs).map tupI))), some (.v (.int acc)), some (.v (.int (k : Nat))), some (.v (.int y)), t4, some (.v (tupI w))], rfl, rfl, fun K1 hK => hK, fun _ K2 hK => ?_⟩) (by rw [List.length_nil]; omega) ?_
  · refine ⟨(k : Nat), rfl, _, rfl, _, rfl, _, rfl, _, rfl, ?_⟩
    have e1 : ((k : Nat) : Int) + 1 = ((k + 1 : Nat) : Int) := by omega
    rw [e1]
    refine ⟨.tuple (intsD (w.eraseIdx k)), ?_, hK⟩
    have hh := erase_row (hk w hw)
    have h9 := hq w hw
    show (if _ then some (PyData.tuple (_ ++ _)) else none) = _
    rw [hh, if_pos]
    have h2 := congrArg List.length hh
    rw [List.length_append] at h2
    rw [h2]
    unfold intsD
    rw [List.length_map, List.length_eraseIdx]
    split <;> omega
  · rw [filter_true, List.nil_append]
    refine ⟨_, ⟨_, _, rfl, rfl, rfl⟩, ?_⟩
    have e1 : (rs.map fun q => tupI (q.eraseIdx k)) = (rs.map fun q => q.eraseIdx k).map tupI := by rw [List.map_map]; rfl
    rw [e1]
    exact q
end
end RM
namespace RM
open PySem PySem.Spec PyProof.Rows L2 CS RZ
section
variable {e : EndsD} {n : Nat} {t2 t3 t4 : Option Sl} {r : Row} {rs : List Row}
theorem mul_sgn {k : Nat} : mulW (.int 2) (.int (((k : Nat) : Int) % 2)) = some (.int (2 * (((k : Nat) : Int) % 2))) := mulW_ok (a := 2) (b := 2) (by decide) (by omega) (by decide) (by decide) (by decide)
theorem mod_two (i : Int) : modD (.int i) (.int 2) = some (.int (i % 2)) := by
  unfold modD
  exact if_pos (by decide)
theorem ld_b_ok {m : Nat} {acc : Int} {k : Nat} {y : Int} {B : Nat} (hm : rs.length < m) (m10 : m ≤ 10) (hB : 0 < B) (B9 : B ≤ 1000) (hk : k < rs.length + 1) (sq : ∀ q ∈ rs, q.length = rs.length + 1) (bd : Bd rs B) (by_ : y.natAbs < 2 ^ B)
    (q : ∀ t4, e.nx (vld r rs (acc + y * sgn k * ldet rs.length (rs.map fun q => q.eraseIdx k)) (some (.v (.int (k : Nat)))) (some (.v (.int y))) t4) n) :
    ld16_b m (vld r rs acc (some (.v (.int (k : Nat)))) (some (.v (.int y))) (some (.v (.tuple ((rs.map fun q => q.eraseIdx k).map tupI))))) n e := by
  have sqe : ∀ q ∈ rs.map (fun q => q.eraseIdx k), q.length = (rs.map fun q => q.eraseIdx k).length := fun q hq => by
    obtain ⟨q2, h2, rfl⟩ := List.mem_map.mp hq
    have h3 := sq q2 h2
    rw [List.length_map, List.length_eraseIdx, if_pos (by omega), h3]
    rfl
  have hl : (rs.map fun q => q.eraseIdx k).length = rs.length := List.length_map _
  have ab := ldet_abs (B := B) rs.length (rs.map fun q => q.eraseIdx k) (by omega) hl (fun q hq => by rw [sqe q hq, hl]) (bd_erase bd)
  have hs := sgn_abs k
  refine ⟨.int (k : Nat), .inl ⟨_, rfl, rfl⟩, .int (((k : Nat) : Int) % 2), mod_two _, _, mul_sgn, .int (sgn k), rfl, _, mulW_ok (a := B) (b := 1) by_ (by omega) hB (by decide) (by omega), ?_⟩
  refine ⟨_, B, rfl, by rw [hl]; exact hm, m10, sqe, hB, B9, bd_erase bd, ?_⟩
  rw [hl]
  have p1 : (y * sgn k).natAbs < 2 ^ (B + 1) := by
    rw [Int.natAbs_mul, Nat.pow_succ]
    have := Nat.mul_le_mul (Nat.le_of_lt by_) hs
    have := two_pos B
    omega
  have p2 : (ldet rs.length (rs.map fun q => q.eraseIdx k)).natAbs < 2 ^ (rs.length * (B + 4) + 1) := by
    rw [Nat.pow_succ]
    have := two_pos (rs.length * (B + 4))
    omega
  have p3 : rs.length * (B + 4) ≤ 10 * 1004 := Nat.mul_le_mul (by omega) (by omega)
  exact ⟨_, mulW_ok p1 p2 (by omega) (by omega) (by omega), _, rfl, q _⟩
theorem ld_go {m : Nat} {B : Nat} (hm : rs.length < m) (m10 : m ≤ 10) (hB : 0 < B) (B9 : B ≤ 1000) (sq : ∀ q ∈ rs, q.length = rs.length + 1) (bd : Bd rs B) : ∀ (ps : List (Nat × Int)) (acc : Int) (t2 t3 t4 : Option Sl), (∀ p ∈ ps, p.1 < rs.length + 1 ∧ p.2.natAbs < 2 ^ B) →
    (∀ t2 t3 t4, e.nx (vld r rs (acc + (ps.map fun p => p.2 * sgn p.1 * ldet rs.length (rs.map fun q => q.eraseIdx p.1)).sum) t2 t3 t4) n) →
    cForL (stT (stCons (stN 2) (stCons (stN 3) (stNil)))) (cSq ld16_a (ld16_b m)) (ps.map fun p => .tuple [.int (p.1 : Nat), .int p.2]) (vld r rs acc t2 t3 t4) n e
  | [], acc, t2, t3, t4, _, q => by
    have := q t2 t3 t4
    rw [show (([] : List (Nat × Int)).map fun p => p.2 * sgn p.1 * ldet rs.length (rs.map fun q => q.eraseIdx p.1)).sum = 0 from rfl, Int.add_zero] at this
    exact this
  | p :: ps, acc, t2, t3, t4, h, q => by
    obtain ⟨h1, h2⟩ := h p (List.mem_cons_self ..)
    refine ⟨vld r rs acc (some (.v (.int (p.1 : Nat)))) (some (.v (.int p.2))) t4, rfl, ?_⟩
    refine ld_a_ok (by omega) (fun w hw => by rw [sq w hw]; exact h1) (fun w hw => by rw [sq w hw]; omega) ?_
    refine ld_b_ok hm m10 hB B9 h1 sq bd h2 fun t4 => ?_
    refine ld_go hm m10 hB B9 sq bd ps _ _ _ _ (fun x hx => h x (List.mem_cons_of_mem _ hx)) fun t2 t3 t4 => ?_
    have := q t2 t3 t4
    rw [List.map_cons, List.sum_cons, ← Int.add_assoc] at this
    exact this
end
theorem himp_ldet (m : Nat) {e : EndsD} (ds : List D) (n : Nat) (k : D → Nat → Prop) (ke : Xv → Nat → Prop) (h : sdLdet (m + 1) ds n k ke) (he : e.rt = k) : cs_ldet m (startE n_ldet ds) n e := by
  obtain ⟨M, B, rfl, hl, m10, sq, hB, B9, bd, q⟩ := h
  subst he
  have hk := lim_k
  cases M with
  | nil => exact ⟨Nat.zero_le _, _, eqD_rows [], true, rfl, q⟩
  | cons r rs =>
    rw [List.length_cons] at hl sq
    refine ⟨Nat.zero_le _, _, eqD_rows (r :: rs), false, rfl, ?_⟩
    refine ⟨tupI r, atI_zero _ _, intsD r, rfl, ?_⟩
    have e1 : enumD (intsD r) = (ixL 0 r).map fun p => .tuple [.int (p.1 : Nat), .int p.2] := enum_map PyData.int r
    rw [e1]
    have hr : r.length = rs.length + 1 := sq r (List.mem_cons_self ..)
    refine ld_go (B := B) (by omega) (by omega) hB B9 (fun w hw => sq w (List.mem_cons_of_mem _ hw)) (fun w hw => bd w (List.mem_cons_of_mem _ hw)) (ixL 0 r) 0 none none none (fun p hp => ?_) fun t2 t3 t4 => ?_
    · have hg := ix_mem hp
      have := (List.getElem?_eq_some_iff.mp hg).1
      exact ⟨by omega, bd r (List.mem_cons_self ..) p.2 (List.mem_of_getElem? hg)⟩
    · rw [Int.zero_add]
      exact q
end RM
namespace RM
open PySem PySem.Spec PyProof.Rows L2 CS RZ
/-! ### k16: _law_strung, factorial -/
def sdStrung (m : Nat) : SpD := fun ds n k _ => ∃ ns : List Nat, ds = [.tuple (natsD ns)] ∧ ns.sum < m ∧ ns.length ≤ 100 ∧ k (.int (strg ns.sum ns)) n
abbrev n_strung : List Str := ["_law_some", "_law_found", "_law_k", "_law_own"]
def st16_2 : CS := cSet 1 (cC (.int 0))
def st16_b (m : Nat) : CS := cIfS (cB (cOp gtD (cVar 3) (cC (.int 0)))) (cSet 1 (cOp addD (cVar 1) (cCall (sdStrung m) (cCons (cOp addD (cOp addD (cSl (cVar 0) (cNo) (cPart (cVar 2))) (cTup (cCons (cOp subD (cVar 3) (cC (.int 1))) (cNil)))) (cSl (cVar 0) (cPart (cOp addD (cVar 2) (cC (.int 1)))) (cNo))) (cNil))))) (cNext)
def st16_3 (m : Nat) : CS := cFor (cEnumT (cCons (cVar 0) (cNil))) (stT (stCons (stN 2) (stCons (stN 3) (stNil)))) (st16_b m)
def st16_4 : CS := cRet (cVar 1)
theorem strg_any {m1 m2 : Nat} {ns : List Nat} (h1 : ns.sum ≤ m1) (h2 : ns.sum ≤ m2) : strg m1 ns = strg m2 ns := by rw [strg_arr h1, strg_arr h2]
theorem dec_cut {ns : List Nat} {k x : Nat} (h : ns[k]? = some x) : decAt ns k = ns.take k ++ (x - 1) :: ns.drop (k + 1) := by
  obtain ⟨hk, hx⟩ := List.getElem?_eq_some_iff.mp h
  unfold decAt
  rw [List.modify_eq_take_cons_drop hk, hx]
theorem add_tupT {a b : List D} (h : a.length + b.length ≤ lim) : addD (.tuple a) (.tuple b) = some (.tuple (a ++ b)) := if_pos h
section
variable {e : EndsD} {n : Nat} {ns : List Nat}
abbrev vst (ns : List Nat) (acc : Int) (t2 t3 : Option Sl) : En := [some (.v (.tuple (natsD ns))), some (.v (.int acc)), t2, t3]
theorem st_go {m : Nat} (hm : ns.sum ≤ m) (hl : ns.length ≤ 100) : ∀ (ps : List (Nat × Nat)) (acc : Int) (t2 t3 : Option Sl), (∀ p ∈ ps, ns[p.1]? = some p.2) →
    (∀ t2 t3, e.nx (vst ns (acc + (ps.map fun p => if 0 < p.2 then strg (ns.sum - 1) (decAt ns p.1) else 0).sum) t2 t3) n) →
    cForL (stT (stCons (stN 2) (stCons (stN 3) (stNil)))) (st16_b m) (ps.map fun p => .tuple [.int (p.1 : Nat), .int (p.2 : Nat)]) (vst ns acc t2 t3) n e
  | [], acc, t2, t3, _, q => by
    have := q t2 t3
    rw [show (([] : List (Nat × Nat)).map fun p => if 0 < p.2 then strg (ns.sum - 1) (decAt ns p.1) else (0 : Int)).sum = 0 from rfl, Int.add_zero] at this
    exact this
  | p :: ps, acc, t2, t3, h, q => by
    have hlim := lim_k
    have hg := h p (List.mem_cons_self ..)
    have hk := (List.getElem?_eq_some_iff.mp hg).1
    have nl : (natsD ns).length = ns.length := by unfold natsD; rw [List.length_map]
    refine ⟨vst ns acc (some (.v (.int (p.1 : Nat)))) (some (.v (.int (p.2 : Nat)))), rfl, ?_⟩
    have rest : ∀ acc', acc' = acc + (if 0 < p.2 then strg (ns.sum - 1) (decAt ns p.1) else 0) → cForL (stT (stCons (stN 2) (stCons (stN 3) (stNil)))) (st16_b m) (ps.map fun p => .tuple [.int (p.1 : Nat), .int (p.2 : Nat)]) (vst ns acc' (some (.v (.int (p.1 : Nat)))) (some (.v (.int (p.2 : Nat))))) n e := fun acc' ea => by
      refine st_go hm hl ps acc' _ _ (fun x hx => h x (List.mem_cons_of_mem _ hx)) fun t2 t3 => ?_
      have := q t2 t3
      rw [List.map_cons, List.sum_cons, ← Int.add_assoc, ← ea] at this
      exact this
    refine ⟨.bool (decide ((0 : Int) < (p.2 : Nat))), rfl, _, rfl, ?_⟩
    by_cases c : 0 < p.2
    · rw [decide_eq_true (show (0 : Int) < (p.2 : Nat) by omega)]
      refine ⟨(p.1 : Nat), rfl, .tuple (cutL (natsD ns) none (some ((p.1 : Nat) : Int))), rfl, .int ((p.2 : Nat) - 1), rfl, by show 1 ≤ lim; omega, ?_⟩
      have c1 : cutL (natsD ns) none (some ((p.1 : Nat) : Int)) = natsD (ns.take p.1) := by
        rw [cutL_take (by omega)]
        unfold natsD
        rw [List.map_take]
      have c2 : cutL (natsD ns) (some ((p.1 + 1 : Nat) : Int)) none = natsD (ns.drop (p.1 + 1)) := by
        rw [cut_drop (by omega)]
        unfold natsD
        rw [List.map_drop]
      have e1 : ((p.1 : Nat) : Int) + 1 = ((p.1 + 1 : Nat) : Int) := by omega
      have e2 : ((p.2 : Nat) : Int) - 1 = ((p.2 - 1 : Nat) : Int) := by omega
      rw [c1, e2]
      have l1 : (natsD (ns.take p.1)).length ≤ 100 := by unfold natsD; rw [List.length_map, List.length_take]; omega
      have l2 : (natsD (ns.drop (p.1 + 1))).length ≤ 100 := by unfold natsD; rw [List.length_map, List.length_drop]; omega
      refine ⟨.tuple (natsD (ns.take p.1) ++ [.int ((p.2 - 1 : Nat) : Int)]), add_tupT (by show _ + 1 ≤ lim; omega), _, rfl, _, rfl, .tuple (cutL (natsD ns) (some (((p.1 : Nat) : Int) + 1)) none), rfl, ?_⟩
      rw [e1, c2]
      refine ⟨.tuple (natsD (decAt ns p.1)), ?_, ?_⟩
      · rw [dec_cut hg]
        rw [add_tupT (by rw [List.length_append]; show _ + 1 + _ ≤ lim; omega)]
        unfold natsD
        simp
      · have hd := dec_sum ns p.1 p.2 hg c
        refine ⟨decAt ns p.1, rfl, by omega, by unfold decAt; rw [List.length_modify]; exact hl, _, rfl, ?_⟩
        refine rest _ ?_
        rw [if_pos c, strg_any (m1 := (decAt ns p.1).sum) (m2 := ns.sum - 1) (Nat.le_refl _) (by omega)]
    · rw [decide_eq_false (show ¬ (0 : Int) < (p.2 : Nat) by omega)]
      refine rest _ ?_
      rw [if_neg c, Int.add_zero]
end
theorem nats_sum (ns : List Nat) : ((ns.map fun x => ((x : Nat) : Int)).sum) = ((ns.sum : Nat) : Int) := by
  have key : ∀ (l : List Nat) (s : Nat), (l.map fun x => ((x : Nat) : Int)) = (ixL s l).map fun p => ((p.2 : Nat) : Int) := by
    intro l
    induction l with
    | nil => intro s; rfl
    | cons a l ih =>
      intro s
      show _ :: _ = _ :: ((ixL (s + 1) l).map _)
      rw [ih (s + 1)]
  rw [key ns 0, ix_sum]
end RM
namespace RM
open PySem PySem.Spec PyProof.Rows L2 CS RZ
/-! ### sum of a tuple of numbers -/
section
variable {prog : Program} {w : World} {A : Around} {E : Value → Shared → Prop} {s : Shared} {l : Addr} {its : List Value} {ns : List Int} {Q : Value → Shared → Prop}
theorem sum_tup (hh : A.handled = none) (hl : s.heap.IsTuple l its.toArray) (hi : IntsAre its ns)
    (h : ∀ h' tk t', (∀ b o, s.heap.get? b = some o → h'.get? b = some o) → Q (.int ns.sum t') { s with heap := h', toks := tk }) : wpAny (model prog w) A (call (.builtin "sum") [.ref l]) Q E s := by
  obtain ⟨xs, e⟩ := hi.allInts.items
  have hn : numsOf (intItems xs).toList = ns := by rw [← e]; exact hi.numsOf
  rw [nums_intItems] at hn
  rw [e] at hl
  obtain ⟨o0, g0, _⟩ := id hl
  have lt := Heap.lt_size g0
  refine call_sum_walkG (wpAny_pyIter_tuple hl ?_)
  refine ⟨_, _, _, _, _, _, PySem.numAt xs, rfl, Walks.tuple (A := A.in1) hh _ l (Nat.ne_of_lt lt) (intItems xs), ⟨⟨_, Heap.get?_push_size _ rfl, rfl, rfl⟩, hl.push _⟩, fun b hb => ?_, (fun _ _ => intItems_at), fun h' tk t' hk => ?_⟩
  · show b < (s.heap.push _).objs.size
    rw [Heap.size_push]
    simp only [List.mem_cons, List.not_mem_nil, or_false] at hb
    rcases hb with rfl | rfl
    · exact Nat.lt_succ_self _
    · exact Nat.lt_succ_of_lt lt
  · have h2 := h h' tk t' fun b o g => hk b o (fun hm => Nat.ne_of_lt (Heap.lt_size g) (List.mem_singleton.mp hm)) (Heap.get?_push_of_some _ g)
    have e3 : preSum (PySem.numAt xs) (intItems xs).size = ns.sum := by
      rw [preSum_eq, List.take_of_length_le (by simp [intItems]), hn]
    rw [e3]
    exact h2
end
section
variable {X : Cx}
def gSumT (ds : List D) (z : D) : Prop := ∃ is, ds = [.tuple (intsD is)] ∧ z = .int is.sum
def gSumM (ds : List D) (z : D) : Prop := gSum ds z ∨ gSumT ds z
theorem cd_sumT (hc : X.calm = true) : CallD X (.builtin "sum") gSumT := by
  refine ⟨fun vs H Q => ∃ (a : Addr) (ns : List Int), vs = [V.ref a] ∧ SqT X.K H a (ns.map V.int) ∧ Q (.int ns.sum) H, ?_, fun T Hh H vs ds z Q hK s i g q => ?_⟩
  · intro pins s σ H vs us Q I r h
    obtain ⟨a, ns, rfl, hs, q⟩ := h
    obtain ⟨its, rv, hl, _⟩ := I.tuple hs
    rw [Vals.ref1 r]
    exact sum_tup (I.ok.hd hc) hl rv.ints fun h' tk t' hk => ⟨.int _, H, I.kept hk, ⟨_, rfl⟩, q⟩
  · obtain ⟨is, rfl, rfl⟩ := g
    obtain ⟨v, rfl, iv⟩ := i.one
    obtain ⟨a, xs, rfl, ha, ra⟩ := iv.tup'
    have e1 := ra.ints
    subst e1
    exact ⟨a, is, rfl, hK ▸ sqt_same s ha, oldV q (.int _)⟩
theorem cd_sumM (hc : X.calm = true) : CallD X (.builtin "sum") gSumM := (cd_sum hc).or (cd_sumT hc)
end
end RM
namespace RM
open PySem PySem.Spec PyProof.Rows L2 CS RZ
/-! ### k16: _law_strung whole, factorial, _law_mixed -/
def st16_1m : CS := cIfS (cB (cOp eqD (cCB gSumM (cCons (cVar 0) (cNil))) (cC (.int 0)))) (cRet (cC (.int 1))) (cNext)
def cs_strungM (m : Nat) : CS := cSq st16_1m (cSq st16_2 (cSq (st16_3 m) st16_4))
theorem nats_intsC (ns : List Nat) : natsD ns = intsD (ns.map fun x => ((x : Nat) : Int)) := by
  unfold natsD intsD
  rw [List.map_map]
  rfl
theorem strg_step {ns : List Nat} (h : ns.sum ≠ 0) : strg ns.sum ns = ((ixL 0 ns).map fun p => if 0 < p.2 then strg (ns.sum - 1) (decAt ns p.1) else 0).sum := by
  obtain ⟨m, hm⟩ : ∃ m, ns.sum = m + 1 := ⟨ns.sum - 1, by omega⟩
  have e1 : strg (m + 1) ns = if ns.sum = 0 then 1 else ((ixL 0 ns).map fun p => if 0 < p.2 then strg m (decAt ns p.1) else 0).sum := rfl
  have e2 : ns.sum - 1 = m := by omega
  rw [e2, show strg ns.sum ns = strg (m + 1) ns by rw [hm], e1, if_neg h]
theorem himp_strung (m : Nat) {e : EndsD} (ds : List D) (n : Nat) (k : D → Nat → Prop) (ke : Xv → Nat → Prop) (h : sdStrung (m + 1) ds n k ke) (he : e.rt = k) : cs_strungM m (startE n_strung ds) n e := by
  obtain ⟨ns, rfl, hm, hl, q⟩ := h
  subst he
  refine ⟨.int ((ns.sum : Nat) : Int), .inr ⟨ns.map fun x => ((x : Nat) : Int), by rw [nats_intsC], by rw [nats_sum]⟩, _, eqD_int _ _, _, rfl, ?_⟩
  by_cases h0 : ns.sum = 0
  · rw [h0] at q ⊢
    exact q
  · have e0 : ((((ns.sum : Nat) : Int)) == 0) = false := by
      rw [beq_eq_false_iff_ne]
      omega
    rw [e0]
    refine ⟨natsD ns, rfl, ?_⟩
    have e1 : enumD (natsD ns) = (ixL 0 ns).map fun p => .tuple [.int (p.1 : Nat), .int ((p.2 : Nat) : Int)] := enum_map (fun x : Nat => PyData.int (x : Nat)) ns
    rw [e1]
    refine st_go (by omega) hl (ixL 0 ns) 0 none none (fun p hp => ix_mem hp) fun t2 t3 => ?_
    rw [Int.zero_add, ← strg_step h0]
    exact q
/-! factorial -/
def sdFactorial : SpD := fun ds n k _ => ∃ a : Nat, ds = [.int (a : Nat)] ∧ a < 1000 ∧ k (.int (fac a)) n
abbrev n_factorial : List Str := ["many"]
def cs_factorial : CS := cRet (cCB gPerm (cCons (cVar 0) (cCons (cVar 0) (cNil))))
theorem perm_fac (a : Nat) : PySem.W.mcPerm (a : Nat) (a : Nat) = fac a := by
  rw [PySem.W.mcPerm_at (Int.le_refl _), Int.toNat_natCast]
  have := fp_fac a a (Nat.le_refl _)
  rw [Nat.sub_self] at this
  have e0 : fac 0 = 1 := rfl
  rw [e0, Int.mul_one] at this
  exact this
theorem himp_factorial {e : EndsD} (ds : List D) (n : Nat) (k : D → Nat → Prop) (ke : Xv → Nat → Prop) (h : sdFactorial ds n k ke) (he : e.rt = k) : cs_factorial (startE n_factorial ds) n e := by
  obtain ⟨a, rfl, ha, q⟩ := h
  subst he
  refine ⟨_, ⟨_, _, rfl, by omega, by omega, by omega, by omega, rfl⟩, ?_⟩
  rw [perm_fac]
  exact q
/-! _law_mixed -/
abbrev n_mixed : List Str := ["_law_box_here", "_law_matter", "_law_bits", "_law_bit"]
mutual
/-- numbers, or lists and tuples of numbers, with other kinds of sequences -/
inductive Mix : D → D → Prop
  | int (i : Int) : Mix (.int i) (.int i)
  | seq {x : D} {xs ys : List D} (t : Bool) (h : seqD x = some xs) (r : MixL xs ys) : Mix x (cond t (.tuple ys) (.list ys))
inductive MixL : List D → List D → Prop
  | nil : MixL [] []
  | cons {x y : D} {xs ys : List D} (h : Mix x y) (r : MixL xs ys) : MixL (x :: xs) (y :: ys)
end
/-- how many draws it takes, at most -/
def szM : Nat → D → Nat
  | 0, _ => 0
  | m + 1, .list l => 1 + (l.map (szM m)).sum
  | m + 1, .tuple l => 1 + (l.map (szM m)).sum
  | _ + 1, _ => 0
def okM : Nat → D → Prop
  | 0, _ => False
  | _ + 1, .int _ => True
  | m + 1, .list l => l.length ≤ 1000 ∧ ∀ d ∈ l, okM m d
  | m + 1, .tuple l => l.length ≤ 1000 ∧ ∀ d ∈ l, okM m d
  | _ + 1, _ => False
def sdMixed (m : Nat) : SpD := fun ds n k _ => ∃ x, ds = [boxD, x] ∧ okM m x ∧ n + szM m x ≤ 800000 ∧ ∀ y n', Mix x y → n' ≤ n + szM m x → k y n'
def mx16_1 : CS := cIfS (cNotT (cB (cIsK (.nm 1) "list" "tuple"))) (cRet (cVar 1)) (cNext)
def mx16_2 (m : Nat) : CS := cOwn 2 (cLc (cSeq (cVar 1)) (stN 3) (cYes) (cCall (sdMixed m) (cCons (cVar 0) (cCons (cVar 3) (cNil)))) [3])
def mx16_3 : CS := cRet (cIf (cB (cOp eqD (cCall sdTake (cCons (cVar 0) (cCons (cC (.int 2)) (cNil)))) (cC (.int 0)))) (cVar 2) (cCB gTuple (cCons (cVar 2) (cNil))))
def cs_mixed (m : Nat) : CS := cSq mx16_1 (cSq (mx16_2 m) mx16_3)
section
variable {e : EndsD}
theorem mx_go {m : Nat} {x : D} {k : List D → En → Nat → Prop} : ∀ (xs acc : List D) (n : Nat), (∀ d ∈ xs, okM m d) → acc.length + xs.length ≤ 1000 → n + (xs.map (szM m)).sum ≤ 800000 → (∀ ys n', MixL xs ys → n' ≤ n + (xs.map (szM m)).sum → k (acc ++ ys) [some (.v boxD), some (.v x), none, none] n') →
    cLcL (stN 3) cYes (cCall (sdMixed m) (cCons (cVar 0) (cCons (cVar 3) (cNil)))) [3] xs [some (.v boxD), some (.v x), none, none] n acc k
  | [], acc, n, _, _, _, q => by
    have := q [] n .nil (by omega)
    rw [List.append_nil] at this
    exact this
  | d :: xs, acc, n, h, hl, hn, q => by
    have hlim := lim_k
    rw [List.map_cons, List.sum_cons] at hn q
    rw [List.length_cons] at hl
    refine lc_yes (ρ1 := [some (.v boxD), some (.v x), none, some (.v d)]) rfl ?_
    refine ⟨d, rfl, h d (List.mem_cons_self ..), by omega, fun y n1 hy h1 => ⟨by omega, ?_⟩⟩
    refine mx_go xs (acc ++ [y]) n1 (fun z hz => h z (List.mem_cons_of_mem _ hz)) (by rw [List.length_append, List.length_singleton]; omega) (by omega) fun ys n' hys hn' => ?_
    rw [List.append_assoc]
    exact q (y :: ys) n' (.cons hy hys) (by omega)
end
theorem mx_seq (m : Nat) {e : EndsD} {n : Nat} {x : D} {xs : List D} (hs : ∃ t, kindD x = some t ∧ (t = "list" ∨ t = "tuple")) (hx : seqD x = some xs) (hl : xs.length ≤ 1000) (ho : ∀ d ∈ xs, okM m d) (hn : n + (1 + (xs.map (szM m)).sum) ≤ 800000)
    (q : ∀ y n', Mix x y → n' ≤ n + (1 + (xs.map (szM m)).sum) → e.rt y n') : cs_mixed m (startE n_mixed [boxD, x]) n e := by
  obtain ⟨t, hk, ht⟩ := hs
  refine ⟨rfl, x, t, rfl, hk, _, rfl, ?_⟩
  rw [decide_eq_true ht]
  refine ⟨xs, hx, ?_⟩
  show cLcL _ _ _ _ xs [some (.v boxD), some (.v x), none, none] n [] _
  refine mx_go xs [] n ho (by rw [List.length_nil]; omega) (by omega) fun ys n1 hy h1 => ?_
  rw [List.nil_append]
  refine ⟨by show 2 < 4; decide, ?_⟩
  refine ⟨2, rfl, by omega, by decide, by decide, fun r r0 r1 => ?_⟩
  refine ⟨_, eqD_int _ _, _, rfl, ?_⟩
  by_cases c : r = 0
  · rw [c]
    exact q _ _ (.seq false hx hy) (by omega)
  · have e0 : (r == 0) = false := beq_false_of_ne c
    rw [e0]
    exact ⟨_, ⟨_, _, rfl, rfl, rfl⟩, q _ _ (.seq true hx hy) (by omega)⟩
theorem himp_mixed (m : Nat) {e : EndsD} (ds : List D) (n : Nat) (k : D → Nat → Prop) (ke : Xv → Nat → Prop) (h : sdMixed (m + 1) ds n k ke) (he : e.rt = k) : cs_mixed m (startE n_mixed ds) n e := by
  obtain ⟨x, rfl, ok, hn, q⟩ := h
  subst he
  cases x with
  | int i => exact ⟨rfl, .int i, "int", rfl, rfl, false, rfl, q _ _ (.int i) (Nat.le_add_right _ _)⟩
  | list l => exact mx_seq m ⟨"list", rfl, .inl rfl⟩ rfl ok.1 ok.2 hn q
  | tuple l => exact mx_seq m ⟨"tuple", rfl, .inr rfl⟩ rfl ok.1 ok.2 hn q
  | _ => cases ok
end RM
namespace RM
open PySem PySem.Spec PyProof.Rows L2 CS RZ
/-! ### a, b, c = x, y, [] : the last one this frame's own -/
def cPar3L (i j k : Nat) (ta tb : CE) : CS := fun ρ n e => ta ρ n (fun x ρ1 n1 => tb ρ1 n1 (fun y ρ2 n2 => k < ρ2.length ∧ e.nx (((ρ2.set i (some (Sl.v x))).set j (some (Sl.v y))).set k (some (Sl.own (.list [])))) n2) e.xc) e.xc
section
variable {X : Cx} {g : Glob} {xk : WX} {pos : Pos}
theorem pds_par3L {i j k : Nat} {x y z : Str} {a b : Expr} {ta tb : CE} {px py pz pt pn : Pos} {kt k2 pt2} (hc : X.calm = true) (hN : X.N.Nodup) (hi : X.N[i]? = some x) (hj : X.N[j]? = some y) (hk : X.N[k]? = some z) (hij : i ≠ j) (hik : i ≠ k) (hjk : j ≠ k)
    (hx : X.env.scope.names.lookup x = some .local) (hy : X.env.scope.names.lookup y = some .local) (hz : X.env.scope.names.lookup z = some .local) (ha : PD X g xk a ta) (hb : PD X g xk b tb)
    (hst : starEach [a, b, .List [] pn] X.env = (false, eval a X.env) :: starEach [b, .List [] pn] X.env := by rfl) (hst2 : starEach [b, .List [] pn] X.env = (false, eval b X.env) :: starEach [.List [] pn] X.env := by rfl) (hst3 : starEach [.List [] pn] X.env = (false, eval (.List [] pn) X.env) :: starEach [] X.env := by rfl)
    (hw : swappedStores [.Tuple [.Name x px, .Name y py, .Name z pz] kt pt] (.Tuple [a, b, .List [] pn] k2 pt2) X.env = pure (some [x, y, z]) := by rfl)
    (hs : swapsWithSole [.Tuple [.Name x px, .Name y py, .Name z pz] kt pt] (.Tuple [a, b, .List [] pn] k2 pt2) pos.line X.env = pure false := by rfl) :
    PDS X g xk (.Assign [.Tuple [.Name x px, .Name y py, .Name z pz] kt pt] (.Tuple [a, b, .List [] pn] k2 pt2) pos) (cPar3L i j k ta tb) := by
  refine ⟨ps_imp (ps_par3 hc hN hi hj hk hij hik hjk hx hy hz (pa_cons ha.pe (pa_cons hb.pe (pa_cons (pe_lst pa_nil) pa_nil hst3) hst2) hst) hw hs) fun D σ H h => ?_⟩
  obtain ⟨C, ρ, n, O, e, hK, E, t, l⟩ := h
  refine ⟨C, ρ, n, O, _, _, hK, E, t, l.xc, fun d ρ1 n1 v H1 O1 k1 E1 S1 i1 => ⟨C, ρ1, n1, O1, _, _, hK, E1, k1, l.xc, fun d2 ρ2 n2 v2 H2 O2 k2 E2 S2 i2 => ⟨Nat.zero_le _, fun p hp => ⟨v, v2, .ref p, rfl, ?_⟩⟩⟩⟩
  obtain ⟨kl, q⟩ := k2
  obtain ⟨E3, S3⟩ := E2.set (i := i) (i1.same S2)
  obtain ⟨E4, S4⟩ := E3.set (i := j) (i2.same S3)
  obtain ⟨E5, S5⟩ := E4.setOwn (i := k) (by rw [List.length_set, List.length_set]; exact kl) hp (same_new hp) (.lst upd_same .nil) rfl
  exact l.nx _ _ _ _ _ q E5 ((((S1.trans S2).trans S3).trans S4).trans S5)
end
end RM
namespace RM
open PySem PySem.Spec PyProof.Rows L2 CS RZ
/-! ### k16: a drawn square -/
abbrev n_square : List Str := ["_law_box_here", "_law_lap", "_law_size_so", "_law_kind_so", "_law_rows_so", "_law_pool", "_law_own", "_law_k"]
def sq16_1 : CS := cPar3L 2 3 4 (cCall sdTake (cCons (cVar 0) (cCons (cC (.int 6)) (cNil)))) (cCall sdTake (cCons (cVar 0) (cCons (cC (.int 4)) (cNil))))
def sq16_a : CS := cSet 5 (cLst (cCons (cC (.int 0)) (cCons (cC (.int 0)) (cCons (cC (.int 1)) (cCons (cC (.int 2)) (cCons (cNeg (cC (.int 1))) (cCons (cNeg (cC (.int 3))) (cNil))))))))
def sq16_b : CS := cIfS (cB (cOp eqD (cVar 3) (cC (.int 1)))) (cSet 5 (cLst (cCons (cC (.int 0)) (cCons (cOp addD (cOp powD (cC (.int 10)) (cC (.int 30))) (cC (.int 1))) (cCons (cNeg (cOp powD (cC (.int 10)) (cC (.int 30)))) (cCons (cC (.int 7)) (cCons (cC (.int 1)) (cCons (cNeg (cOp powD (cC (.int 10)) (cC (.int 15)))) (cNil))))))))) (cNext)
def sq16_c : CS := cDrop (cApp 4 (cCB gTuple (cCons (cLc (cRange1 (cCons (cVar 2) (cNil))) (stN 7) (cYes) (cCall sdOf (cCons (cVar 0) (cCons (cVar 5) (cNil)))) [7]) (cNil))))
def sq16_2 : CS := cFor (cRange1 (cCons (cVar 2) (cNil))) (stN 1) (cSq sq16_a (cSq sq16_b sq16_c))
def sq16_3 : CS := cIfS (cAndT (cB (cOp eqD (cVar 3) (cC (.int 2)))) (cB (cOp gtD (cVar 2) (cC (.int 1))))) (cSetIx 4 (cOp subD (cVar 2) (cC (.int 1))) (cCB gTuple (cCons (cLc (cSeq (cIxQ (.nm 4) (cC (.int 0)))) (stN 6) (cYes) (cOp mulW (cNeg (cC (.int 2))) (cVar 6)) [6]) (cNil)))) (cNext)
def sq16_4 : CS := cIfS (cAndT (cB (cOp eqD (cVar 3) (cC (.int 3)))) (cB (cOp gtD (cVar 2) (cC (.int 0))))) (cSetIx 4 (cC (.int 0)) (cOp addD (cOp repMD (cTup (cCons (cC (.int 0)) (cNil))) (cOp subD (cVar 2) (cC (.int 1)))) (cSl (cIxQ (.nm 4) (cC (.int 0))) (cPart (cOp subD (cVar 2) (cC (.int 1)))) (cNo)))) (cNext)
def sq16_5 : CS := cRet (cCB gTuple (cCons (cVar 4) (cNil)))
def cs_square : CS := cSq sq16_1 (cSq sq16_2 (cSq sq16_3 (cSq sq16_4 sq16_5)))
abbrev vsq (t1 : Option Sl) (z w : Int) (M : List Row) (t5 t6 t7 : Option Sl) : En := [some (.v boxD), t1, some (.v (.int z)), some (.v (.int w)), some (.own (.list (M.map tupI))), t5, t6, t7]
section
variable {e : EndsD}
theorem sq_row {P : List Int} {t1 t6 : Option Sl} {z w : Int} {M : List Row} {k : List D → En → Nat → Prop} (h0 : 0 < P.length) (h1 : P.length ≤ 10) : ∀ (ds : List D) (acc : List Int) (n : Nat), n + ds.length ≤ 800000 → acc.length + ds.length ≤ 100 →
    (∀ ys : List Int, ys.length = ds.length → (∀ y ∈ ys, y ∈ P) → k (intsD (acc ++ ys)) (vsq t1 z w M (some (.v (.list (intsD P)))) t6 none) (n + ds.length)) →
    cLcL (stN 7) cYes (cCall sdOf (cCons (cVar 0) (cCons (cVar 5) (cNil)))) [7] ds (vsq t1 z w M (some (.v (.list (intsD P)))) t6 none) n (intsD acc) k
  | [], acc, n, _, _, q => by
    have := q [] rfl (fun y hy => by cases hy)
    rw [List.append_nil] at this
    exact this
  | d :: ds, acc, n, hn, hl, q => by
    have hlim := lim_k
    rw [List.length_cons] at hn hl q
    have pl : (intsD P).length = P.length := by unfold intsD; rw [List.length_map]
    refine lc_yes (ρ1 := vsq t1 z w M (some (.v (.list (intsD P)))) t6 (some (.v d))) rfl ?_
    refine ⟨.list (intsD P), intsD P, rfl, rfl, by omega, by omega, by omega, fun y hy => ?_⟩
    obtain ⟨i, hi, rfl⟩ := List.mem_map.mp hy
    refine ⟨by unfold intsD; rw [List.length_map]; omega, ?_⟩
    have e1 : intsD acc ++ [PyData.int i] = intsD (acc ++ [i]) := by
      unfold intsD
      rw [List.map_append]
      rfl
    rw [e1]
    refine sq_row h0 h1 ds (acc ++ [i]) (n + 1) (by omega) (by rw [List.length_append, List.length_singleton]; omega) fun ys h2 h3 => ?_
    have := q (i :: ys) (by rw [List.length_cons, h2]) fun y hy => by
      rcases List.mem_cons.mp hy with rfl | hy
      · exact hi
      · exact h3 y hy
    rw [List.append_assoc, show n + 1 + ds.length = n + (ds.length + 1) by omega]
    exact this
end
end RM
namespace RM
open PySem PySem.Spec PyProof.Rows L2 CS RZ
def poolA : List Int := [0, 0, 1, 2, -1, -3]
def poolB : List Int := [0, 10 ^ 30 + 1, -(10 ^ 30), 7, 1, -(10 ^ 15)]
theorem poolA_sm : ∀ y ∈ poolA, y.natAbs < 2 ^ 101 := by decide
theorem poolB_sm : ∀ y ∈ poolB, y.natAbs < 2 ^ 101 := by decide
theorem pow30 : powD (.int 10) (.int 30) = some (.int (10 ^ 30)) := by
  show (if (0 : Int) ≤ 30 ∧ (30 : Int) ≤ 1000000 ∧ (10 : Int).natAbs < 2 ^ 64 then some (PyData.int (10 ^ (30 : Int).toNat)) else none) = _
  rw [if_pos (by decide)]
  rfl
theorem pow15 : powD (.int 10) (.int 15) = some (.int (10 ^ 15)) := by
  show (if (0 : Int) ≤ 15 ∧ (15 : Int) ≤ 1000000 ∧ (10 : Int).natAbs < 2 ^ 64 then some (PyData.int (10 ^ (15 : Int).toNat)) else none) = _
  rw [if_pos (by decide)]
  rfl
section
variable {e : EndsD} {n : Nat} {t1 t5 t6 : Option Sl} {z w : Int} {M : List Row}
theorem sq_c_ok {P : List Int} (hP : P.length = 6) (hs : ∀ y ∈ P, y.natAbs < 2 ^ 101) (hz : 0 ≤ z) (hz6 : z < 6) (hn : n ≤ 700000) (hm : M.length ≤ 10) (q : ∀ r : Row, r.length = z.toNat → (∀ y ∈ r, y.natAbs < 2 ^ 101) → e.nx (vsq t1 z w (M ++ [r]) (some (.v (.list (intsD P)))) t6 none) (n + z.toNat)) :
    sq16_c (vsq t1 z w M (some (.v (.list (intsD P)))) t6 none) n e := by
  have hlim := lim_k
  refine ⟨⟨_, rfl⟩, z, rfl, ⟨by omega, by omega⟩, ?_⟩
  have rl : (rangeD 0 z.toNat).length = z.toNat := by unfold rangeD; simp
  show cLcL _ _ _ _ (rangeD 0 z.toNat) (vsq t1 z w M (some (.v (.list (intsD P)))) t6 none) n (intsD []) _
  refine sq_row (by omega) (by omega) (rangeD 0 z.toNat) [] n (by rw [rl]; omega) (by rw [rl, List.length_nil]; omega) fun ys h1 h2 => ?_
  rw [rl] at h1 ⊢
  rw [List.nil_append]
  refine ⟨.tuple (intsD ys), ⟨_, _, rfl, rfl, rfl⟩, M.map tupI, rfl, by rw [List.length_map]; omega, ?_⟩
  have e1 : M.map tupI ++ [.tuple (intsD ys)] = (M ++ [ys]).map tupI := by
    rw [List.map_append]
    rfl
  rw [e1]
  exact q ys h1 fun y hy => hs y (h2 y hy)
theorem sq_ab_ok (hz : 0 ≤ z) (hz6 : z < 6) (hn : n ≤ 700000) (hm : M.length ≤ 10) (q : ∀ (r : Row) (t5 : Option Sl), r.length = z.toNat → (∀ y ∈ r, y.natAbs < 2 ^ 101) → e.nx (vsq t1 z w (M ++ [r]) t5 t6 none) (n + z.toNat)) :
    cSq sq16_a (cSq sq16_b sq16_c) (vsq t1 z w M t5 t6 none) n e := by
  refine ⟨1, rfl, 3, rfl, by show 6 ≤ lim; decide, ?_⟩
  refine ⟨_, eqD_int _ _, _, rfl, ?_⟩
  by_cases c : w = 1
  · rw [show (w == 1) = true from by rw [beq_iff_eq]; exact c]
    refine ⟨_, pow30, _, rfl, _, pow30, _, rfl, _, pow15, _, rfl, by show 6 ≤ lim; decide, ?_⟩
    exact sq_c_ok (P := poolB) rfl poolB_sm hz hz6 hn hm fun r h1 h2 => q r _ h1 h2
  · rw [show (w == 1) = false from beq_false_of_ne c]
    exact sq_c_ok (P := poolA) rfl poolA_sm hz hz6 hn hm fun r h1 h2 => q r _ h1 h2
theorem sq_go (hz : 0 ≤ z) (hz6 : z < 6) : ∀ (ds : List D) (M : List Row) (n : Nat) (t1 t5 t6 : Option Sl), n + 6 * ds.length ≤ 600000 → M.length + ds.length ≤ 10 → (∀ r ∈ M, r.length = z.toNat ∧ ∀ y ∈ r, y.natAbs < 2 ^ 101) →
    (∀ (M2 : List Row) (t1 t5 : Option Sl) (n' : Nat), M2.length = M.length + ds.length → (∀ r ∈ M2, r.length = z.toNat ∧ ∀ y ∈ r, y.natAbs < 2 ^ 101) → n' ≤ n + 6 * ds.length → e.nx (vsq t1 z w M2 t5 t6 none) n') →
    cForL (stN 1) (cSq sq16_a (cSq sq16_b sq16_c)) ds (vsq t1 z w M t5 t6 none) n e
  | [], M, n, t1, t5, t6, _, _, hM, q => q M _ _ n rfl hM (by omega)
  | d :: ds, M, n, t1, t5, t6, hn, hl, hM, q => by
    rw [List.length_cons] at hn hl q
    refine ⟨vsq (some (.v d)) z w M t5 t6 none, rfl, ?_⟩
    refine sq_ab_ok hz hz6 (by omega) (by omega) fun r t5 h1 h2 => ?_
    refine sq_go hz hz6 ds (M ++ [r]) _ _ _ _ (by omega) (by rw [List.length_append, List.length_singleton]; omega) (fun x hx => ?_) fun M2 t1 t5 n' h3 h4 h5 => ?_
    · rcases List.mem_append.mp hx with hx | hx
      · exact hM x hx
      · rw [List.mem_singleton.mp hx]
        exact ⟨h1, h2⟩
    · exact q M2 t1 t5 n' (by rw [h3, List.length_append, List.length_singleton]; omega) h4 (by omega)
end
end RM
namespace RM
open PySem PySem.Spec PyProof.Rows L2 CS RZ
def sdSquare : SpD := fun ds n k _ => ds = [boxD] ∧ n ≤ 500000 ∧ ∀ (M : List Row) n', M.length ≤ 5 → (∀ r ∈ M, r.length = M.length) → Bd M 102 → n' ≤ n + 40 → k (.tuple (M.map tupI)) n'
theorem setI_nat {xs : List D} {j : Nat} {d : D} (h : j < xs.length) : setI xs (j : Nat) d = some (xs.set j d) := by
  unfold setI ixN
  rw [if_pos (by omega), if_pos (by omega)]
  rfl
section
variable {e : EndsD} {n : Nat} {t1 t5 t6 t7 : Option Sl} {z w : Int} {M : List Row}
/-- what the rows are, all the while -/
structure SqM (z : Int) (b : Nat) (M : List Row) : Prop where
  len : M.length = z.toNat
  sq : ∀ r ∈ M, r.length = z.toNat
  bd : Bd M b
theorem SqM.set {b c : Nat} {r : Row} {j : Nat} (h : SqM z b M) (hbc : b ≤ c) (hr : r.length = z.toNat) (hb : ∀ y ∈ r, y.natAbs < 2 ^ c) : SqM z c (M.set j r) := by
  have hp : 2 ^ b ≤ 2 ^ c := Nat.pow_le_pow_right (by decide) hbc
  refine ⟨by rw [List.length_set]; exact h.len, fun x hx => ?_, fun x hx => ?_⟩
  · rcases List.mem_or_eq_of_mem_set hx with hx | rfl
    · exact h.sq x hx
    · exact hr
  · rcases List.mem_or_eq_of_mem_set hx with hx | rfl
    · exact fun y hy => Nat.lt_of_lt_of_le (h.bd x hx y hy) hp
    · exact hb
theorem SqM.up {b c : Nat} (h : SqM z b M) (hbc : b ≤ c) : SqM z c M := ⟨h.len, h.sq, fun x hx y hy => Nat.lt_of_lt_of_le (h.bd x hx y hy) (Nat.pow_le_pow_right (by decide) hbc)⟩
theorem sq_3_ok (h : SqM z 101 M) (hz : 0 ≤ z) (hz6 : z < 6) (q : ∀ M t6, SqM z 102 M → e.nx (vsq t1 z w M t5 t6 none) n) : sq16_3 (vsq t1 z w M t5 t6 none) n e := by
  have hlim := lim_k
  refine ⟨_, eqD_int _ _, _, rfl, ?_⟩
  by_cases c : w = 2
  · rw [show (w == 2) = true from by rw [beq_iff_eq]; exact c]
    refine ⟨.bool (decide (1 < z)), rfl, _, rfl, ?_⟩
    by_cases c1 : 1 < z
    · rw [decide_eq_true c1]
      obtain ⟨r0, rest, rfl⟩ : ∃ r0 rest, M = r0 :: rest := by
        cases M with
        | nil => have := h.len; simp at this; omega
        | cons a b => exact ⟨a, b, rfl⟩
      have hr0 := h.sq r0 (List.mem_cons_self ..)
      refine ⟨rfl, _, tupI r0, rfl, atI_zero _ _, intsD r0, rfl, ?_⟩
      show cLcL _ _ _ _ (r0.map PyData.int) (vsq t1 z w (r0 :: rest) t5 none none) n [] _
      refine map_run2 PyData.int (fun _ => true) (fun y => PyData.int (-2 * y)) r0 [] (fun y hy => ⟨vsq t1 z w (r0 :: rest) t5 (some (.v (.int y))) none, rfl, rfl, fun K1 hK => hK, fun _ K2 hK => ?_⟩) (by rw [List.length_nil]; omega) ?_
      · exact ⟨2, rfl, _, mulW_ok (a := 2) (b := 101) (by decide) (h.bd r0 (List.mem_cons_self ..) y hy) (by decide) (by decide) (by decide), hK⟩
      · rw [filter_true, List.nil_append]
        refine ⟨_, ⟨_, _, rfl, rfl, rfl⟩, ⟨_, rfl⟩, _, rfl, ?_⟩
        have e1 : z - 1 = ((z.toNat - 1 : Nat) : Int) := by omega
        have e2 : (PyData.tuple (r0.map fun y => PyData.int (-2 * y))) = tupI (r0.map fun y => -2 * y) := by
          unfold tupI intsD
          rw [List.map_map]
          rfl
        refine ⟨(r0 :: rest).map tupI, z - 1, ((r0 :: rest).set (z.toNat - 1) (r0.map fun y => -2 * y)).map tupI, rfl, rfl, ?_, ?_⟩
        · rw [e1, setI_nat (by rw [List.length_map, h.len]; omega), e2, List.map_set]
        · refine q _ _ (h.set (by decide) (by rw [List.length_map]; exact hr0) fun y hy => ?_)
          obtain ⟨y0, hy0, rfl⟩ := List.mem_map.mp hy
          have := h.bd r0 (List.mem_cons_self ..) y0 hy0
          rw [Int.natAbs_mul, show ((-2 : Int).natAbs) = 2 from rfl, show (2 : Nat) ^ 102 = 2 * 2 ^ 101 from rfl]
          omega
    · rw [decide_eq_false c1]
      exact q _ _ (h.up (by decide))
  · rw [show (w == 2) = false from beq_false_of_ne c]
    exact q _ _ (h.up (by decide))
theorem sq_4_ok (h : SqM z 102 M) (hz : 0 ≤ z) (hz6 : z < 6) (q : ∀ M, SqM z 102 M → e.nx (vsq t1 z w M t5 t6 t7) n) : sq16_4 (vsq t1 z w M t5 t6 t7) n e := by
  have hlim := lim_k
  refine ⟨_, eqD_int _ _, _, rfl, ?_⟩
  by_cases c : w = 3
  · rw [show (w == 3) = true from by rw [beq_iff_eq]; exact c]
    refine ⟨.bool (decide (0 < z)), rfl, _, rfl, ?_⟩
    by_cases c1 : 0 < z
    · rw [decide_eq_true c1]
      obtain ⟨r0, rest, rfl⟩ : ∃ r0 rest, M = r0 :: rest := by
        cases M with
        | nil => have := h.len; simp at this; omega
        | cons a b => exact ⟨a, b, rfl⟩
      have hr0 := h.sq r0 (List.mem_cons_self ..)
      have e1 : z - 1 = ((z.toNat - 1 : Nat) : Int) := by omega
      have l0 : (intsD r0).length = z.toNat := by unfold intsD; rw [List.length_map, hr0]
      have e3 : (List.replicate (z - 1).toNat [PyData.int 0]).flatten = intsD (List.replicate (z.toNat - 1) 0) := by
        rw [show (z - 1).toNat = z.toNat - 1 by omega]
        unfold intsD
        rw [List.map_replicate]
        generalize z.toNat - 1 = k
        induction k with
        | zero => rfl
        | succ k ih => rw [List.replicate_succ, List.flatten_cons, ih, List.replicate_succ]; rfl
      refine ⟨by show 1 ≤ lim; omega, _, rfl, .tuple (intsD (List.replicate (z.toNat - 1) 0)), ?_, rfl, _, tupI r0, rfl, atI_zero _ _, _, rfl, z - 1, rfl, .tuple (cutL (intsD r0) (some (z - 1)) none), rfl, ?_⟩
      · show (if _ then some (PyData.tuple _) else none) = _
        rw [if_pos ⟨by simp, by omega, by omega, by show 1 ≤ 1000; decide⟩, e3]
      have e4 : cutL (intsD r0) (some (z - 1)) none = intsD (r0.drop (z.toNat - 1)) := by
        rw [e1, cut_drop (by omega)]
        unfold intsD
        rw [List.map_drop]
      rw [e4]
      have e5 : intsD (List.replicate (z.toNat - 1) 0) ++ intsD (r0.drop (z.toNat - 1)) = intsD (List.replicate (z.toNat - 1) 0 ++ r0.drop (z.toNat - 1)) := by
        unfold intsD
        rw [List.map_append]
      refine ⟨tupI (List.replicate (z.toNat - 1) 0 ++ r0.drop (z.toNat - 1)), ?_, ⟨_, rfl⟩, (r0 :: rest).map tupI, 0, ((r0 :: rest).set 0 (List.replicate (z.toNat - 1) 0 ++ r0.drop (z.toNat - 1))).map tupI, rfl, rfl, ?_, ?_⟩
      · rw [add_tupT ?_, e5]
        have := congrArg List.length e5
        rw [List.length_append] at this
        rw [this]
        unfold intsD
        rw [List.length_map, List.length_append, List.length_replicate, List.length_drop, hr0]
        omega
      · have := setI_nat (xs := (r0 :: rest).map tupI) (j := 0) (d := tupI (List.replicate (z.toNat - 1) 0 ++ r0.drop (z.toNat - 1))) (by rw [List.length_map, h.len]; omega)
        exact this.trans (by rw [List.map_set])
      · refine q _ (h.set (Nat.le_refl _) (by rw [List.length_append, List.length_replicate, List.length_drop, hr0]; omega) fun y hy => ?_)
        rcases List.mem_append.mp hy with hy | hy
        · rw [List.eq_of_mem_replicate hy]
          exact two_pos 102
        · exact h.bd r0 (List.mem_cons_self ..) y (List.mem_of_mem_drop hy)
    · rw [decide_eq_false c1]
      exact q _ h
  · rw [show (w == 3) = false from beq_false_of_ne c]
    exact q _ h
end
theorem himp_square {e : EndsD} (ds : List D) (n : Nat) (k : D → Nat → Prop) (ke : Xv → Nat → Prop) (h : sdSquare ds n k ke) (he : e.rt = k) : cs_square (startE n_square ds) n e := by
  obtain ⟨rfl, hn, q⟩ := h
  subst he
  refine ⟨6, rfl, by omega, by decide, by decide, fun z z0 z6 => ⟨4, rfl, by omega, by decide, by decide, fun w w0 w1 => ⟨by show 4 < 8; decide, ?_⟩⟩⟩
  refine ⟨z, rfl, ⟨by omega, by omega⟩, ?_⟩
  have rl : (rangeD 0 z.toNat).length = z.toNat := by unfold rangeD; simp
  show cForL (stN 1) (cSq sq16_a (cSq sq16_b sq16_c)) (rangeD 0 z.toNat) (vsq none z w [] none none none) (n + 1 + 1) _
  refine sq_go z0 z6 (rangeD 0 z.toNat) [] _ none none none (by rw [rl]; omega) (by rw [rl, List.length_nil]; omega) (fun r hr => by cases hr) fun M t1 t5 n' h1 h2 h3 => ?_
  rw [rl] at h1 h3
  have hM : SqM z 101 M := ⟨by rw [h1, List.length_nil]; omega, fun r hr => (h2 r hr).1, fun r hr => (h2 r hr).2⟩
  refine sq_3_ok hM z0 z6 fun M2 t6 hM2 => ?_
  refine sq_4_ok hM2 z0 z6 fun M3 hM3 => ?_
  exact ⟨_, ⟨_, _, rfl, rfl, rfl⟩, q M3 n' (by rw [hM3.len]; omega) (fun r hr => by rw [hM3.sq r hr, hM3.len]) hM3.bd (by omega)⟩
end RM
namespace RM
open PySem PySem.Spec PyProof.Rows L2 CS RZ
/-! ### k16: drawn turns -/
abbrev n_right16 : List Str := ["_law_box_here", "_law_turn", "_law_rows_so", "_law_due", "_law_some", "_law_top_so", "_law_lap"]
def r16_0 : CS := cIfS (cNotT (cB (cCall sdByHand39 cNil))) (cRet (cC (.bool false))) (cNext)
def r16_a : CS := cSet 2 (cCall sdSquare (cCons (cVar 0) (cNil)))
def r16_b : CS := cSet 3 (cCall (sdLdet 7) (cCons (cVar 2) (cNil)))
def r16_c : CS := cIfS (cNotT (cB (cCall sdSame (cCons (cLst (cCons (cCall sdDetM (cCons (cVar 2) (cNil))) (cCons (cCall sdDetM (cCons (cCall (sdMixed 4) (cCons (cVar 0) (cCons (cVar 2) (cNil)))) (cNil))) (cNil)))) (cCons (cLst (cCons (cVar 3) (cCons (cVar 3) (cNil)))) (cNil)))))) (cRet (cC (.bool false))) (cNext)
def r16_d : CS := cSet 4 (cCB gTuple (cCons (cLc (cRange1 (cCons (cCall sdTake (cCons (cVar 0) (cCons (cC (.int 4)) (cNil)))) (cNil))) (stN 6) (cYes) (cCall sdTake (cCons (cVar 0) (cCons (cC (.int 4)) (cNil)))) [6]) (cNil)))
def r16_e : CS := cIfS (cNotT (cB (cCall sdSame (cCons (cLst (cCons (cCall sdArr (cCons (cVar 4) (cNil))) (cCons (cCall sdArr (cCons (cCF gList' (cCons (cVar 4) (cNil))) (cNil))) (cNil)))) (cCons (cOp repD (cLst (cCons (cCall (sdStrung 12) (cCons (cVar 4) (cNil))) (cNil))) (cC (.int 2))) (cNil)))))) (cRet (cC (.bool false))) (cNext)
def r16_f : CS := cSet 5 (cCall sdTake (cCons (cVar 0) (cCons (cC (.int 7)) (cNil))))
def r16_g : CS := cIfS (cNotT (cB (cCall sdSame (cCons (cCall sdFactorial (cCons (cVar 5) (cNil))) (cCons (cCall (sdStrung 12) (cCons (cOp repMD (cTup (cCons (cC (.int 1)) (cNil))) (cVar 5)) (cNil))) (cNil)))))) (cRet (cC (.bool false))) (cNext)
def r16_t : CS := cSq r16_a (cSq r16_b (cSq r16_c (cSq r16_d (cSq r16_e (cSq r16_f r16_g)))))
def cs_right16 : CS := cSq r16_0 (cSq (cFor (cRange1 (cCons (cC (.int 6)) (cNil))) (stN 1) r16_t) (cRet (cC (.bool true))))
abbrev v16 (t1 t2 t3 t4 t5 t6 : Option Sl) : En := [some (.v boxD), t1, t2, t3, t4, t5, t6]
theorem mix_int {i : Int} {y : D} (h : Mix (.int i) y) : y = .int i := by
  cases h with
  | int => rfl
  | seq t h r => cases h
theorem mix_ints : ∀ {r : List Int} {ys : List D}, MixL (intsD r) ys → ys = intsD r
  | [], _, .nil => rfl
  | i :: r, _, .cons h t => by
    rw [mix_int h, mix_ints t]
    rfl
theorem mix_row {r : Row} {y : D} (h : Mix (tupI r) y) : ∃ t, y = rowB (t, r) := by
  cases h with
  | seq t h hr =>
    cases h
    rw [mix_ints hr]
    cases t
    · exact ⟨false, rfl⟩
    · exact ⟨true, rfl⟩
theorem mix_rows : ∀ {M : List Row} {ys : List D}, MixL (M.map tupI) ys → ∃ R : List Rb, ys = R.map rowB ∧ unB R = M
  | [], _, .nil => ⟨[], rfl, rfl⟩
  | r :: M, _, .cons h t => by
    obtain ⟨b, rfl⟩ := mix_row h
    obtain ⟨R, rfl, e⟩ := mix_rows t
    exact ⟨(b, r) :: R, rfl, by unfold unB at e ⊢; rw [List.map_cons, e]⟩
theorem mix_mat {M : List Row} {y : D} (h : Mix (.tuple (M.map tupI)) y) : ∃ R : List Rb, seqD y = some (R.map rowB) ∧ unB R = M := by
  cases h with
  | seq t h hr =>
    cases h
    obtain ⟨R, rfl, e⟩ := mix_rows hr
    cases t
    · exact ⟨R, rfl, e⟩
    · exact ⟨R, rfl, e⟩
theorem zeros_sum {α : Type} {f : α → Nat} : ∀ l : List α, (∀ a ∈ l, f a = 0) → (l.map f).sum = 0
  | [], _ => rfl
  | a :: l, h => by rw [List.map_cons, List.sum_cons, h a (List.mem_cons_self ..), zeros_sum l fun x hx => h x (List.mem_cons_of_mem _ hx)]
theorem ones_sum {α : Type} {f : α → Nat} : ∀ l : List α, (∀ a ∈ l, f a = 1) → (l.map f).sum = l.length
  | [], _ => rfl
  | a :: l, h => by rw [List.map_cons, List.sum_cons, h a (List.mem_cons_self ..), ones_sum l fun x hx => h x (List.mem_cons_of_mem _ hx), List.length_cons]; omega
theorem sz_mat (M : List Row) : szM 4 (.tuple (M.map tupI)) = 1 + M.length := by
  show 1 + ((M.map tupI).map (szM 3)).sum = _
  rw [ones_sum (M.map tupI) fun d hd => by
    obtain ⟨r, _, rfl⟩ := List.mem_map.mp hd
    show 1 + ((intsD r).map (szM 2)).sum = 1
    rw [zeros_sum (intsD r) fun d hd => by
      obtain ⟨i, _, rfl⟩ := List.mem_map.mp hd
      rfl], List.length_map]
theorem ok_mat {M : List Row} (h1 : M.length ≤ 5) (h2 : ∀ r ∈ M, r.length = M.length) : okM 4 (.tuple (M.map tupI)) := ⟨by rw [List.length_map]; omega, fun d hd => by
  obtain ⟨r, hr, rfl⟩ := List.mem_map.mp hd
  have := h2 r hr
  refine ⟨by unfold intsD; rw [List.length_map]; omega, fun d hd => ?_⟩
  obtain ⟨i, _, rfl⟩ := List.mem_map.mp hd
  trivial⟩
theorem det_facts {M : List Row} {R : List Rb} (e : unB R = M) (h1 : M.length ≤ 5) (h2 : ∀ r ∈ M, r.length = M.length) (bd : Bd M 102) : (∀ r ∈ R, r.2.length = R.length) ∧ R.length ≤ 100 ∧ Bd (unB R) 102 ∧ (102 + 1) * 2 ^ R.length ≤ 9000 := by
  have hl : R.length = M.length := by rw [← e]; exact (List.length_map _).symm
  refine ⟨fun r hr => ?_, by omega, by rw [e]; exact bd, ?_⟩
  · rw [hl]
    exact h2 r.2 (by rw [← e]; exact List.mem_map_of_mem hr)
  · rw [hl]
    have : 2 ^ M.length ≤ 2 ^ 5 := Nat.pow_le_pow_right (by decide) h1
    exact Nat.le_trans (Nat.mul_le_mul_left _ this) (by decide)
section
variable {e : EndsD} {n : Nat} {t1 t2 t3 t4 t5 t6 : Option Sl} {M : List Row}
theorem r16_c_ok (hn : n ≤ 700000) (h1 : M.length ≤ 5) (h2 : ∀ r ∈ M, r.length = M.length) (bd : Bd M 102) (q : ∀ n', n' ≤ n + 6 → e.nx (v16 t1 (some (.v (.tuple (M.map tupI)))) (some (.v (.int (ldet M.length M)))) t4 t5 t6) n') :
    r16_c (v16 t1 (some (.v (.tuple (M.map tupI)))) (some (.v (.int (ldet M.length M)))) t4 t5 t6) n e := by
  have e0 : unB (M.map fun r => ((true, r) : Rb)) = M := by
    unfold unB
    rw [List.map_map]
    exact List.map_id' M
  have e1 : (M.map tupI) = (M.map fun r => ((true, r) : Rb)).map rowB := by
    rw [List.map_map]
    rfl
  have sz := sz_mat M
  have f := det_facts e0 h1 h2 bd
  refine ⟨.tuple (M.map tupI), M.map fun r => ((true, r) : Rb), 102, rfl, by rw [← e1]; rfl, f.1, f.2.1, by decide, f.2.2.1, f.2.2.2, ?_⟩
  rw [e0]
  refine ⟨_, rfl, ok_mat h1 h2, by rw [sz]; omega, fun y n' hy hn' => ?_⟩
  rw [sz] at hn'
  obtain ⟨R, hR, eR⟩ := mix_mat hy
  have f := det_facts eR h1 h2 bd
  refine ⟨y, R, 102, rfl, hR, f.1, f.2.1, by decide, f.2.2.1, f.2.2.2, ?_⟩
  rw [eR]
  refine ⟨by show 2 ≤ lim; decide, by show 2 ≤ lim; decide, ?_⟩
  rw [ldet_dl M.length M rfl h2]
  rw [ldet_dl M.length M rfl h2] at q
  exact ⟨_, rfl, okS_ints (is := [dl M, dl M]) (by show 2 ≤ 1000; decide), _, rfl, q n' (by omega)⟩
theorem take_go {k : List D → En → Nat → Prop} : ∀ (ds : List D) (acc : List Nat) (n : Nat), n + ds.length ≤ 800000 → acc.length + ds.length ≤ 100 →
    (∀ ys : List Nat, ys.length = ds.length → (∀ y ∈ ys, y ≤ 3) → k (natsD (acc ++ ys)) (v16 t1 t2 t3 t4 t5 none) (n + ds.length)) →
    cLcL (stN 6) cYes (cCall sdTake (cCons (cVar 0) (cCons (cC (.int 4)) (cNil)))) [6] ds (v16 t1 t2 t3 t4 t5 none) n (natsD acc) k
  | [], acc, n, _, _, q => by
    have := q [] rfl (fun y hy => by cases hy)
    rw [List.append_nil] at this
    exact this
  | d :: ds, acc, n, hn, hl, q => by
    have hlim := lim_k
    rw [List.length_cons] at hn hl q
    refine lc_yes (ρ1 := v16 t1 t2 t3 t4 t5 (some (.v d))) rfl ?_
    refine ⟨4, rfl, by omega, by decide, by decide, fun r r0 r1 => ⟨by unfold natsD; rw [List.length_map]; omega, ?_⟩⟩
    obtain ⟨i, rfl⟩ : ∃ i : Nat, r = (i : Int) := ⟨r.toNat, by omega⟩
    have e1 : natsD acc ++ [PyData.int (i : Nat)] = natsD (acc ++ [i]) := by
      unfold natsD
      rw [List.map_append]
      rfl
    rw [e1]
    refine take_go ds (acc ++ [i]) (n + 1) (by omega) (by rw [List.length_append, List.length_singleton]; omega) fun ys h2 h3 => ?_
    have := q (i :: ys) (by rw [List.length_cons, h2]) fun y hy => by
      rcases List.mem_cons.mp hy with rfl | hy
      · omega
      · exact h3 y hy
    rw [List.append_assoc, show n + 1 + ds.length = n + (ds.length + 1) by omega]
    exact this
theorem r16_d_ok (hn : n ≤ 700000) (q : ∀ (ns : List Nat) n', ns.length ≤ 3 → (∀ y ∈ ns, y ≤ 3) → n' ≤ n + 5 → e.nx (v16 t1 t2 t3 (some (.v (.tuple (natsD ns)))) t5 none) n') : r16_d (v16 t1 t2 t3 t4 t5 t6) n e := by
  refine ⟨4, rfl, by omega, by decide, by decide, fun r r0 r1 => ⟨r, rfl, ⟨by omega, by omega⟩, ?_⟩⟩
  have rl : (rangeD 0 r.toNat).length = r.toNat := by unfold rangeD; simp
  show cLcL _ _ _ _ (rangeD 0 r.toNat) (v16 t1 t2 t3 t4 t5 none) (n + 1) (natsD []) _
  refine take_go (rangeD 0 r.toNat) [] (n + 1) (by rw [rl]; omega) (by rw [rl, List.length_nil]; omega) fun ys h1 h2 => ?_
  rw [rl] at h1 ⊢
  rw [List.nil_append]
  exact ⟨_, ⟨_, _, rfl, rfl, rfl⟩, q ys _ (by omega) h2 (by omega)⟩
theorem sum_le3 : ∀ ns : List Nat, (∀ y ∈ ns, y ≤ 3) → ns.sum ≤ 3 * ns.length
  | [], _ => Nat.le_refl _
  | a :: l, h => by
    have := sum_le3 l fun y hy => h y (List.mem_cons_of_mem _ hy)
    have := h a (List.mem_cons_self ..)
    rw [List.sum_cons, List.length_cons]
    omega
theorem r16_e_ok {ns : List Nat} (hl : ns.length ≤ 3) (h3 : ∀ y ∈ ns, y ≤ 3) (q : e.nx (v16 t1 t2 t3 (some (.v (.tuple (natsD ns)))) t5 t6) n) : r16_e (v16 t1 t2 t3 (some (.v (.tuple (natsD ns)))) t5 t6) n e := by
  have hs := sum_le3 ns h3
  refine ⟨.tuple (natsD ns), ns, rfl, rfl, by omega, natsD ns, .inl ⟨_, rfl, rfl⟩, .list (natsD ns), ns, rfl, rfl, by omega, by show 2 ≤ lim; decide, ?_⟩
  refine ⟨ns, rfl, by omega, by omega, by show 1 ≤ lim; decide, _, rfl, ?_⟩
  rw [strg_arr (Nat.le_refl _)]
  exact ⟨_, rfl, okS_ints (is := [arrF ns, arrF ns]) (by show 2 ≤ 1000; decide), _, rfl, q⟩
theorem ones_strg (a : Nat) : strg (List.replicate a 1).sum (List.replicate a 1) = fac a := by
  have h := strg_fac (List.replicate a 1).sum (List.replicate a 1) (Nat.le_refl _)
  have h1 : (List.replicate a 1).sum = a := by simp
  have h2 : prodI ((List.replicate a 1).map fac) = 1 := by
    rw [List.map_replicate]
    clear h h1
    induction a with
    | zero => rfl
    | succ a ih => rw [List.replicate_succ]; show fac 1 * _ = 1; rw [ih]; rfl
  rw [h2, Int.mul_one] at h
  rw [h, h1]
theorem r16_fg_ok (hn : n ≤ 700000) (q : ∀ t5, e.nx (v16 t1 t2 t3 t4 t5 t6) (n + 1)) : cSq r16_f r16_g (v16 t1 t2 t3 t4 t5 t6) n e := by
  refine ⟨7, rfl, by omega, by decide, by decide, fun r r0 r1 => ?_⟩
  obtain ⟨a, rfl⟩ : ∃ a : Nat, r = (a : Int) := ⟨r.toNat, by omega⟩
  refine ⟨a, rfl, by omega, by show 1 ≤ lim; decide, .tuple (natsD (List.replicate a 1)), ?_, ?_⟩
  · show (if _ then some (PyData.tuple _) else none) = _
    rw [if_pos ⟨by simp, by omega, by omega, by show 1 ≤ 1000; decide⟩, Int.toNat_natCast]
    have key : ∀ a : Nat, (List.replicate a [PyData.int 1]).flatten = natsD (List.replicate a 1) := by
      intro a
      induction a with
      | zero => rfl
      | succ a ih => rw [List.replicate_succ, List.flatten_cons, ih, List.replicate_succ]; rfl
    rw [key a]
  · refine ⟨List.replicate a 1, rfl, by simp; omega, by simp; omega, ?_⟩
    rw [ones_strg a]
    exact ⟨_, rfl, trivial, _, rfl, q _⟩
theorem turns16 : ∀ (turns : List D) (t1 t2 t3 t4 t5 t6 : Option Sl) (n : Nat), n + 100 * turns.length ≤ 400000 → (∀ (ρ : En) (n' : Nat), e.nx ρ n') → cForL (stN 1) r16_t turns (v16 t1 t2 t3 t4 t5 t6) n e
  | [], _, _, _, _, _, _, n, _, q => q _ n
  | d :: turns, t1, t2, t3, t4, t5, t6, n, h, q => by
    rw [List.length_cons] at h
    refine ⟨v16 (some (.v d)) t2 t3 t4 t5 t6, rfl, ?_⟩
    refine ⟨rfl, by omega, fun M n1 h1 h2 bd hn1 => ?_⟩
    refine ⟨M, 102, rfl, by omega, by decide, h2, by decide, by decide, bd, ?_⟩
    refine r16_c_ok (by omega) h1 h2 bd fun n2 hn2 => ?_
    refine r16_d_ok (by omega) fun ns n3 h3 h4 hn3 => ?_
    refine r16_e_ok h3 h4 ?_
    refine r16_fg_ok (by omega) fun t5 => ?_
    exact turns16 turns _ _ _ _ _ _ _ (by omega) q
end
theorem himp_right16z {e : EndsD} (ds : List D) (n : Nat) (k : D → Nat → Prop) (ke : Xv → Nat → Prop) (h : sdRight11 ds n k ke) (he : e.rt = k) : cs_right16 (startE n_right16 ds) n e := by
  obtain ⟨rfl, rfl, q⟩ := h
  subst he
  refine ⟨rfl, _, rfl, 6, rfl, ⟨by decide, by decide⟩, ?_⟩
  have e6 : (rangeD 0 (6 : Int).toNat).length = 6 := rfl
  exact turns16 _ none none none none none none 0 (by rw [e6]; decide) fun ρ n' => q n'
end RM
set_option maxHeartbeats 4000000
namespace RM
open PySem PySem.Spec PyProof.Rows L2 CS RZ
/-! ### k16, by hand -/
structure DH (R : List Rb) (v : Int) : Prop where
  sq : ∀ r ∈ R, r.2.length = R.length
  len : R.length ≤ 100
  bd : Bd (unB R) 4
  size : (4 + 1) * 2 ^ R.length ≤ 9000
  val : dl (unB R) = v
def wideR : List Row := (List.range 7).map fun i => (List.range 7).map fun j => ((0 : Int) + (i : Nat) + 1) * (if ((0 : Int) + (j : Nat) + ((0 : Int) + (i : Nat)) == 6) = true then 1 else 0)
def lateR : List Row := (List.range 5).map fun i => (List.range 7).map fun j => if decide ((0 : Int) + (i : Nat) ≤ (0 : Int) + (j : Nat)) = true then 1 else 0
def dq1 : List Rb := []
def dq2 : List Rb := [(true, [5])]
def dq3 : List Rb := [(true, [0, 1]), (true, [1, 0])]
def dq4 : List Rb := [(false, [2, -1]), (false, [-1, 2])]
def dq5 : List Rb := [(true, [0, 0, 2]), (true, [0, 3, 1]), (true, [5, 1, 1])]
def dq6 : List Rb := [(true, [1, 2]), (true, [2, 4])]
def dq7 : List Rb := [(true, [0, 1, 0]), (true, [0, 0, 1]), (true, [1, 0, 0])]
def dq8 : List Rb := [(true, [1, 2, 3]), (true, [1, 2, 4]), (true, [2, 5, 6])]
def dq9 : List Rb := wideR.map fun r => (true, r)
def dq10 : List Rb := (lateR ++ [[0, 0, 0, 0, 0, 0, 1], [0, 0, 0, 0, 0, 1, 1]]).map fun r => (true, r)
instance (R : List Row) (B : Nat) : Decidable (Bd R B) := by unfold Bd; exact inferInstance
theorem DQ1 : DH dq1 (1) := ⟨by decide +kernel, by decide +kernel, by decide +kernel, by decide +kernel, by decide +kernel⟩
theorem DQ2 : DH dq2 (5) := ⟨by decide +kernel, by decide +kernel, by decide +kernel, by decide +kernel, by decide +kernel⟩
theorem DQ3 : DH dq3 (-1) := ⟨by decide +kernel, by decide +kernel, by decide +kernel, by decide +kernel, by decide +kernel⟩
theorem DQ4 : DH dq4 (3) := ⟨by decide +kernel, by decide +kernel, by decide +kernel, by decide +kernel, by decide +kernel⟩
theorem DQ5 : DH dq5 (-30) := ⟨by decide +kernel, by decide +kernel, by decide +kernel, by decide +kernel, by decide +kernel⟩
theorem DQ6 : DH dq6 (0) := ⟨by decide +kernel, by decide +kernel, by decide +kernel, by decide +kernel, by decide +kernel⟩
theorem DQ7 : DH dq7 (1) := ⟨by decide +kernel, by decide +kernel, by decide +kernel, by decide +kernel, by decide +kernel⟩
theorem DQ8 : DH dq8 (-1) := ⟨by decide +kernel, by decide +kernel, by decide +kernel, by decide +kernel, by decide +kernel⟩
theorem DQ9 : DH dq9 (-5040) := ⟨by decide +kernel, by decide +kernel, by decide +kernel, by decide +kernel, by decide +kernel⟩
theorem DQ10 : DH dq10 (-1) := ⟨by decide +kernel, by decide +kernel, by decide +kernel, by decide +kernel, by decide +kernel⟩
def h16_1 : CS := cOwn 0 (cLst (cCons (cCall sdDetM (cCons (cTup (cNil)) (cNil))) (cCons (cCall sdDetM (cCons (cTup (cCons (cTup (cCons (cC (.int 5)) (cNil))) (cNil))) (cNil))) (cCons (cCall sdDetM (cCons (cTup (cCons (cTup (cCons (cC (.int 0)) (cCons (cC (.int 1)) (cNil)))) (cCons (cTup (cCons (cC (.int 1)) (cCons (cC (.int 0)) (cNil)))) (cNil)))) (cNil))) (cNil)))))
def h16_2 : CS := cOwn 0 (cAddF (cVar 0) (cLst (cCons (cCall sdDetM (cCons (cLst (cCons (cLst (cCons (cC (.int 2)) (cCons (cNeg (cC (.int 1))) (cNil)))) (cCons (cLst (cCons (cNeg (cC (.int 1))) (cCons (cC (.int 2)) (cNil)))) (cNil)))) (cNil))) (cCons (cCallK 1 sdDetM (cCons (cTup (cCons (cTup (cCons (cC (.int 0)) (cCons (cC (.int 0)) (cCons (cC (.int 2)) (cNil))))) (cCons (cTup (cCons (cC (.int 0)) (cCons (cC (.int 3)) (cCons (cC (.int 1)) (cNil))))) (cCons (cTup (cCons (cC (.int 5)) (cCons (cC (.int 1)) (cCons (cC (.int 1)) (cNil))))) (cNil))))) cNil)) (cNil)))))
def h16_3 : CS := cDrop (cApp 0 (cCall sdDetM (cCons (cTup (cCons (cTup (cCons (cC (.int 1)) (cCons (cC (.int 2)) (cNil)))) (cCons (cTup (cCons (cC (.int 2)) (cCons (cC (.int 4)) (cNil)))) (cNil)))) (cNil))))
def h16_4 : CS := cDrop (cApp 0 (cCall sdDetM (cCons (cTup (cCons (cTup (cCons (cC (.int 0)) (cCons (cC (.int 1)) (cCons (cC (.int 0)) (cNil))))) (cCons (cTup (cCons (cC (.int 0)) (cCons (cC (.int 0)) (cCons (cC (.int 1)) (cNil))))) (cCons (cTup (cCons (cC (.int 1)) (cCons (cC (.int 0)) (cCons (cC (.int 0)) (cNil))))) (cNil))))) (cNil))))
def h16_5 : CS := cDrop (cApp 0 (cCall sdDetM (cCons (cTup (cCons (cTup (cCons (cC (.int 1)) (cCons (cC (.int 2)) (cCons (cC (.int 3)) (cNil))))) (cCons (cTup (cCons (cC (.int 1)) (cCons (cC (.int 2)) (cCons (cC (.int 4)) (cNil))))) (cCons (cTup (cCons (cC (.int 2)) (cCons (cC (.int 5)) (cCons (cC (.int 6)) (cNil))))) (cNil))))) (cNil))))
def h16_6 : CS := cOwn 1 (cLc (cRange1 (cCons (cC (.int 7)) (cNil))) (stN 4) (cYes) (cCB gTuple (cCons (cLc (cRange1 (cCons (cC (.int 7)) (cNil))) (stN 5) (cYes) (cOp mulW (cOp addD (cVar 4) (cC (.int 1))) (cCB gInt (cCons (cOp eqD (cOp addD (cVar 5) (cVar 4)) (cC (.int 6))) (cNil)))) [5]) (cNil))) [4])
def h16_7 : CS := cSet 2 (cOp addD (cLc (cRange1 (cCons (cC (.int 5)) (cNil))) (stN 4) (cYes) (cCB gTuple (cCons (cLc (cRange1 (cCons (cC (.int 7)) (cNil))) (stN 5) (cYes) (cCB gInt (cCons (cOp geD (cVar 5) (cVar 4)) (cNil))) [5]) (cNil))) [4]) (cLst (cCons (cOp addD (cOp repMD (cTup (cCons (cC (.int 0)) (cNil))) (cC (.int 6))) (cTup (cCons (cC (.int 1)) (cNil)))) (cCons (cOp addD (cOp repMD (cTup (cCons (cC (.int 0)) (cNil))) (cC (.int 5))) (cTup (cCons (cC (.int 1)) (cCons (cC (.int 1)) (cNil))))) (cNil)))))
def h16_8 : CS := cOwn 0 (cAddF (cVar 0) (cLst (cCons (cCall sdDetM (cCons (cCB gTuple (cCons (cVar 1) (cNil))) (cNil))) (cCons (cCall sdDetM (cCons (cVar 2) (cNil))) (cNil)))))
def h16_9 : CS := cOwn 0 (cAddF (cVar 0) (cLst (cCons (cCall sdFactorial (cCons (cC (.int 0)) (cNil))) (cCons (cCall sdFactorial (cCons (cC (.int 1)) (cNil))) (cCons (cCallK 1 sdFactorial (cCons (cC (.int 5)) cNil)) (cCons (cCall sdFactorial (cCons (cC (.int 25)) (cNil))) (cCons (cCall sdArr (cCons (cTup (cNil)) (cNil))) (cNil))))))))
def h16_10 : CS := cOwn 0 (cAddF (cVar 0) (cLst (cCons (cCall sdArr (cCons (cTup (cCons (cC (.int 0)) (cNil))) (cNil))) (cCons (cCallK 1 sdArr (cCons (cLst (cCons (cC (.int 2)) (cCons (cC (.int 1)) (cNil)))) cNil)) (cCons (cCall sdArr (cCons (cTup (cCons (cC (.int 10)) (cCons (cC (.int 10)) (cNil)))) (cNil))) (cNil))))))
def h16_11 : CS := cOwn 0 (cAddF (cVar 0) (cLst (cCons (cCall sdArr (cCons (cTup (cCons (cC (.int 0)) (cCons (cC (.int 3)) (cCons (cC (.int 0)) (cNil))))) (cNil))) (cCons (cCall sdArr (cCons (cTup (cCons (cC (.int 30)) (cCons (cC (.int 30)) (cNil)))) (cNil))) (cNil)))))
def h16_12 : CS := cSet 3 (cLst (cCons (cC (.int 1)) (cCons (cC (.int 5)) (cCons (cNeg (cC (.int 1))) (cCons (cC (.int 3)) (cCons (cNeg (cC (.int 30))) (cCons (cC (.int 0)) (cCons (cC (.int 1)) (cCons (cNeg (cC (.int 1))) (cCons (cNeg (cC (.int 5040))) (cCons (cNeg (cC (.int 1))) (cCons (cC (.int 1)) (cCons (cC (.int 1)) (cCons (cC (.int 120)) (cCons (cC (.int 15511210043330985984000000)) (cCons (cC (.int 1)) (cCons (cC (.int 1)) (cNil))))))))))))))))))
def h16_13 : CS := cRet (cCall sdSame (cCons (cVar 0) (cCons (cOp addD (cVar 3) (cLst (cCons (cC (.int 3)) (cCons (cC (.int 184756)) (cCons (cC (.int 1)) (cCons (cC (.int 118264581564861424)) (cNil))))))) (cNil))))
def cs_by_hand16 : CS := cSq h16_1 (cSq h16_2 (cSq h16_3 (cSq h16_4 (cSq h16_5 (cSq h16_6 (cSq h16_7 (cSq h16_8 (cSq h16_9 (cSq h16_10 (cSq h16_11 (cSq h16_12 (h16_13))))))))))))
abbrev n_by_hand16 : List Str := ["_law_got", "_law_wide", "_law_late", "_law_due", "_law_k", "_law_j"]
end RM
set_option maxHeartbeats 4000000
namespace RM
open PySem PySem.Spec PyProof.Rows L2 CS RZ
section
variable {e : EndsD} {n : Nat} {t0 t1 t2 t3 t4 t5 : Option Sl}
theorem h16_1_ok (q : e.nx [some (.own (.list (intsD [1, 5, -1]))), t1, t2, t3, t4, t5] n) : h16_1 [t0, t1, t2, t3, t4, t5] n e := by
  refine ⟨by show 0 ≤ lim; decide, .tuple [], dq1, 4, rfl, rfl, DQ1.sq, DQ1.len, by decide, DQ1.bd, DQ1.size, ?_⟩
  rw [DQ1.val]
  refine ⟨by show 1 ≤ lim; decide, by show 1 ≤ lim; decide, _, dq2, 4, rfl, rfl, DQ2.sq, DQ2.len, by decide, DQ2.bd, DQ2.size, ?_⟩
  rw [DQ2.val]
  refine ⟨by show 2 ≤ lim; decide, by show 2 ≤ lim; decide, by show 2 ≤ lim; decide, _, dq3, 4, rfl, rfl, DQ3.sq, DQ3.len, by decide, DQ3.bd, DQ3.size, ?_⟩
  rw [DQ3.val]
  exact ⟨by show 3 ≤ lim; decide, by show 0 < 6; decide, q⟩
theorem h16_2_ok (q : e.nx [some (.own (.list (intsD [1, 5, -1, 3, -30]))), t1, t2, t3, t4, t5] n) : h16_2 [some (.own (.list (intsD [1, 5, -1]))), t1, t2, t3, t4, t5] n e := by
  refine ⟨1, rfl, by show 2 ≤ lim; decide, 1, rfl, by show 2 ≤ lim; decide, by show 2 ≤ lim; decide, _, dq4, 4, rfl, rfl, DQ4.sq, DQ4.len, by decide, DQ4.bd, DQ4.size, ?_⟩
  rw [DQ4.val]
  refine ⟨by show 3 ≤ lim; decide, by show 3 ≤ lim; decide, by show 3 ≤ lim; decide, by show 3 ≤ lim; decide, rfl, _, dq5, 4, rfl, rfl, DQ5.sq, DQ5.len, by decide, DQ5.bd, DQ5.size, ?_⟩
  rw [DQ5.val]
  exact ⟨by show 2 ≤ lim; decide, _, _, rfl, rfl, by show 3 + 2 ≤ lim; decide, by show 0 < 6; decide, q⟩
theorem h16_3_ok (q : e.nx [some (.own (.list (intsD [1, 5, -1, 3, -30, 0]))), t1, t2, t3, t4, t5] n) : h16_3 [some (.own (.list (intsD [1, 5, -1, 3, -30]))), t1, t2, t3, t4, t5] n e := by
  refine ⟨⟨_, rfl⟩, by show 2 ≤ lim; decide, by show 2 ≤ lim; decide, by show 2 ≤ lim; decide, _, dq6, 4, rfl, rfl, DQ6.sq, DQ6.len, by decide, DQ6.bd, DQ6.size, ?_⟩
  rw [DQ6.val]
  exact ⟨_, rfl, by show 5 < lim; decide, q⟩
theorem h16_4_ok (q : e.nx [some (.own (.list (intsD [1, 5, -1, 3, -30, 0, 1]))), t1, t2, t3, t4, t5] n) : h16_4 [some (.own (.list (intsD [1, 5, -1, 3, -30, 0]))), t1, t2, t3, t4, t5] n e := by
  refine ⟨⟨_, rfl⟩, by show 3 ≤ lim; decide, by show 3 ≤ lim; decide, by show 3 ≤ lim; decide, by show 3 ≤ lim; decide, _, dq7, 4, rfl, rfl, DQ7.sq, DQ7.len, by decide, DQ7.bd, DQ7.size, ?_⟩
  rw [DQ7.val]
  exact ⟨_, rfl, by show 6 < lim; decide, q⟩
theorem h16_5_ok (q : e.nx [some (.own (.list (intsD [1, 5, -1, 3, -30, 0, 1, -1]))), t1, t2, t3, t4, t5] n) : h16_5 [some (.own (.list (intsD [1, 5, -1, 3, -30, 0, 1]))), t1, t2, t3, t4, t5] n e := by
  refine ⟨⟨_, rfl⟩, by show 3 ≤ lim; decide, by show 3 ≤ lim; decide, by show 3 ≤ lim; decide, by show 3 ≤ lim; decide, _, dq8, 4, rfl, rfl, DQ8.sq, DQ8.len, by decide, DQ8.bd, DQ8.size, ?_⟩
  rw [DQ8.val]
  exact ⟨_, rfl, by show 7 < lim; decide, q⟩
def rowWd (i : Nat) : Row := (List.range 7).map fun j => ((0 : Int) + (i : Nat) + 1) * (if ((0 : Int) + (j : Nat) + ((0 : Int) + (i : Nat)) == 6) = true then 1 else 0)
def rowLt (i : Nat) : Row := (List.range 7).map fun j => if decide ((0 : Int) + (i : Nat) ≤ (0 : Int) + (j : Nat)) = true then 1 else 0
theorem h16_6_ok (q : e.nx [t0, some (.own (.list (wideR.map tupI))), t2, t3, none, none] n) : h16_6 [t0, t1, t2, t3, none, none] n e := by
  have hlim := lim_k
  refine ⟨7, rfl, ⟨by decide, by decide⟩, ?_⟩
  show cLcL _ _ _ _ ((List.range 7).map fun i : Nat => PyData.int (0 + (i : Nat))) [t0, t1, t2, t3, none, none] n [] _
  refine map_run (fun i : Nat => PyData.int (0 + (i : Nat))) (fun _ => true) (fun i => tupI (rowWd i)) (List.range 7) [] (fun i hi => ⟨[t0, t1, t2, t3, some (.v (.int (0 + (i : Nat)))), none], rfl, rfl, fun K1 hK => hK, fun K2 hK => ?_⟩) (by show 0 + 7 ≤ lim; omega) ?_
  · have hi7 := List.mem_range.mp hi
    refine ⟨7, rfl, ⟨by decide, by decide⟩, ?_⟩
    show cLcL _ _ _ _ ((List.range 7).map fun j : Nat => PyData.int (0 + (j : Nat))) [t0, t1, t2, t3, some (.v (.int (0 + (i : Nat)))), none] n [] _
    refine map_run (fun j : Nat => PyData.int (0 + (j : Nat))) (fun _ => true) (fun j => PyData.int (((0 : Int) + (i : Nat) + 1) * (if ((0 : Int) + (j : Nat) + ((0 : Int) + (i : Nat)) == 6) = true then 1 else 0))) (List.range 7) [] (fun j hj => ⟨[t0, t1, t2, t3, some (.v (.int (0 + (i : Nat)))), some (.v (.int (0 + (j : Nat))))], rfl, rfl, fun K1 hK => hK, fun K2 hK => ?_⟩) (by show 0 + 7 ≤ lim; omega) ?_
    · exact ⟨_, rfl, _, rfl, _, eqD_int _ _, _, .inr ⟨_, rfl, rfl⟩, _, mulW_ok (a := 4) (b := 1) (by omega) (by split <;> decide) (by decide) (by decide) (by decide), hK⟩
    · rw [filter_true, List.nil_append]
      refine ⟨_, ⟨_, _, rfl, rfl, rfl⟩, ?_⟩
      have e1 : ((List.range 7).map fun j => PyData.int (((0 : Int) + (i : Nat) + 1) * (if ((0 : Int) + (j : Nat) + ((0 : Int) + (i : Nat)) == 6) = true then 1 else 0))) = intsD (rowWd i) := by
        unfold intsD rowWd
        rw [List.map_map]
        rfl
      rw [e1]
      exact hK
  · rw [filter_true, List.nil_append]
    have e1 : ((List.range 7).map fun i => tupI (rowWd i)) = wideR.map tupI := by
      unfold wideR
      rw [List.map_map]
      rfl
    rw [e1]
    exact ⟨by show 1 < 6; decide, q⟩
theorem h16_7_ok (q : e.nx [t0, t1, some (.v (.list ((lateR ++ [[0, 0, 0, 0, 0, 0, 1], [0, 0, 0, 0, 0, 1, 1]]).map tupI))), t3, none, none] n) : h16_7 [t0, t1, t2, t3, none, none] n e := by
  have hlim := lim_k
  refine ⟨5, rfl, ⟨by decide, by decide⟩, ?_⟩
  show cLcL _ _ _ _ ((List.range 5).map fun i : Nat => PyData.int (0 + (i : Nat))) [t0, t1, t2, t3, none, none] n [] _
  refine map_run (fun i : Nat => PyData.int (0 + (i : Nat))) (fun _ => true) (fun i => tupI (rowLt i)) (List.range 5) [] (fun i hi => ⟨[t0, t1, t2, t3, some (.v (.int (0 + (i : Nat)))), none], rfl, rfl, fun K1 hK => hK, fun K2 hK => ?_⟩) (by show 0 + 5 ≤ lim; omega) ?_
  · refine ⟨7, rfl, ⟨by decide, by decide⟩, ?_⟩
    show cLcL _ _ _ _ ((List.range 7).map fun j : Nat => PyData.int (0 + (j : Nat))) [t0, t1, t2, t3, some (.v (.int (0 + (i : Nat)))), none] n [] _
    refine map_run (fun j : Nat => PyData.int (0 + (j : Nat))) (fun _ => true) (fun j => PyData.int (if decide ((0 : Int) + (i : Nat) ≤ (0 : Int) + (j : Nat)) = true then 1 else 0)) (List.range 7) [] (fun j hj => ⟨[t0, t1, t2, t3, some (.v (.int (0 + (i : Nat)))), some (.v (.int (0 + (j : Nat))))], rfl, rfl, fun K1 hK => hK, fun K2 hK => ?_⟩) (by show 0 + 7 ≤ lim; omega) ?_
    · exact ⟨_, rfl, _, .inr ⟨_, rfl, rfl⟩, hK⟩
    · rw [filter_true, List.nil_append]
      refine ⟨_, ⟨_, _, rfl, rfl, rfl⟩, ?_⟩
      have e1 : ((List.range 7).map fun j => PyData.int (if decide ((0 : Int) + (i : Nat) ≤ (0 : Int) + (j : Nat)) = true then 1 else 0)) = intsD (rowLt i) := by
        unfold intsD rowLt
        rw [List.map_map]
        rfl
      rw [e1]
      exact hK
  · rw [filter_true, List.nil_append]
    have e1 : ((List.range 5).map fun i => tupI (rowLt i)) = lateR.map tupI := by
      unfold lateR
      rw [List.map_map]
      rfl
    rw [e1]
    refine ⟨by show 1 ≤ lim; omega, .tuple (intsD [0, 0, 0, 0, 0, 0]), rfl, by show 1 ≤ lim; omega, .tuple (intsD [0, 0, 0, 0, 0, 0, 1]), add_tupT (by show 6 + 1 ≤ lim; omega), by show 1 ≤ lim; omega, .tuple (intsD [0, 0, 0, 0, 0]), rfl, by show 2 ≤ lim; omega, .tuple (intsD [0, 0, 0, 0, 0, 1, 1]), add_tupT (by show 5 + 2 ≤ lim; omega), by show 2 ≤ lim; omega, .list ((lateR ++ [[0, 0, 0, 0, 0, 0, 1], [0, 0, 0, 0, 0, 1, 1]]).map tupI), ?_, ?_⟩
    · have e2 : (lateR ++ [[0, 0, 0, 0, 0, 0, 1], [0, 0, 0, 0, 0, 1, 1]]).map tupI = lateR.map tupI ++ [.tuple (intsD [0, 0, 0, 0, 0, 0, 1]), .tuple (intsD [0, 0, 0, 0, 0, 1, 1])] := by
        rw [List.map_append]
        rfl
      rw [e2]
      exact add_lst (by show 5 + 2 ≤ lim; omega)
    · exact q
theorem map_true (M : List Row) : M.map tupI = (M.map fun r => ((true, r) : Rb)).map rowB := by
  rw [List.map_map]
  rfl
theorem h16_8_ok (q : e.nx [some (.own (.list (intsD [1, 5, -1, 3, -30, 0, 1, -1, -5040, -1]))), some (.v (.list (wideR.map tupI))), some (.v (.list ((lateR ++ [[0, 0, 0, 0, 0, 0, 1], [0, 0, 0, 0, 0, 1, 1]]).map tupI))), t3, t4, t5] n) :
    h16_8 [some (.own (.list (intsD [1, 5, -1, 3, -30, 0, 1, -1]))), some (.own (.list (wideR.map tupI))), some (.v (.list ((lateR ++ [[0, 0, 0, 0, 0, 0, 1], [0, 0, 0, 0, 0, 1, 1]]).map tupI))), t3, t4, t5] n e := by
  refine ⟨_, ⟨_, _, rfl, rfl, rfl⟩, .tuple (wideR.map tupI), dq9, 4, rfl, by rw [map_true]; rfl, DQ9.sq, DQ9.len, by decide, DQ9.bd, DQ9.size, ?_⟩
  rw [DQ9.val]
  refine ⟨.list ((lateR ++ [[0, 0, 0, 0, 0, 0, 1], [0, 0, 0, 0, 0, 1, 1]]).map tupI), dq10, 4, rfl, by rw [map_true]; rfl, DQ10.sq, DQ10.len, by decide, DQ10.bd, DQ10.size, ?_⟩
  rw [DQ10.val]
  exact ⟨by show 2 ≤ lim; decide, _, _, rfl, rfl, by show 8 + 2 ≤ lim; decide, by show 0 < 6; decide, q⟩
theorem h16_9_ok (q : e.nx [some (.own (.list (intsD [1, 5, -1, 3, -30, 0, 1, -1, -5040, -1, 1, 1, 120, 15511210043330985984000000, 1]))), t1, t2, t3, t4, t5] n) :
    h16_9 [some (.own (.list (intsD [1, 5, -1, 3, -30, 0, 1, -1, -5040, -1]))), t1, t2, t3, t4, t5] n e := by
  refine ⟨0, rfl, by decide, 1, rfl, by decide, rfl, 5, rfl, by decide, 25, rfl, by decide, by show 0 ≤ lim; decide, .tuple [], [], rfl, rfl, by decide, ?_⟩
  rw [show fac 0 = 1 by decide, show fac 1 = 1 by decide, show fac 5 = 120 by decide +kernel, show fac 25 = 15511210043330985984000000 by decide +kernel, show arrF [] = 1 from rfl]
  exact ⟨by show 5 ≤ lim; decide, _, _, rfl, rfl, by show 10 + 5 ≤ lim; decide, by show 0 < 6; decide, q⟩
theorem h16_10_ok (q : e.nx [some (.own (.list (intsD [1, 5, -1, 3, -30, 0, 1, -1, -5040, -1, 1, 1, 120, 15511210043330985984000000, 1, 1, 3, 184756]))), t1, t2, t3, t4, t5] n) :
    h16_10 [some (.own (.list (intsD [1, 5, -1, 3, -30, 0, 1, -1, -5040, -1, 1, 1, 120, 15511210043330985984000000, 1]))), t1, t2, t3, t4, t5] n e := by
  refine ⟨by show 1 ≤ lim; decide, .tuple [.int 0], [0], rfl, rfl, by decide, by show 2 ≤ lim; decide, rfl, .list [.int 2, .int 1], [2, 1], rfl, rfl, by decide, by show 2 ≤ lim; decide, .tuple [.int 10, .int 10], [10, 10], rfl, rfl, by decide, ?_⟩
  rw [show arrF [0] = 1 by decide +kernel, show arrF [2, 1] = 3 by decide +kernel, show arrF [10, 10] = 184756 by decide +kernel]
  exact ⟨by show 3 ≤ lim; decide, _, _, rfl, rfl, by show 15 + 3 ≤ lim; decide, by show 0 < 6; decide, q⟩
theorem h16_11_ok (q : e.nx [some (.own (.list (intsD [1, 5, -1, 3, -30, 0, 1, -1, -5040, -1, 1, 1, 120, 15511210043330985984000000, 1, 1, 3, 184756, 1, 118264581564861424]))), t1, t2, t3, t4, t5] n) :
    h16_11 [some (.own (.list (intsD [1, 5, -1, 3, -30, 0, 1, -1, -5040, -1, 1, 1, 120, 15511210043330985984000000, 1, 1, 3, 184756]))), t1, t2, t3, t4, t5] n e := by
  refine ⟨by show 3 ≤ lim; decide, .tuple [.int 0, .int 3, .int 0], [0, 3, 0], rfl, rfl, by decide, by show 2 ≤ lim; decide, .tuple [.int 30, .int 30], [30, 30], rfl, rfl, by decide, ?_⟩
  rw [show arrF [0, 3, 0] = 1 by decide +kernel, show arrF [30, 30] = 118264581564861424 by decide +kernel]
  exact ⟨by show 2 ≤ lim; decide, _, _, rfl, rfl, by show 18 + 2 ≤ lim; decide, by show 0 < 6; decide, q⟩
theorem himp_by_hand16 (ds : List D) (n : Nat) (k : D → Nat → Prop) (ke : Xv → Nat → Prop) (h : sdByHand39 ds n k ke) (he : e.rt = k) : cs_by_hand16 (startE n_by_hand16 ds) n e := by
  obtain ⟨rfl, q⟩ := h
  subst he
  refine h16_1_ok (t0 := none) (t1 := none) (t2 := none) (t3 := none) (t4 := none) (t5 := none) ?_
  refine h16_2_ok ?_
  refine h16_3_ok ?_
  refine h16_4_ok ?_
  refine h16_5_ok ?_
  refine h16_6_ok ?_
  refine h16_7_ok ?_
  refine h16_8_ok ?_
  refine h16_9_ok ?_
  refine h16_10_ok ?_
  refine h16_11_ok ?_
  refine ⟨1, rfl, 30, rfl, 1, rfl, 5040, rfl, 1, rfl, by show 16 ≤ lim; decide, ?_⟩
  refine ⟨by show 4 ≤ lim; decide, .list (intsD [1, 5, -1, 3, -30, 0, 1, -1, -5040, -1, 1, 1, 120, 15511210043330985984000000, 1, 1, 3, 184756, 1, 118264581564861424]), add_lst (by show 16 + 4 ≤ lim; decide), ?_⟩
  exact ⟨_, rfl, okS_ints (is := [1, 5, -1, 3, -30, 0, 1, -1, -5040, -1, 1, 1, 120, 15511210043330985984000000, 1, 1, 3, 184756, 1, 118264581564861424]) (by show 20 ≤ 1000; decide), q⟩
end
end RM
namespace RM
open PySem PySem.Spec PyProof.Rows L2 CS RZ
/-! ### k16: no promise without fuel -/
section
variable {P : Program} {w : World} {K : PySem.W.Frag} {mg : Str → Option Value} {base : Heap} {g : Glob}
theorem no_ok {f : Addr} {fd : FuncData} {ps : List Str} {sd : SpD} (h : ∀ ds n k ke, ¬ sd ds n k ke) : FnOk P w K mg base CX0 0 f fd ps (spD g sd) := by
  have no : ∀ vs H Q E, ¬ spD g sd vs H Q E := fun vs H Q E x => by
    obtain ⟨C, ds, n, k, ke, _, _, _, _, x, _⟩ := x
    exact h _ _ _ _ x
  exact ⟨fun vs H Q E x => absurd x (no vs H Q E), fun A outer s H args us vs Q E _ _ _ _ x => absurd x (no vs H Q E)⟩
theorem mixed_none {f : Addr} {fd : FuncData} : FnOk P w K mg base CX0 0 f fd ["_law_box_here", "_law_matter"] (spD g (sdMixed 0)) := no_ok fun ds n k ke ⟨x, _, ok, _⟩ => ok
theorem ldet_none {f : Addr} {fd : FuncData} : FnOk P w K mg base CX0 0 f fd ["_law_rows_so"] (spD g (sdLdet 0)) := no_ok fun ds n k ke ⟨M, B, _, h, _⟩ => Nat.not_lt_zero _ h
theorem strung_none {f : Addr} {fd : FuncData} : FnOk P w K mg base CX0 0 f fd ["_law_some"] (spD g (sdStrung 0)) := no_ok fun ds n k ke ⟨M, _, h, _⟩ => Nat.not_lt_zero _ h
end
end RM
namespace RM
open PySem PySem.Spec PyProof.Rows L2 CS RZ
/-! ### enumerate of a tuple -/
abbrev oTi (l : Addr) : Obj := { cls := .type "tuple_iterator", data := .fields #[.ref l, .int 0 0] }
abbrev oEn (it : Addr) : Obj := { cls := .type "enumerate", data := .fields #[.none, .bool false, .ref it, rawInt 0, .none, .none] }
theorem meets_enum_tup (l : Addr) (its : Array Value) :
    Meets (Builtin.«enumerate.__new__» ⟨[.type "enumerate", .ref l], []⟩) (fun _ R s => s.heap.IsTuple l its ∧
      R (.ok (.ret (.ref (s.heap.push (oTi l)).objs.size))) { s with heap := (s.heap.push (oTi l)).push (oEn s.heap.objs.size) }) :=
  .of_wp fun prog w A R s h => by
    obtain ⟨hp, g, d, tk, os⟩ := s
    obtain ⟨hl, h⟩ := h
    have hsub := sub_enumerate
    have hL : Heap.IsTuple (Shared.heap ⟨hp, g, d, tk, os⟩) l its := hl
    wp_walk
    refine wpAny_stack_any fun st => wpAny_pure ?_
    split
    · rename_i c _ _ _ _ _
      cases c == Value.type "enumerate" <;> (wp_walk using wpAny_pyIter_tuple hL; exact ⟨_, rfl, h⟩)
    · wp_walk using wpAny_pyIter_tuple hL
      exact ⟨_, rfl, h⟩
section
variable {prog : Program} {w : World} {A : Around} {E : Value → Shared → Prop} {s : Shared} {l : Addr} {its : Array Value} {Q : Value → Shared → Prop}
theorem call_enum_tup (hl : s.heap.IsTuple l its)
    (h : ∀ h', IsEnum h' (s.heap.objs.size + 1) s.heap.objs.size 0 .none → h'.IsTupleIter s.heap.objs.size l 0 → h'.objs.size = s.heap.objs.size + 2 →
      (∀ b o, s.heap.get? b = some o → h'.get? b = some o) → Q (.ref (s.heap.objs.size + 1)) { s with heap := h' }) :
    wpAny (model prog w) A (call (.type "enumerate") [.ref l]) Q E s := by
  refine callType_new F.called_enumerate (by decide) (F.typeCall_enumerate_1 _) (F.newCall_enumerate_1 _) (fun obj => F.args_object_init_2 obj _) F.entry_enumerate_new (meets_enum_tup l its) ⟨hl, ?_⟩
  have hz : (s.heap.push (oTi l)).objs.size = s.heap.objs.size + 1 := Heap.size_push ..
  have he := Heap.get?_push_size (s.heap.push (oTi l)) (o := oEn s.heap.objs.size) rfl
  show _ ∧ _
  rw [hz] at he ⊢
  exact ⟨⟨_, he, rfl⟩, h _ he ⟨_, Heap.get?_push_of_some _ (Heap.get?_push_size _ rfl), rfl, rfl⟩ (by rw [Heap.size_push, hz]) fun b o x => Heap.get?_push_of_some _ (Heap.get?_push_of_some _ x)⟩
end
def ItE (K : PySem.W.Frag) (a : Addr) : It :=
  ⟨fun i H => ∃ (xs : List V) (x : V), SqT K H a xs ∧ xs[i]? = some x,
    fun i H v H' => ∃ T x, v = .ref T ∧ H T = none ∧ H' = upd H T (.tup [.int (i : Nat), x]) ∧ ∀ xs, SqT K H a xs → xs[i]? = some x,
    fun i H => ∃ xs : List V, SqT K H a xs ∧ i = xs.length⟩
def EnAt (e it a : Addr) (i : Nat) (h : Heap) : Prop := (∃ old, IsEnum h e it (i : Nat) old) ∧ h.IsTupleIter it a i
theorem turn_enumT {P : Program} {w : World} {K : PySem.W.Frag} {elts : List Expr} {kk : Nat} {tpos : Pos} {a e it : Addr} (h1 : e ≠ it) (h2 : a ≠ e) (h3 : a ≠ it) : Turn P w K (.Tuple elts kk tpos) (ItE K a) [e, it] e (EnAt e it a) := by
  have two : ∀ {c : Addr}, c ∈ [e, it] ↔ (c = e ∨ c = it) := fun {c} => by simp
  have there : ∀ i h, EnAt e it a i h → ∀ c ∈ [e, it], ∃ o, h.get? c = some o ∧ ∀ v, o.data ≠ .cell v := by
    rintro i h ⟨⟨old, g1⟩, o2, g2, _, d2⟩ c hc
    have no : ∀ {o : Obj} {f : Array Value}, o.data = .fields f → ∀ v, o.data ≠ .cell v := fun e v q => by
      rw [q] at e
      cases e
    rcases two.mp hc with rfl | rfl
    · exact ⟨_, g1, no rfl⟩
    · exact ⟨o2, g2, no d2⟩
  refine ⟨two.mpr (.inl rfl), there, fun i h h' st k => ⟨⟨st.1.choose, k e (two.mpr (.inl rfl)) _ st.1.choose_spec⟩, st.2.at fun o g => k it (two.mpr (.inr rfl)) o g⟩, ?_, ?_, fun A i s Q E st q => ?_⟩
  · intro X eP ew eK calm i pins s σ H E I own st go
    subst eP ew eK
    obtain ⟨xs, x, lx, ix⟩ := go
    obtain ⟨its, vals, pl, _⟩ := I.tuple lx
    have pl2 : s.heap.IsTuple a its.toArray := pl
    obtain ⟨u1, hu1, ru1⟩ := vals.get ix
    have l1 : i < its.toArray.size := by
      have h1 := (List.getElem?_eq_some_iff.mp hu1).1
      simpa using h1
    have W := WalksT.enumerateD (Draws.tuple (prog := X.prog) (w := X.w) (show X.A.in1.handled = none from I.ok.hd calm) it a h3 its.toArray) e h1 (by simp; exact ⟨h1, h2.symm⟩) (List.mem_cons_self ..)
    refine W.item i s _ E l1 ⟨st.1, st.2, pl2⟩ fun T us h1' tk pt nT tup mid k1 => ⟨_, rfl, ?_⟩
    obtain ⟨t, v1, hv, rfl⟩ := pt
    have e1 : v1 = u1 := by
      have hv : its.toArray[i]? = some v1 := hv
      rw [List.getElem?_toArray, hu1] at hv
      exact (Option.some.inj hv).symm
    subst e1
    refine W.go elts kk tpos i T { s with heap := h1', toks := tk } _ E mid fun h3' st3 k2 => ?_
    have nw : T ∉ [e, it] := W.apart i T h1' mid
    have tup3 : h3'.IsTuple T #[.int i t, v1] := by
      obtain ⟨o, g1, g2⟩ := tup
      exact ⟨o, k2 T o nw g1, g2⟩
    have J := I.turnedNew (t' := tk) (ob := .tup [.int (i : Nat), x]) (fun c o na g => k2 c o na (k1 c o na g)) own nT ⟨by show 2 ≤ sizeLine; decide, _, .cons ⟨t, rfl⟩ (.cons ru1 .nil), tup3⟩
    refine ⟨.ref T, _, J, rfl, ⟨T, x, rfl, I.hok.fresh nT, rfl, fun l hl => by rw [I.tuple_inj hl lx]; exact ix⟩, ⟨st3.1, st3.2.1⟩, fun c hc => ?_⟩
    obtain ⟨o, g, _⟩ := there i s.heap st c hc
    rw [upd_ne (Nat.ne_of_lt (Nat.lt_of_lt_of_le (Heap.lt_size g) nT))]
    exact (own c hc).1
  · intro X eP ew eK calm i pins s σ H E I own st stop
    subst eP ew eK
    obtain ⟨xs, lx, rfl⟩ := stop
    obtain ⟨its, vals, pl, _⟩ := I.tuple lx
    have pl2 : s.heap.IsTuple a its.toArray := pl
    have W := WalksT.enumerateD (Draws.tuple (prog := X.prog) (w := X.w) (show X.A.in1.handled = none from I.ok.hd calm) it a h3 its.toArray) e h1 (by simp; exact ⟨h1, h2.symm⟩) (List.mem_cons_self ..)
    have ei : xs.length = its.toArray.size := by
      have := vals.length
      simp only [List.size_toArray]
      omega
    refine W.done s _ E (ei ▸ ⟨st.1, st.2, pl2⟩) fun h1' tk k1 => ⟨rfl, ?_⟩
    exact I.turnedL (t' := tk) (fun c o na g => k1 c o na g) own
  · obtain ⟨old, g1⟩ := st.1
    exact wpAny_pyIter_enum g1 q
end RM
namespace RM
open PySem PySem.Spec PyProof.Rows L2 CS RZ
def iEnumT (K : PySem.W.Frag) (ta : TA) : TI := fun σ H R => ta σ H fun vs H1 => ∃ a xs, vs = [.ref a] ∧ SqT K H1 a xs ∧ R (ItE K a) H1
theorem pi_enumT {X : Cx} {e : Expr} {ta : TA} {p pos tpos : Pos} {elts : List Expr} {kk : Nat} (hg : Gl X "enumerate") (hm : X.mg "enumerate" = none) (ha : PA X [e] ta) (hs : starEach [e] X.env = [(false, eval e X.env)] := by rfl) :
    PI X (.Tuple elts kk tpos) (.Call (.Name "enumerate" p) [e] [] pos) (iEnumT X.K ta) := by
  constructor
  intro pins s σ H R I h
  refine Call_ ?_
  refine ld_blt I hg hm boot_enumerate ?_
  refine PyProof.Rows.callWith_type1 ?_ hs rfl
  refine thn (ha.run pos pins s σ H _ I h) fun us s1 told => ?_
  obtain ⟨vs, H1, J, rel, a, xs, rfl, lx, q⟩ := told
  match us, rel with
  | [_], .cons rfl .nil =>
    obtain ⟨its, vals, pl, _⟩ := J.tuple lx
    have pl2 : s1.heap.IsTuple a its.toArray := pl
    obtain ⟨o0, g0, _⟩ := id pl2
    have lt := Heap.lt_size g0
    refine call_enum_tup pl2 fun h3 g1 g2 sz k => wpAny_pyIter_enum g1 ?_
    refine ⟨_, [s1.heap.objs.size + 1, s1.heap.objs.size], _, _, H1, rfl, J.kept (t' := s1.toks) k, turn_enumT (Nat.succ_ne_self _) (Nat.ne_of_lt (Nat.lt_succ_of_lt lt)) (Nat.ne_of_lt lt), ⟨⟨_, g1⟩, g2⟩, fun c hc => ?_, q⟩
    have le : s1.heap.objs.size ≤ c := by
      simp only [List.mem_cons, List.not_mem_nil, or_false] at hc
      rcases hc with rfl | rfl
      all_goals first | exact Nat.le_refl _ | exact Nat.le_add_right _ _
    exact J.fpOk le (J.hok.fresh le)
theorem walk_enumT {K : PySem.W.Frag} {a : Addr} {xs : List V} : Walk (ItE K a) xs.length (fun H => SqT K H a xs) (YPair (fun i => some (.int (i : Nat))) fun i => xs[i]?) where
  goes i H hi h := ⟨xs, xs[i], h, List.getElem?_eq_getElem hi⟩
  stops H h := ⟨xs, h, rfl⟩
  yields i H v H' hi h y := by
    obtain ⟨T, x, e1, e2, e3, e4⟩ := y
    exact ⟨T, _, x, e1, e2, e3, rfl, e4 xs h⟩
section
variable {X : Cx} {g : Glob} {xk : WX} {pos p : Pos} {e : Expr} {ta : CA}
theorem pdi_enumT {tpos : Pos} {elts : List Expr} {kk : Nat} (G : Good X g) (hg : Gl X "enumerate") (hm : X.mg "enumerate" = none) (ha : PDA X g xk [e] ta) (hs : starEach [e] X.env = [(false, eval e X.env)] := by rfl) : PDI X g xk (.Tuple elts kk tpos) (.Call (.Name "enumerate" p) [e] [] pos) (cEnumT ta) := by
  refine ⟨pi_imp (pi_enumT hg hm ha.pa hs) fun σ H R r => ?_⟩
  obtain ⟨C, ρ, n, O, k, ke, hK, E, t, x, q⟩ := r
  refine ⟨C, ρ, n, O, _, ke, hK, E, t, x, fun ds ρ1 n1 vs H1 O1 k1 E1 S1 i1 => ?_⟩
  obtain ⟨xs, rfl, k1⟩ := k1
  have eK := hK.1.trans G.K
  obtain ⟨v, rfl, iv⟩ := i1.one
  obtain ⟨a, us, rfl, ha, ra⟩ := iv.tup'
  exact ⟨a, us, rfl, eK ▸ sqt_same hid_le ha, q _ _ _ _ _ _ k1 E1 S1 (enum_wd walk_enumT (fun H s => eK ▸ sqt_same s ha) ra)⟩
end
end RM
set_option maxHeartbeats 8000000
namespace K16
open PySem PySem.Spec PyProof.Rows L2 CS RM
def mem (i j : Nat) : Stmt := (clsBody (top i)).getD j (.Pass ⟨0, 0, 0, 0⟩)
section
variable {P : Program} {w : World} {K : PySem.W.Frag} {mg : Str → Option Value} {base : Heap} {g : Glob} {m : Nat}
abbrev n_law_of : List Str := ["_law_box_here", "_law_some"]
theorem sc_law_of : FnScope n_law_of ["_law_box_here", "_law_some"] (defScope (top 9)) := ⟨rfl, rfl, rfl, by decide +kernel, rfl, by decide +kernel, by decide +kernel⟩
theorem ok_law_of {f : Addr} {fd : FuncData} {k : Nat} (F : Fun K "_law_of" "_law_of" (top 9) f fd) (B : Bl mg) (hK : g.K = K) (h_law_take : HasF P w K mg base CX0 g k "_law_take" ["_law_box_here", "_law_below"] sdTake) : FnOk P w K mg base CX0 (k + 1) f fd ["_law_box_here", "_law_some"] (spD g sdOf) :=
  fnD (cs := cs_of) F sc_law_of (fun ds _ _ _ h => by obtain ⟨_, _, rfl, _⟩ := h; rfl) (fun cdv A outer s H E hr => pdss_one (pds_ret (pd_ix ix_at ⟨hK⟩ (pd_var 1) (pd_fun h_law_take hr (Nat.le_refl _) rfl (fun _ => pa0) (pda_cons (pd_var 0) (pda_cons (pd_callB cd_len ⟨hK⟩ rfl B.len (by decide +kernel) (pda_cons (pd_var 1) (pda_nil))) (pda_nil)))) (fun _ _ => rfl)))) (fun ds n k ke h => himp_of ds n k ke h rfl)
abbrev n_arrangements : List Str := ["numbers", "number", "ways", "length"]
theorem sc_arrangements : FnScope n_arrangements ["numbers"] (defScope (top 3)) := ⟨rfl, rfl, rfl, by decide +kernel, rfl, by decide +kernel, by decide +kernel⟩
theorem ok_arrangements {f : Addr} {fd : FuncData} {k : Nat} (F : Fun K "arrangements" "arrangements" (top 3) f fd) (B : Bl mg) (hK : g.K = K) (mB_comb : mg "comb" = some (.builtin "math.comb")) : FnOk P w K mg base CX0 (k + 1) f fd ["numbers"] (spD g sdArr) :=
  fnD (cs := cs_arrangements) F sc_arrangements (fun ds _ _ _ h => by obtain ⟨_, _, rfl, _⟩ := h; rfl) (fun cdv A outer s H E hr => pdss_cons (pds_asg (pd_tup (pda_cons (pd_int) (pda_cons (pd_int) (pda_nil)))) (pdg_tup rfl ⟨hK⟩ (pdgs_cons (pdg_name (i := 2) sc_arrangements.nd rfl (by first | exact Or.inl rfl | exact Or.inr rfl)) (pdgs_cons (pdg_name (i := 3) sc_arrangements.nd rfl (by first | exact Or.inl rfl | exact Or.inr rfl)) (pdgs_nil))) (stCons_len (stCons_len stNil_len)))) (pdss_cons (pds_for PassesOwn.never rfl (pdi_seq ⟨hK⟩ (pd_var 0)) (pdg_name (i := 1) sc_arrangements.nd rfl (by first | exact Or.inl rfl | exact Or.inr rfl)) (pdss_cons (pds_set (i := 3) sc_arrangements.nd rfl (by first | exact Or.inl rfl | exact Or.inr rfl) (pd_op od_add ⟨hK⟩ (pd_var 3) (pd_var 1))) (pdss_one (pds_set (i := 2) sc_arrangements.nd rfl (by first | exact Or.inl rfl | exact Or.inr rfl) (pd_op od_mulW ⟨hK⟩ (pd_var 2) (pd_callM cd_comb ⟨hK⟩ (by rfl) mB_comb (pda_cons (pd_var 3) (pda_cons (pd_var 1) (pda_nil))))))))) (pdss_one (pds_ret (pd_var 2))))) (fun ds n k ke h => himp_arrangements ds n k ke h rfl)
abbrev n_determinant : List Str := ["rows", "left", "sign", "before", "fit", "head", "rest", "row", "at", "worth", "above"]
theorem sc_determinant : FnScope n_determinant ["rows"] (defScope (top 4)) := ⟨rfl, rfl, rfl, by decide +kernel, rfl, by decide +kernel, by decide +kernel⟩
theorem ok_determinant {f : Addr} {fd : FuncData} {k : Nat} (F : Fun K "determinant" "determinant" (top 4) f fd) (B : Bl mg) (hK : g.K = K)  : FnOk P w K mg base CX0 (k + 1) f fd ["rows"] (spD g sdDetM) :=
  fnD (cs := cs_determinantM) F sc_determinant (fun ds _ _ _ h => by obtain ⟨_, _, _, rfl, _⟩ := h; rfl) (fun cdv A outer s H E hr => pdss_cons (pds_asg (pd_tup (pda_cons (PDF.pd (pf_callTy (cf_list' rfl) ⟨hK⟩ rfl B.list (by decide +kernel) (pda_cons (pd_var 0) (pda_nil)))) (pda_cons (pd_int) (pda_cons (pd_int) (pda_nil))))) (pdg_tup rfl ⟨hK⟩ (pdgs_cons (pdg_name (i := 1) sc_determinant.nd rfl (by first | exact Or.inl rfl | exact Or.inr rfl)) (pdgs_cons (pdg_name (i := 2) sc_determinant.nd rfl (by first | exact Or.inl rfl | exact Or.inr rfl)) (pdgs_cons (pdg_name (i := 3) sc_determinant.nd rfl (by first | exact Or.inl rfl | exact Or.inr rfl)) (pdgs_nil)))) (stCons_len (stCons_len (stCons_len stNil_len))))) (pdss_cons (pds_while PassesOwn.never (pdt_cmp od_gt ⟨hK⟩ (pd_callB cd_len ⟨hK⟩ rfl B.len (by decide +kernel) (pda_cons (pd_var 1) (pda_nil))) (pd_int) (by first | exact nomark _ | rfl)) (pdss_cons (pds_ownLc (i := 4) (own := [("at", 8), ("row", 7)]) rfl sc_determinant.nd rfl rfl (pdi_enum ⟨hK⟩ rfl B.enumerate (pda_cons (pd_var 1) (pda_nil))) (blkOk_by (own := [("at", 8), ("row", 7)]) (N := n_determinant) (sc := defScope (top 4)) (by decide +kernel)) (fun _ _ _ _ _ => pdg_tup rfl ⟨hK⟩ (pdgs_cons (pdg_name (i := 8) sc_determinant.nd rfl (by first | exact Or.inl rfl | exact Or.inr rfl)) (pdgs_cons (pdg_name (i := 7) sc_determinant.nd rfl (by first | exact Or.inl rfl | exact Or.inr rfl)) (pdgs_nil))) (stCons_len (stCons_len stNil_len))) (fun _ _ _ _ _ => pdts_one (pdt_cmp (od_ne (hu64 hr)) ⟨hK⟩ (pd_ix ix_at ⟨hK⟩ (pd_var 7) (pd_int) (fun _ _ => rfl)) (pd_int) (by first | exact nomark _ | rfl))) (fun _ _ _ _ _ => pd_var 8)) (pdss_cons (pds_if (pdt_not (pdt_tru ⟨hK⟩ (pdq_nm 4))) (pdss_one (pds_ret (pd_int))) (pdss_nil)) (pdss_cons (pds_asg (pd_tup (pda_cons (pd_ix ix_at ⟨hK⟩ (pd_var 1) (pd_ix ix_at ⟨hK⟩ (pd_var 4) (pd_int) (fun _ _ => rfl)) (fun _ _ => rfl)) (pda_cons (pd_op od_add ⟨hK⟩ (pd_slice ⟨hK⟩ (pd_var 1) (pdo_none) (pdo_some (pd_ix ix_at ⟨hK⟩ (pd_var 4) (pd_int) (fun _ _ => rfl)))) (pd_slice ⟨hK⟩ (pd_var 1) (pdo_some (pd_op od_add ⟨hK⟩ (pd_ix ix_at ⟨hK⟩ (pd_var 4) (pd_int) (fun _ _ => rfl)) (pd_int))) (pdo_none))) (pda_nil)))) (pdg_tup rfl ⟨hK⟩ (pdgs_cons (pdg_name (i := 5) sc_determinant.nd rfl (by first | exact Or.inl rfl | exact Or.inr rfl)) (pdgs_cons (pdg_name (i := 6) sc_determinant.nd rfl (by first | exact Or.inl rfl | exact Or.inr rfl)) (pdgs_nil))) (stCons_len (stCons_len stNil_len)))) (pdss_cons (pds_set (i := 2) sc_determinant.nd rfl (by first | exact Or.inl rfl | exact Or.inr rfl) (pd_if (pdt_cmp (od_eq (hu64 hr)) ⟨hK⟩ (pd_op od_odd ⟨hK⟩ (pd_ix ix_at ⟨hK⟩ (pd_var 4) (pd_int) (fun _ _ => rfl)) (pd_int)) (pd_int) (by first | exact nomark _ | rfl)) (pd_var 2) (pd_neg (pd_var 2)))) (pdss_cons (pds_ownLc (i := 1) (own := [("row", 7)]) rfl sc_determinant.nd rfl rfl (pdi_seq ⟨hK⟩ (pd_var 6)) (blkOk_by (own := [("row", 7)]) (N := n_determinant) (sc := defScope (top 4)) (by decide +kernel)) (fun _ _ _ _ _ => pdg_name (i := 7) sc_determinant.nd rfl (by first | exact Or.inl rfl | exact Or.inr rfl)) (fun _ _ _ _ _ => pdts_nil) (fun _ _ _ _ _ => PDF.pd (pf_lc (own := [("worth", 9), ("above", 10)]) rfl sc_determinant.nd (pdi_zipM ⟨hK⟩ rfl B.zip (pda_cons (pd_slice ⟨hK⟩ (pd_var 7) (pdo_some (pd_int)) (pdo_none)) (pda_cons (pd_slice ⟨hK⟩ (pd_var 5) (pdo_some (pd_int)) (pdo_none)) (pda_nil)))) (blkOk_by (own := [("worth", 9), ("above", 10)]) (N := n_determinant) (sc := { kind := ScopeKind.function, names := [(".0", NameKind.local), ("row", NameKind.cell), ("zip", NameKind.globalImplicit), ("before", NameKind.cell), ("head", NameKind.cell)], isGenerator := false, isCoroutine := false }) (by decide +kernel)) (fun _ _ _ _ _ => pdg_tup rfl ⟨hK⟩ (pdgs_cons (pdg_name (i := 9) sc_determinant.nd rfl (by first | exact Or.inl rfl | exact Or.inr rfl)) (pdgs_cons (pdg_name (i := 10) sc_determinant.nd rfl (by first | exact Or.inl rfl | exact Or.inr rfl)) (pdgs_nil))) (stCons_len (stCons_len stNil_len))) (fun _ _ _ _ _ => pdts_nil) (fun _ _ _ _ _ => pd_op od_fdvW ⟨hK⟩ (pd_op od_sub ⟨hK⟩ (pd_op od_mulW ⟨hK⟩ (pd_ix ix_at ⟨hK⟩ (pd_var 5) (pd_int) (fun _ _ => rfl)) (pd_var 9)) (pd_op od_mulW ⟨hK⟩ (pd_ix ix_at ⟨hK⟩ (pd_var 7) (pd_int) (fun _ _ => rfl)) (pd_var 10))) (pd_var 3))))) (pdss_one (pds_set (i := 3) sc_determinant.nd rfl (by first | exact Or.inl rfl | exact Or.inr rfl) (pd_ix ix_at ⟨hK⟩ (pd_var 5) (pd_int) (fun _ _ => rfl)))))))))) (pdss_one (pds_ret (pd_if (pdt_tru ⟨hK⟩ (pdq_nm 1)) (pd_op od_mulW ⟨hK⟩ (pd_var 2) (pd_ix ix_at ⟨hK⟩ (pd_ix ix_at ⟨hK⟩ (pd_var 1) (pd_int) (fun _ _ => rfl)) (pd_int) (fun _ _ => rfl))) (pd_int)))))) (fun ds n k ke h => himp_determinantM ds n k ke h rfl)
abbrev n_factorial : List Str := ["many"]
theorem sc_factorial : FnScope n_factorial ["many"] (defScope (top 2)) := ⟨rfl, rfl, rfl, by decide +kernel, rfl, by decide +kernel, by decide +kernel⟩
theorem ok_factorial {f : Addr} {fd : FuncData} {k : Nat} (F : Fun K "factorial" "factorial" (top 2) f fd) (B : Bl mg) (hK : g.K = K) (mB_perm : mg "perm" = some (.builtin "math.perm")) : FnOk P w K mg base CX0 (k + 1) f fd ["many"] (spD g sdFactorial) :=
  fnD (cs := cs_factorial) F sc_factorial (fun ds _ _ _ h => by obtain ⟨_, rfl, _⟩ := h; rfl) (fun cdv A outer s H E hr => pdss_one (pds_ret (pd_callM cd_perm ⟨hK⟩ (by rfl) mB_perm (pda_cons (pd_var 0) (pda_cons (pd_var 0) (pda_nil)))))) (fun ds n k ke h => himp_factorial ds n k ke h rfl)
abbrev n_law_mixed : List Str := ["_law_box_here", "_law_matter", "_law_bits", "_law_bit"]
theorem sc_law_mixed : FnScope n_law_mixed ["_law_box_here", "_law_matter"] (defScope (top 10)) := ⟨rfl, rfl, rfl, by decide +kernel, rfl, by decide +kernel, by decide +kernel⟩
theorem ok_law_mixed {f : Addr} {fd : FuncData} {k : Nat} (F : Fun K "_law_mixed" "_law_mixed" (top 10) f fd) (B : Bl mg) (hK : g.K = K) (h_law_mixed : HasF P w K mg base CX0 g k "_law_mixed" ["_law_box_here", "_law_matter"] (sdMixed m)) (h_law_take : HasF P w K mg base CX0 g k "_law_take" ["_law_box_here", "_law_below"] sdTake) : FnOk P w K mg base CX0 (k + 1) f fd ["_law_box_here", "_law_matter"] (spD g (sdMixed (m + 1))) :=
  fnD (cs := (cs_mixed m)) F sc_law_mixed (fun ds _ _ _ h => by obtain ⟨_, rfl, _⟩ := h; rfl) (fun cdv A outer s H E hr => pdss_cons (pds_if (pdt_not (pdt_val (pd_isK ⟨hK⟩ (by decide +kernel) (pdq_nm 1) rfl B.list (by decide +kernel) rfl B.tuple (by decide +kernel) rfl B.isinstance))) (pdss_one (pds_ret (pd_var 1))) (pdss_nil)) (pdss_cons (pds_ownLc (i := 2) (own := [("_law_bit", 3)]) rfl sc_law_mixed.nd rfl rfl (pdi_seq ⟨hK⟩ (pd_var 1)) (blkOk_by (own := [("_law_bit", 3)]) (N := n_law_mixed) (sc := defScope (top 10)) (by decide +kernel)) (fun _ _ _ _ _ => pdg_name (i := 3) sc_law_mixed.nd rfl (by first | exact Or.inl rfl | exact Or.inr rfl)) (fun _ _ _ _ _ => pdts_nil) (fun _ _ _ _ _ => pd_fun h_law_mixed hr (Nat.le_refl _) rfl (fun _ => pa0) (pda_cons (pd_var 0) (pda_cons (pd_var 3) (pda_nil))))) (pdss_one (pds_ret (pd_if (pdt_cmp (od_eq (hu64 hr)) ⟨hK⟩ (pd_fun h_law_take hr (Nat.le_refl _) rfl (fun _ => pa0) (pda_cons (pd_var 0) (pda_cons (pd_int) (pda_nil)))) (pd_int) (by first | exact nomark _ | rfl)) (pd_var 2) (pd_callTy cd_tuple ⟨hK⟩ rfl B.tuple (by decide +kernel) (pda_cons (pd_var 2) (pda_nil)))))))) (fun ds n k ke h => himp_mixed m ds n k ke h rfl)
abbrev n_law_det : List Str := ["_law_rows_so", "_law_sum_so", "_law_k", "_law_own", "_law_rest", "_law_bit"]
theorem sc_law_det : FnScope n_law_det ["_law_rows_so"] (defScope (top 12)) := ⟨rfl, rfl, rfl, by decide +kernel, rfl, by decide +kernel, by decide +kernel⟩
theorem ok_law_det {f : Addr} {fd : FuncData} {k : Nat} (F : Fun K "_law_det" "_law_det" (top 12) f fd) (B : Bl mg) (hK : g.K = K) (h_law_det : HasF P w K mg base CX0 g k "_law_det" ["_law_rows_so"] (sdLdet m)) : FnOk P w K mg base CX0 (k + 1) f fd ["_law_rows_so"] (spD g (sdLdet (m + 1))) :=
  fnD (cs := (cs_ldet m)) F sc_law_det (fun ds _ _ _ h => by obtain ⟨_, _, rfl, _⟩ := h; rfl) (fun cdv A outer s H E hr => pdss_cons (pds_if (pdt_cmp (od_eq (hu64 hr)) ⟨hK⟩ (pd_var 0) (pd_tup (pda_nil)) (by first | exact nomark _ | rfl)) (pdss_one (pds_ret (pd_int))) (pdss_nil)) (pdss_cons (pds_set (i := 1) sc_law_det.nd rfl (by first | exact Or.inl rfl | exact Or.inr rfl) (pd_int)) (pdss_cons (pds_for PassesOwn.never rfl (pdi_enumT ⟨hK⟩ rfl B.enumerate (pda_cons (pd_ix ix_at ⟨hK⟩ (pd_var 0) (pd_int) (fun _ _ => rfl)) (pda_nil))) (pdg_tup rfl ⟨hK⟩ (pdgs_cons (pdg_name (i := 2) sc_law_det.nd rfl (by first | exact Or.inl rfl | exact Or.inr rfl)) (pdgs_cons (pdg_name (i := 3) sc_law_det.nd rfl (by first | exact Or.inl rfl | exact Or.inr rfl)) (pdgs_nil))) (stCons_len (stCons_len stNil_len))) (pdss_cons (pds_set (i := 4) sc_law_det.nd rfl (by first | exact Or.inl rfl | exact Or.inr rfl) (pd_callTy cd_tuple ⟨hK⟩ rfl B.tuple (by decide +kernel) (pda_cons (PDF.pd (pf_lc (own := [("_law_bit", 5)]) rfl sc_law_det.nd (pdi_seq ⟨hK⟩ (pd_slice ⟨hK⟩ (pd_var 0) (pdo_some (pd_int)) (pdo_none))) (blkOk_by (own := [("_law_bit", 5)]) (N := n_law_det) (sc := defScope (top 12)) (by decide +kernel)) (fun _ _ _ _ _ => pdg_name (i := 5) sc_law_det.nd rfl (by first | exact Or.inl rfl | exact Or.inr rfl)) (fun _ _ _ _ _ => pdts_nil) (fun _ _ _ _ _ => pd_op od_add ⟨hK⟩ (pd_slice ⟨hK⟩ (pd_var 5) (pdo_none) (pdo_some (pd_var 2))) (pd_slice ⟨hK⟩ (pd_var 5) (pdo_some (pd_op od_add ⟨hK⟩ (pd_var 2) (pd_int))) (pdo_none))))) (pda_nil)))) (pdss_one (pds_set (i := 1) sc_law_det.nd rfl (by first | exact Or.inl rfl | exact Or.inr rfl) (pd_op od_add ⟨hK⟩ (pd_var 1) (pd_op od_mulW ⟨hK⟩ (pd_op od_mulW ⟨hK⟩ (pd_var 3) (pd_op od_sub ⟨hK⟩ (pd_int) (pd_op od_mulW ⟨hK⟩ (pd_int) (pd_op od_mod ⟨hK⟩ (pd_callTy cd_int ⟨hK⟩ rfl B.int (by decide +kernel) (pda_cons (pd_var 2) (pda_nil))) (pd_int))))) (pd_fun h_law_det hr (Nat.le_refl _) rfl (fun _ => pa0) (pda_cons (pd_var 4) (pda_nil))))))))) (pdss_one (pds_ret (pd_var 1)))))) (fun ds n k ke h => himp_ldet m ds n k ke h rfl)
abbrev n_law_strung : List Str := ["_law_some", "_law_found", "_law_k", "_law_own"]
theorem sc_law_strung : FnScope n_law_strung ["_law_some"] (defScope (top 13)) := ⟨rfl, rfl, rfl, by decide +kernel, rfl, by decide +kernel, by decide +kernel⟩
theorem ok_law_strung {f : Addr} {fd : FuncData} {k : Nat} (F : Fun K "_law_strung" "_law_strung" (top 13) f fd) (B : Bl mg) (hK : g.K = K) (h_law_strung : HasF P w K mg base CX0 g k "_law_strung" ["_law_some"] (sdStrung m)) : FnOk P w K mg base CX0 (k + 1) f fd ["_law_some"] (spD g (sdStrung (m + 1))) :=
  fnD (cs := (cs_strungM m)) F sc_law_strung (fun ds _ _ _ h => by obtain ⟨_, rfl, _⟩ := h; rfl) (fun cdv A outer s H E hr => pdss_cons (pds_if (pdt_cmp (od_eq (hu64 hr)) ⟨hK⟩ (pd_callB (cd_sumM rfl) ⟨hK⟩ rfl B.sum (by decide +kernel) (pda_cons (pd_var 0) (pda_nil))) (pd_int) (by first | exact nomark _ | rfl)) (pdss_one (pds_ret (pd_int))) (pdss_nil)) (pdss_cons (pds_set (i := 1) sc_law_strung.nd rfl (by first | exact Or.inl rfl | exact Or.inr rfl) (pd_int)) (pdss_cons (pds_for PassesOwn.never rfl (pdi_enumT ⟨hK⟩ rfl B.enumerate (pda_cons (pd_var 0) (pda_nil))) (pdg_tup rfl ⟨hK⟩ (pdgs_cons (pdg_name (i := 2) sc_law_strung.nd rfl (by first | exact Or.inl rfl | exact Or.inr rfl)) (pdgs_cons (pdg_name (i := 3) sc_law_strung.nd rfl (by first | exact Or.inl rfl | exact Or.inr rfl)) (pdgs_nil))) (stCons_len (stCons_len stNil_len))) (pdss_one (pds_if (pdt_cmp od_gt ⟨hK⟩ (pd_var 3) (pd_int) (by first | exact nomark _ | rfl)) (pdss_one (pds_set (i := 1) sc_law_strung.nd rfl (by first | exact Or.inl rfl | exact Or.inr rfl) (pd_op od_add ⟨hK⟩ (pd_var 1) (pd_fun h_law_strung hr (Nat.le_refl _) rfl (fun _ => pa0) (pda_cons (pd_op od_add ⟨hK⟩ (pd_op od_add ⟨hK⟩ (pd_slice ⟨hK⟩ (pd_var 0) (pdo_none) (pdo_some (pd_var 2))) (pd_tup (pda_cons (pd_op od_sub ⟨hK⟩ (pd_var 3) (pd_int)) (pda_nil)))) (pd_slice ⟨hK⟩ (pd_var 0) (pdo_some (pd_op od_add ⟨hK⟩ (pd_var 2) (pd_int))) (pdo_none))) (pda_nil)))))) (pdss_nil)))) (pdss_one (pds_ret (pd_var 1)))))) (fun ds n k ke h => himp_strung m ds n k ke h rfl)
abbrev n_law_square : List Str := ["_law_box_here", "_law_lap", "_law_size_so", "_law_kind_so", "_law_rows_so", "_law_pool", "_law_own", "_law_k"]
theorem sc_law_square : FnScope n_law_square ["_law_box_here"] (defScope (top 14)) := ⟨rfl, rfl, rfl, by decide +kernel, rfl, by decide +kernel, by decide +kernel⟩
theorem ok_law_square {f : Addr} {fd : FuncData} {k : Nat} (F : Fun K "_law_square" "_law_square" (top 14) f fd) (B : Bl mg) (hK : g.K = K) (h_law_take : HasF P w K mg base CX0 g k "_law_take" ["_law_box_here", "_law_below"] sdTake) (h_law_of : HasF P w K mg base CX0 g k "_law_of" ["_law_box_here", "_law_some"] sdOf) : FnOk P w K mg base CX0 (k + 1) f fd ["_law_box_here"] (spD g sdSquare) :=
  fnD (cs := cs_square) F sc_law_square (fun ds _ _ _ h => by obtain ⟨rfl, _⟩ := h; rfl) (fun cdv A outer s H E hr => pdss_cons (pds_par3L (i := 2) (j := 3) (k := 4) rfl sc_law_square.nd rfl rfl rfl (by decide) (by decide) (by decide) rfl rfl rfl (pd_fun h_law_take hr (Nat.le_refl _) rfl (fun _ => pa0) (pda_cons (pd_var 0) (pda_cons (pd_int) (pda_nil)))) (pd_fun h_law_take hr (Nat.le_refl _) rfl (fun _ => pa0) (pda_cons (pd_var 0) (pda_cons (pd_int) (pda_nil))))) (pdss_cons (pds_for PassesOwn.never rfl (pdi_range1 rfl B.range (pda_cons (pd_var 2) (pda_nil))) (pdg_name (i := 1) sc_law_square.nd rfl (by first | exact Or.inl rfl | exact Or.inr rfl)) (pdss_cons (pds_set (i := 5) sc_law_square.nd rfl (by first | exact Or.inl rfl | exact Or.inr rfl) (PDF.pd (pf_lst (pda_cons (pd_int) (pda_cons (pd_int) (pda_cons (pd_int) (pda_cons (pd_int) (pda_cons (pd_neg (pd_int)) (pda_cons (pd_neg (pd_int)) (pda_nil)))))))))) (pdss_cons (pds_if (pdt_cmp (od_eq (hu64 hr)) ⟨hK⟩ (pd_var 3) (pd_int) (by first | exact nomark _ | rfl)) (pdss_one (pds_set (i := 5) sc_law_square.nd rfl (by first | exact Or.inl rfl | exact Or.inr rfl) (PDF.pd (pf_lst (pda_cons (pd_int) (pda_cons (pd_op od_add ⟨hK⟩ (pd_op od_pow ⟨hK⟩ (pd_int) (pd_int)) (pd_int)) (pda_cons (pd_neg (pd_op od_pow ⟨hK⟩ (pd_int) (pd_int))) (pda_cons (pd_int) (pda_cons (pd_int) (pda_cons (pd_neg (pd_op od_pow ⟨hK⟩ (pd_int) (pd_int))) (pda_nil))))))))))) (pdss_nil)) (pdss_one (pds_expr (pd_append 4 (pd_callTy cd_tuple ⟨hK⟩ rfl B.tuple (by decide +kernel) (pda_cons (PDF.pd (pf_lc (own := [("_law_k", 7)]) rfl sc_law_square.nd (pdi_range1 rfl B.range (pda_cons (pd_var 2) (pda_nil))) (blkOk_by (own := [("_law_k", 7)]) (N := n_law_square) (sc := defScope (top 14)) (by decide +kernel)) (fun _ _ _ _ _ => pdg_name (i := 7) sc_law_square.nd rfl (by first | exact Or.inl rfl | exact Or.inr rfl)) (fun _ _ _ _ _ => pdts_nil) (fun _ _ _ _ _ => pd_fun h_law_of hr (Nat.le_refl _) rfl (fun _ => pa0) (pda_cons (pd_var 0) (pda_cons (pd_var 5) (pda_nil)))))) (pda_nil))))))))) (pdss_cons (pds_if (PDW.pdt (pdw_and (pdt_cmp (od_eq (hu64 hr)) ⟨hK⟩ (pd_var 3) (pd_int) (by first | exact nomark _ | rfl)) (pdw_and1 (pdt_cmp od_gt ⟨hK⟩ (pd_var 2) (pd_int) (by first | exact nomark _ | rfl))))) (pdss_one (pds_setIx 4 (pd_op od_sub ⟨hK⟩ (pd_var 2) (pd_int)) (pd_callTy cd_tuple ⟨hK⟩ rfl B.tuple (by decide +kernel) (pda_cons (PDF.pd (pf_lc (own := [("_law_own", 6)]) rfl sc_law_square.nd (pdi_seq ⟨hK⟩ (pd_ixQ ⟨hK⟩ (pdq_nm 4) (pd_int) (fun _ _ => rfl))) (blkOk_by (own := [("_law_own", 6)]) (N := n_law_square) (sc := defScope (top 14)) (by decide +kernel)) (fun _ _ _ _ _ => pdg_name (i := 6) sc_law_square.nd rfl (by first | exact Or.inl rfl | exact Or.inr rfl)) (fun _ _ _ _ _ => pdts_nil) (fun _ _ _ _ _ => pd_op od_mulW ⟨hK⟩ (pd_neg (pd_int)) (pd_var 6)))) (pda_nil))))) (pdss_nil)) (pdss_cons (pds_if (PDW.pdt (pdw_and (pdt_cmp (od_eq (hu64 hr)) ⟨hK⟩ (pd_var 3) (pd_int) (by first | exact nomark _ | rfl)) (pdw_and1 (pdt_cmp od_gt ⟨hK⟩ (pd_var 2) (pd_int) (by first | exact nomark _ | rfl))))) (pdss_one (pds_setIx 4 (pd_int) (pd_op od_add ⟨hK⟩ (pd_op od_repM ⟨hK⟩ (pd_tup (pda_cons (pd_int) (pda_nil))) (pd_op od_sub ⟨hK⟩ (pd_var 2) (pd_int))) (pd_slice ⟨hK⟩ (pd_ixQ ⟨hK⟩ (pdq_nm 4) (pd_int) (fun _ _ => rfl)) (pdo_some (pd_op od_sub ⟨hK⟩ (pd_var 2) (pd_int))) (pdo_none))))) (pdss_nil)) (pdss_one (pds_ret (pd_callTy cd_tuple ⟨hK⟩ rfl B.tuple (by decide +kernel) (pda_cons (pd_var 4) (pda_nil))))))))) (fun ds n k ke h => himp_square ds n k ke h rfl)
abbrev n_law_by_hand_right : List Str := ["_law_got", "_law_wide", "_law_late", "_law_due", "_law_k", "_law_j"]
theorem sc_law_by_hand_right : FnScope n_law_by_hand_right [] (defScope (top 15)) := ⟨rfl, rfl, rfl, by decide +kernel, rfl, by decide +kernel, by decide +kernel⟩
theorem ok_law_by_hand_right {f : Addr} {fd : FuncData} {k : Nat} (F : Fun K "_law_by_hand_right" "_law_by_hand_right" (top 15) f fd) (B : Bl mg) (hK : g.K = K) (h_determinant : HasF P w K mg base CX0 g k "determinant" ["rows"] sdDetM) (hFK_determinant : HasFK P w K mg base CX0 g k "determinant" ["rows"] ["rows"] sdDetM) (h_factorial : HasF P w K mg base CX0 g k "factorial" ["many"] sdFactorial) (hFK_factorial : HasFK P w K mg base CX0 g k "factorial" ["many"] ["many"] sdFactorial) (h_arrangements : HasF P w K mg base CX0 g k "arrangements" ["numbers"] sdArr) (hFK_arrangements : HasFK P w K mg base CX0 g k "arrangements" ["numbers"] ["numbers"] sdArr) (h_law_same : HasF P w K mg base CX0 g k "_law_same" ["_law_got", "_law_due"] sdSame) : FnOk P w K mg base CX0 (k + 1) f fd [] (spD g sdByHand39) :=
  fnD (cs := cs_by_hand16) F sc_law_by_hand_right (fun ds _ _ _ h => by obtain ⟨rfl, _⟩ := h; rfl) (fun cdv A outer s H E hr => pdss_cons (pds_own (i := 0) sc_law_by_hand_right.nd rfl (by first | exact Or.inl rfl | exact Or.inr rfl) (pf_lst (pda_cons (pd_fun h_determinant hr (Nat.le_refl _) rfl (fun _ => pa0) (pda_cons (pd_tup (pda_nil)) (pda_nil))) (pda_cons (pd_fun h_determinant hr (Nat.le_refl _) rfl (fun _ => pa0) (pda_cons (pd_tup (pda_cons (pd_tup (pda_cons (pd_int) (pda_nil))) (pda_nil))) (pda_nil))) (pda_cons (pd_fun h_determinant hr (Nat.le_refl _) rfl (fun _ => pa0) (pda_cons (pd_tup (pda_cons (pd_tup (pda_cons (pd_int) (pda_cons (pd_int) (pda_nil)))) (pda_cons (pd_tup (pda_cons (pd_int) (pda_cons (pd_int) (pda_nil)))) (pda_nil)))) (pda_nil))) (pda_nil)))))) (pdss_cons (pds_own (i := 0) sc_law_by_hand_right.nd rfl (by first | exact Or.inl rfl | exact Or.inr rfl) (pf_add (pd_var 0) (PDF.pd (pf_lst (pda_cons (pd_fun h_determinant hr (Nat.le_refl _) rfl (fun _ => pa0) (pda_cons (PDF.pd (pf_lst (pda_cons (PDF.pd (pf_lst (pda_cons (pd_int) (pda_cons (pd_neg (pd_int)) (pda_nil))))) (pda_cons (PDF.pd (pf_lst (pda_cons (pd_neg (pd_int)) (pda_cons (pd_int) (pda_nil))))) (pda_nil))))) (pda_nil))) (pda_cons (pd_funK (ks := ["rows"]) hFK_determinant hr (Nat.le_refl _) (by rfl) (fun _ => pa0) (pdk_cons (pd_tup (pda_cons (pd_tup (pda_cons (pd_int) (pda_cons (pd_int) (pda_cons (pd_int) (pda_nil))))) (pda_cons (pd_tup (pda_cons (pd_int) (pda_cons (pd_int) (pda_cons (pd_int) (pda_nil))))) (pda_cons (pd_tup (pda_cons (pd_int) (pda_cons (pd_int) (pda_cons (pd_int) (pda_nil))))) (pda_nil))))) pdk_nil)) (pda_nil))))))) (pdss_cons (pds_expr (pd_append 0 (pd_fun h_determinant hr (Nat.le_refl _) rfl (fun _ => pa0) (pda_cons (pd_tup (pda_cons (pd_tup (pda_cons (pd_int) (pda_cons (pd_int) (pda_nil)))) (pda_cons (pd_tup (pda_cons (pd_int) (pda_cons (pd_int) (pda_nil)))) (pda_nil)))) (pda_nil))))) (pdss_cons (pds_expr (pd_append 0 (pd_fun h_determinant hr (Nat.le_refl _) rfl (fun _ => pa0) (pda_cons (pd_tup (pda_cons (pd_tup (pda_cons (pd_int) (pda_cons (pd_int) (pda_cons (pd_int) (pda_nil))))) (pda_cons (pd_tup (pda_cons (pd_int) (pda_cons (pd_int) (pda_cons (pd_int) (pda_nil))))) (pda_cons (pd_tup (pda_cons (pd_int) (pda_cons (pd_int) (pda_cons (pd_int) (pda_nil))))) (pda_nil))))) (pda_nil))))) (pdss_cons (pds_expr (pd_append 0 (pd_fun h_determinant hr (Nat.le_refl _) rfl (fun _ => pa0) (pda_cons (pd_tup (pda_cons (pd_tup (pda_cons (pd_int) (pda_cons (pd_int) (pda_cons (pd_int) (pda_nil))))) (pda_cons (pd_tup (pda_cons (pd_int) (pda_cons (pd_int) (pda_cons (pd_int) (pda_nil))))) (pda_cons (pd_tup (pda_cons (pd_int) (pda_cons (pd_int) (pda_cons (pd_int) (pda_nil))))) (pda_nil))))) (pda_nil))))) (pdss_cons (pds_ownLc (i := 1) (own := [("_law_k", 4)]) rfl sc_law_by_hand_right.nd rfl rfl (pdi_range1 rfl B.range (pda_cons (pd_int) (pda_nil))) (blkOk_by (own := [("_law_k", 4)]) (N := n_law_by_hand_right) (sc := defScope (top 15)) (by decide +kernel)) (fun _ _ _ _ _ => pdg_name (i := 4) sc_law_by_hand_right.nd rfl (by first | exact Or.inl rfl | exact Or.inr rfl)) (fun _ _ _ _ _ => pdts_nil) (fun _ _ _ _ _ => pd_callTy cd_tuple ⟨hK⟩ rfl B.tuple (by decide +kernel) (pda_cons (PDF.pd (pf_lc (own := [("_law_j", 5)]) rfl sc_law_by_hand_right.nd (pdi_range1 rfl B.range (pda_cons (pd_int) (pda_nil))) (blkOk_by (own := [("_law_j", 5)]) (N := n_law_by_hand_right) (sc := { kind := ScopeKind.function, names := [(".0", NameKind.local), ("_law_k", NameKind.cell), ("tuple", NameKind.globalImplicit), ("range", NameKind.globalImplicit)], isGenerator := false, isCoroutine := false }) (by decide +kernel)) (fun _ _ _ _ _ => pdg_name (i := 5) sc_law_by_hand_right.nd rfl (by first | exact Or.inl rfl | exact Or.inr rfl)) (fun _ _ _ _ _ => pdts_nil) (fun _ _ _ _ _ => pd_op od_mulW ⟨hK⟩ (pd_op od_add ⟨hK⟩ (pd_var 4) (pd_int)) (pd_callTy cd_int ⟨hK⟩ rfl B.int (by decide +kernel) (pda_cons (pd_cmp (od_eq (hu64 hr)) ⟨hK⟩ (pd_op od_add ⟨hK⟩ (pd_var 5) (pd_var 4)) (pd_int) (by first | exact nomark _ | rfl)) (pda_nil)))))) (pda_nil)))) (pdss_cons (pds_set (i := 2) sc_law_by_hand_right.nd rfl (by first | exact Or.inl rfl | exact Or.inr rfl) (pd_op od_add ⟨hK⟩ (PDF.pd (pf_lc (own := [("_law_k", 4)]) rfl sc_law_by_hand_right.nd (pdi_range1 rfl B.range (pda_cons (pd_int) (pda_nil))) (blkOk_by (own := [("_law_k", 4)]) (N := n_law_by_hand_right) (sc := defScope (top 15)) (by decide +kernel)) (fun _ _ _ _ _ => pdg_name (i := 4) sc_law_by_hand_right.nd rfl (by first | exact Or.inl rfl | exact Or.inr rfl)) (fun _ _ _ _ _ => pdts_nil) (fun _ _ _ _ _ => pd_callTy cd_tuple ⟨hK⟩ rfl B.tuple (by decide +kernel) (pda_cons (PDF.pd (pf_lc (own := [("_law_j", 5)]) rfl sc_law_by_hand_right.nd (pdi_range1 rfl B.range (pda_cons (pd_int) (pda_nil))) (blkOk_by (own := [("_law_j", 5)]) (N := n_law_by_hand_right) (sc := { kind := ScopeKind.function, names := [(".0", NameKind.local), ("_law_k", NameKind.cell), ("tuple", NameKind.globalImplicit), ("range", NameKind.globalImplicit)], isGenerator := false, isCoroutine := false }) (by decide +kernel)) (fun _ _ _ _ _ => pdg_name (i := 5) sc_law_by_hand_right.nd rfl (by first | exact Or.inl rfl | exact Or.inr rfl)) (fun _ _ _ _ _ => pdts_nil) (fun _ _ _ _ _ => pd_callTy cd_int ⟨hK⟩ rfl B.int (by decide +kernel) (pda_cons (pd_cmp od_ge ⟨hK⟩ (pd_var 5) (pd_var 4) (by first | exact nomark _ | rfl)) (pda_nil))))) (pda_nil))))) (PDF.pd (pf_lst (pda_cons (pd_op od_add ⟨hK⟩ (pd_op od_repM ⟨hK⟩ (pd_tup (pda_cons (pd_int) (pda_nil))) (pd_int)) (pd_tup (pda_cons (pd_int) (pda_nil)))) (pda_cons (pd_op od_add ⟨hK⟩ (pd_op od_repM ⟨hK⟩ (pd_tup (pda_cons (pd_int) (pda_nil))) (pd_int)) (pd_tup (pda_cons (pd_int) (pda_cons (pd_int) (pda_nil))))) (pda_nil))))))) (pdss_cons (pds_own (i := 0) sc_law_by_hand_right.nd rfl (by first | exact Or.inl rfl | exact Or.inr rfl) (pf_add (pd_var 0) (PDF.pd (pf_lst (pda_cons (pd_fun h_determinant hr (Nat.le_refl _) rfl (fun _ => pa0) (pda_cons (pd_callTy cd_tuple ⟨hK⟩ rfl B.tuple (by decide +kernel) (pda_cons (pd_var 1) (pda_nil))) (pda_nil))) (pda_cons (pd_fun h_determinant hr (Nat.le_refl _) rfl (fun _ => pa0) (pda_cons (pd_var 2) (pda_nil))) (pda_nil))))))) (pdss_cons (pds_own (i := 0) sc_law_by_hand_right.nd rfl (by first | exact Or.inl rfl | exact Or.inr rfl) (pf_add (pd_var 0) (PDF.pd (pf_lst (pda_cons (pd_fun h_factorial hr (Nat.le_refl _) rfl (fun _ => pa0) (pda_cons (pd_int) (pda_nil))) (pda_cons (pd_fun h_factorial hr (Nat.le_refl _) rfl (fun _ => pa0) (pda_cons (pd_int) (pda_nil))) (pda_cons (pd_funK (ks := ["many"]) hFK_factorial hr (Nat.le_refl _) (by rfl) (fun _ => pa0) (pdk_cons (pd_int) pdk_nil)) (pda_cons (pd_fun h_factorial hr (Nat.le_refl _) rfl (fun _ => pa0) (pda_cons (pd_int) (pda_nil))) (pda_cons (pd_fun h_arrangements hr (Nat.le_refl _) rfl (fun _ => pa0) (pda_cons (pd_tup (pda_nil)) (pda_nil))) (pda_nil)))))))))) (pdss_cons (pds_own (i := 0) sc_law_by_hand_right.nd rfl (by first | exact Or.inl rfl | exact Or.inr rfl) (pf_add (pd_var 0) (PDF.pd (pf_lst (pda_cons (pd_fun h_arrangements hr (Nat.le_refl _) rfl (fun _ => pa0) (pda_cons (pd_tup (pda_cons (pd_int) (pda_nil))) (pda_nil))) (pda_cons (pd_funK (ks := ["numbers"]) hFK_arrangements hr (Nat.le_refl _) (by rfl) (fun _ => pa0) (pdk_cons (PDF.pd (pf_lst (pda_cons (pd_int) (pda_cons (pd_int) (pda_nil))))) pdk_nil)) (pda_cons (pd_fun h_arrangements hr (Nat.le_refl _) rfl (fun _ => pa0) (pda_cons (pd_tup (pda_cons (pd_int) (pda_cons (pd_int) (pda_nil)))) (pda_nil))) (pda_nil)))))))) (pdss_cons (pds_own (i := 0) sc_law_by_hand_right.nd rfl (by first | exact Or.inl rfl | exact Or.inr rfl) (pf_add (pd_var 0) (PDF.pd (pf_lst (pda_cons (pd_fun h_arrangements hr (Nat.le_refl _) rfl (fun _ => pa0) (pda_cons (pd_tup (pda_cons (pd_int) (pda_cons (pd_int) (pda_cons (pd_int) (pda_nil))))) (pda_nil))) (pda_cons (pd_fun h_arrangements hr (Nat.le_refl _) rfl (fun _ => pa0) (pda_cons (pd_tup (pda_cons (pd_int) (pda_cons (pd_int) (pda_nil)))) (pda_nil))) (pda_nil))))))) (pdss_cons (pds_set (i := 3) sc_law_by_hand_right.nd rfl (by first | exact Or.inl rfl | exact Or.inr rfl) (PDF.pd (pf_lst (pda_cons (pd_int) (pda_cons (pd_int) (pda_cons (pd_neg (pd_int)) (pda_cons (pd_int) (pda_cons (pd_neg (pd_int)) (pda_cons (pd_int) (pda_cons (pd_int) (pda_cons (pd_neg (pd_int)) (pda_cons (pd_neg (pd_int)) (pda_cons (pd_neg (pd_int)) (pda_cons (pd_int) (pda_cons (pd_int) (pda_cons (pd_int) (pda_cons (pd_int) (pda_cons (pd_int) (pda_cons (pd_int) (pda_nil)))))))))))))))))))) (pdss_one (pds_ret (pd_fun h_law_same hr (Nat.le_refl _) rfl (fun _ => pa0) (pda_cons (pd_var 0) (pda_cons (pd_op od_add ⟨hK⟩ (pd_var 3) (PDF.pd (pf_lst (pda_cons (pd_int) (pda_cons (pd_int) (pda_cons (pd_int) (pda_cons (pd_int) (pda_nil)))))))) (pda_nil)))))))))))))))))) (fun ds n k ke h => himp_by_hand16 ds n k ke h rfl)
abbrev n_law_right : List Str := ["_law_box_here", "_law_turn", "_law_rows_so", "_law_due", "_law_some", "_law_top_so", "_law_lap"]
theorem sc_law_right : FnScope n_law_right ["_law_box_here"] (defScope (top 16)) := ⟨rfl, rfl, rfl, by decide +kernel, rfl, by decide +kernel, by decide +kernel⟩
theorem ok_law_right {f : Addr} {fd : FuncData} {k : Nat} (F : Fun K "_law_right" "_law_right" (top 16) f fd) (B : Bl mg) (hK : g.K = K) (h_law_by_hand_right : HasF P w K mg base CX0 g k "_law_by_hand_right" [] sdByHand39) (h_law_square : HasF P w K mg base CX0 g k "_law_square" ["_law_box_here"] sdSquare) (h_law_det : HasF P w K mg base CX0 g k "_law_det" ["_law_rows_so"] (sdLdet 7)) (h_law_same : HasF P w K mg base CX0 g k "_law_same" ["_law_got", "_law_due"] sdSame) (h_determinant : HasF P w K mg base CX0 g k "determinant" ["rows"] sdDetM) (h_law_mixed : HasF P w K mg base CX0 g k "_law_mixed" ["_law_box_here", "_law_matter"] (sdMixed 4)) (h_law_take : HasF P w K mg base CX0 g k "_law_take" ["_law_box_here", "_law_below"] sdTake) (h_arrangements : HasF P w K mg base CX0 g k "arrangements" ["numbers"] sdArr) (h_law_strung : HasF P w K mg base CX0 g k "_law_strung" ["_law_some"] (sdStrung 12)) (h_factorial : HasF P w K mg base CX0 g k "factorial" ["many"] sdFactorial) : FnOk P w K mg base CX0 (k + 1) f fd ["_law_box_here"] (spD g sdRight11) :=
  fnD (cs := cs_right16) F sc_law_right (fun ds _ _ _ h => by obtain ⟨rfl, _⟩ := h; rfl) (fun cdv A outer s H E hr => pdss_cons (pds_if (pdt_not (pdt_val (pd_fun0 h_law_by_hand_right hr (Nat.le_refl _) rfl (fun _ => pa0)))) (pdss_one (pds_ret (pd_bl))) (pdss_nil)) (pdss_cons (pds_for PassesOwn.never rfl (pdi_range1 rfl B.range (pda_cons (pd_int) (pda_nil))) (pdg_name (i := 1) sc_law_right.nd rfl (by first | exact Or.inl rfl | exact Or.inr rfl)) (pdss_cons (pds_set (i := 2) sc_law_right.nd rfl (by first | exact Or.inl rfl | exact Or.inr rfl) (pd_fun h_law_square hr (Nat.le_refl _) rfl (fun _ => pa0) (pda_cons (pd_var 0) (pda_nil)))) (pdss_cons (pds_set (i := 3) sc_law_right.nd rfl (by first | exact Or.inl rfl | exact Or.inr rfl) (pd_fun h_law_det hr (Nat.le_refl _) rfl (fun _ => pa0) (pda_cons (pd_var 2) (pda_nil)))) (pdss_cons (pds_if (pdt_not (pdt_val (pd_fun h_law_same hr (Nat.le_refl _) rfl (fun _ => pa0) (pda_cons (PDF.pd (pf_lst (pda_cons (pd_fun h_determinant hr (Nat.le_refl _) rfl (fun _ => pa0) (pda_cons (pd_var 2) (pda_nil))) (pda_cons (pd_fun h_determinant hr (Nat.le_refl _) rfl (fun _ => pa0) (pda_cons (pd_fun h_law_mixed hr (Nat.le_refl _) rfl (fun _ => pa0) (pda_cons (pd_var 0) (pda_cons (pd_var 2) (pda_nil)))) (pda_nil))) (pda_nil))))) (pda_cons (PDF.pd (pf_lst (pda_cons (pd_var 3) (pda_cons (pd_var 3) (pda_nil))))) (pda_nil)))))) (pdss_one (pds_ret (pd_bl))) (pdss_nil)) (pdss_cons (pds_set (i := 4) sc_law_right.nd rfl (by first | exact Or.inl rfl | exact Or.inr rfl) (pd_callTy cd_tuple ⟨hK⟩ rfl B.tuple (by decide +kernel) (pda_cons (PDF.pd (pf_lc (own := [("_law_lap", 6)]) rfl sc_law_right.nd (pdi_range1 rfl B.range (pda_cons (pd_fun h_law_take hr (Nat.le_refl _) rfl (fun _ => pa0) (pda_cons (pd_var 0) (pda_cons (pd_int) (pda_nil)))) (pda_nil))) (blkOk_by (own := [("_law_lap", 6)]) (N := n_law_right) (sc := defScope (top 16)) (by decide +kernel)) (fun _ _ _ _ _ => pdg_name (i := 6) sc_law_right.nd rfl (by first | exact Or.inl rfl | exact Or.inr rfl)) (fun _ _ _ _ _ => pdts_nil) (fun _ _ _ _ _ => pd_fun h_law_take hr (Nat.le_refl _) rfl (fun _ => pa0) (pda_cons (pd_var 0) (pda_cons (pd_int) (pda_nil)))))) (pda_nil)))) (pdss_cons (pds_if (pdt_not (pdt_val (pd_fun h_law_same hr (Nat.le_refl _) rfl (fun _ => pa0) (pda_cons (PDF.pd (pf_lst (pda_cons (pd_fun h_arrangements hr (Nat.le_refl _) rfl (fun _ => pa0) (pda_cons (pd_var 4) (pda_nil))) (pda_cons (pd_fun h_arrangements hr (Nat.le_refl _) rfl (fun _ => pa0) (pda_cons (PDF.pd (pf_callTy (cf_list' rfl) ⟨hK⟩ rfl B.list (by decide +kernel) (pda_cons (pd_var 4) (pda_nil)))) (pda_nil))) (pda_nil))))) (pda_cons (pd_op od_rep ⟨hK⟩ (PDF.pd (pf_lst (pda_cons (pd_fun h_law_strung hr (Nat.le_refl _) rfl (fun _ => pa0) (pda_cons (pd_var 4) (pda_nil))) (pda_nil)))) (pd_int)) (pda_nil)))))) (pdss_one (pds_ret (pd_bl))) (pdss_nil)) (pdss_cons (pds_set (i := 5) sc_law_right.nd rfl (by first | exact Or.inl rfl | exact Or.inr rfl) (pd_fun h_law_take hr (Nat.le_refl _) rfl (fun _ => pa0) (pda_cons (pd_var 0) (pda_cons (pd_int) (pda_nil))))) (pdss_one (pds_if (pdt_not (pdt_val (pd_fun h_law_same hr (Nat.le_refl _) rfl (fun _ => pa0) (pda_cons (pd_fun h_factorial hr (Nat.le_refl _) rfl (fun _ => pa0) (pda_cons (pd_var 5) (pda_nil))) (pda_cons (pd_fun h_law_strung hr (Nat.le_refl _) rfl (fun _ => pa0) (pda_cons (pd_op od_repM ⟨hK⟩ (pd_tup (pda_cons (pd_int) (pda_nil))) (pd_var 5)) (pda_nil))) (pda_nil)))))) (pdss_one (pds_ret (pd_bl))) (pdss_nil)))))))))) (pdss_one (pds_ret (pd_bl))))) (fun ds n k ke h => himp_right16z ds n k ke h rfl)
end
end K16
namespace K16
open PySem PySem.Spec PyProof.Rows L2 CS RM
theorem all_mk {l : PySem.W.OpenLaw} {w : World} {K : PySem.W.Frag} {h : Heap} {mg : Str → Option Value} {fa f1 f2 f3 f4 f5 f6 f7 f8 f9 f10 f11 f12 f13 f14 f15 : Addr} (X : K.In h) (G : h.Ns mainGlobals mg) (hfa : mg "law" = some (.ref fa))
    {od1 an1 od2 an2 od3 an3 od4 an4 od5 an5 od6 an6 od7 an7 od8 an8 od9 an9 od10 an10 od11 an11 od12 an12 od13 an13 od14 an14 od15 an15 : Option Addr} {sl1 sl2 sl3 sl4 sl5 sl6 sl7 sl8 sl9 sl10 sl11 sl12 sl13 sl14 sl15 : Array (Option Value)} {oc1 kV1 dc1 pm1 cd1 ct1 oc2 kV2 dc2 pm2 cd2 ct2 oc3 kV3 dc3 pm3 cd3 ct3 oc4 kV4 dc4 pm4 cd4 ct4 oc5 kV5 dc5 pm5 cd5 ct5 oc6 kV6 dc6 pm6 cd6 ct6 oc7 kV7 dc7 pm7 cd7 ct7 oc8 kV8 dc8 pm8 cd8 ct8 oc9 kV9 dc9 pm9 cd9 ct9 oc10 kV10 dc10 pm10 cd10 ct10 oc11 kV11 dc11 pm11 cd11 ct11 oc12 kV12 dc12 pm12 cd12 ct12 oc13 kV13 dc13 pm13 cd13 ct13 oc14 kV14 dc14 pm14 cd14 ct14 oc15 kV15 dc15 pm15 cd15 ct15 : Value}
    (a1 : PySem.W.nsIn K mainGlobals "factorial" = some (some (.ref f1))) (l1 : K.lookup f1 = some ⟨oc1, od1, .func (PySem.W.fnOf "factorial" "factorial" (defArgs (top 2)) (defBody (top 2)) (defScope (top 2)) .none kV1 dc1 pm1 an1 cd1 ct1), sl1⟩) (c1 : PySem.W.codeIn K cd1 "factorial" = true) (k1 : PySem.W.keepIn K (.ref f1) = true)
    (a2 : PySem.W.nsIn K mainGlobals "arrangements" = some (some (.ref f2))) (l2 : K.lookup f2 = some ⟨oc2, od2, .func (PySem.W.fnOf "arrangements" "arrangements" (defArgs (top 3)) (defBody (top 3)) (defScope (top 3)) .none kV2 dc2 pm2 an2 cd2 ct2), sl2⟩) (c2 : PySem.W.codeIn K cd2 "arrangements" = true) (k2 : PySem.W.keepIn K (.ref f2) = true)
    (a3 : PySem.W.nsIn K mainGlobals "determinant" = some (some (.ref f3))) (l3 : K.lookup f3 = some ⟨oc3, od3, .func (PySem.W.fnOf "determinant" "determinant" (defArgs (top 4)) (defBody (top 4)) (defScope (top 4)) .none kV3 dc3 pm3 an3 cd3 ct3), sl3⟩) (c3 : PySem.W.codeIn K cd3 "determinant" = true) (k3 : PySem.W.keepIn K (.ref f3) = true)
    (a4 : PySem.W.nsIn K mainGlobals "_law_box" = some (some (.ref f4))) (l4 : K.lookup f4 = some ⟨oc4, od4, .func (PySem.W.fnOf "_law_box" "_law_box" (defArgs sBox) (defBody sBox) (defScope sBox) .none kV4 dc4 pm4 an4 cd4 ct4), sl4⟩) (c4 : PySem.W.codeIn K cd4 "_law_box" = true) (k4 : PySem.W.keepIn K (.ref f4) = true)
    (a5 : PySem.W.nsIn K mainGlobals "_law_take" = some (some (.ref f5))) (l5 : K.lookup f5 = some ⟨oc5, od5, .func (PySem.W.fnOf "_law_take" "_law_take" (defArgs sTake) (defBody sTake) (defScope sTake) .none kV5 dc5 pm5 an5 cd5 ct5), sl5⟩) (c5 : PySem.W.codeIn K cd5 "_law_take" = true) (k5 : PySem.W.keepIn K (.ref f5) = true)
    (a6 : PySem.W.nsIn K mainGlobals "_law_cells" = some (some (.ref f6))) (l6 : K.lookup f6 = some ⟨oc6, od6, .func (PySem.W.fnOf "_law_cells" "_law_cells" (defArgs sCells) (defBody sCells) (defScope sCells) .none kV6 dc6 pm6 an6 cd6 ct6), sl6⟩) (c6 : PySem.W.codeIn K cd6 "_law_cells" = true) (k6 : PySem.W.keepIn K (.ref f6) = true)
    (a7 : PySem.W.nsIn K mainGlobals "_law_of" = some (some (.ref f7))) (l7 : K.lookup f7 = some ⟨oc7, od7, .func (PySem.W.fnOf "_law_of" "_law_of" (defArgs (top 9)) (defBody (top 9)) (defScope (top 9)) .none kV7 dc7 pm7 an7 cd7 ct7), sl7⟩) (c7 : PySem.W.codeIn K cd7 "_law_of" = true) (k7 : PySem.W.keepIn K (.ref f7) = true)
    (a8 : PySem.W.nsIn K mainGlobals "_law_mixed" = some (some (.ref f8))) (l8 : K.lookup f8 = some ⟨oc8, od8, .func (PySem.W.fnOf "_law_mixed" "_law_mixed" (defArgs (top 10)) (defBody (top 10)) (defScope (top 10)) .none kV8 dc8 pm8 an8 cd8 ct8), sl8⟩) (c8 : PySem.W.codeIn K cd8 "_law_mixed" = true) (k8 : PySem.W.keepIn K (.ref f8) = true)
    (a9 : PySem.W.nsIn K mainGlobals "_law_same" = some (some (.ref f9))) (l9 : K.lookup f9 = some ⟨oc9, od9, .func (PySem.W.fnOf "_law_same" "_law_same" (defArgs sSame) (defBody sSame) (defScope sSame) .none kV9 dc9 pm9 an9 cd9 ct9), sl9⟩) (c9 : PySem.W.codeIn K cd9 "_law_same" = true) (k9 : PySem.W.keepIn K (.ref f9) = true)
    (a10 : PySem.W.nsIn K mainGlobals "_law_det" = some (some (.ref f10))) (l10 : K.lookup f10 = some ⟨oc10, od10, .func (PySem.W.fnOf "_law_det" "_law_det" (defArgs (top 12)) (defBody (top 12)) (defScope (top 12)) .none kV10 dc10 pm10 an10 cd10 ct10), sl10⟩) (c10 : PySem.W.codeIn K cd10 "_law_det" = true) (k10 : PySem.W.keepIn K (.ref f10) = true)
    (a11 : PySem.W.nsIn K mainGlobals "_law_strung" = some (some (.ref f11))) (l11 : K.lookup f11 = some ⟨oc11, od11, .func (PySem.W.fnOf "_law_strung" "_law_strung" (defArgs (top 13)) (defBody (top 13)) (defScope (top 13)) .none kV11 dc11 pm11 an11 cd11 ct11), sl11⟩) (c11 : PySem.W.codeIn K cd11 "_law_strung" = true) (k11 : PySem.W.keepIn K (.ref f11) = true)
    (a12 : PySem.W.nsIn K mainGlobals "_law_square" = some (some (.ref f12))) (l12 : K.lookup f12 = some ⟨oc12, od12, .func (PySem.W.fnOf "_law_square" "_law_square" (defArgs (top 14)) (defBody (top 14)) (defScope (top 14)) .none kV12 dc12 pm12 an12 cd12 ct12), sl12⟩) (c12 : PySem.W.codeIn K cd12 "_law_square" = true) (k12 : PySem.W.keepIn K (.ref f12) = true)
    (a13 : PySem.W.nsIn K mainGlobals "_law_by_hand_right" = some (some (.ref f13))) (l13 : K.lookup f13 = some ⟨oc13, od13, .func (PySem.W.fnOf "_law_by_hand_right" "_law_by_hand_right" (defArgs (top 15)) (defBody (top 15)) (defScope (top 15)) .none kV13 dc13 pm13 an13 cd13 ct13), sl13⟩) (c13 : PySem.W.codeIn K cd13 "_law_by_hand_right" = true) (k13 : PySem.W.keepIn K (.ref f13) = true)
    (a14 : PySem.W.nsIn K mainGlobals "_law_right" = some (some (.ref f14))) (l14 : K.lookup f14 = some ⟨oc14, od14, .func (PySem.W.fnOf "_law_right" "_law_right" (defArgs (top 16)) (defBody (top 16)) (defScope (top 16)) .none kV14 dc14 pm14 an14 cd14 ct14), sl14⟩) (c14 : PySem.W.codeIn K cd14 "_law_right" = true) (k14 : PySem.W.keepIn K (.ref f14) = true)
    (a15 : PySem.W.nsIn K mainGlobals "law" = some (some (.ref f15))) (l15 : K.lookup f15 = some ⟨oc15, od15, .func (PySem.W.fnOf "law" "law" (defArgs sLaw) (defBody sLaw) (defScope sLaw) .none kV15 dc15 pm15 an15 cd15 ct15), sl15⟩) (c15 : PySem.W.codeIn K cd15 "law" = true) (k15 : PySem.W.keepIn K (.ref f15) = true)
    (z1 : PySem.W.nsIn K mainGlobals "len" = some none)
    (z2 : PySem.W.nsIn K mainGlobals "sum" = some none)
    (z3 : PySem.W.nsIn K mainGlobals "all" = some none)
    (z4 : PySem.W.nsIn K mainGlobals "any" = some none)
    (z5 : PySem.W.nsIn K mainGlobals "min" = some none)
    (z6 : PySem.W.nsIn K mainGlobals "max" = some none)
    (z7 : PySem.W.nsIn K mainGlobals "sorted" = some none)
    (z8 : PySem.W.nsIn K mainGlobals "tuple" = some none)
    (z9 : PySem.W.nsIn K mainGlobals "list" = some none)
    (z10 : PySem.W.nsIn K mainGlobals "set" = some none)
    (z11 : PySem.W.nsIn K mainGlobals "dict" = some none)
    (z12 : PySem.W.nsIn K mainGlobals "range" = some none)
    (z13 : PySem.W.nsIn K mainGlobals "zip" = some none)
    (z14 : PySem.W.nsIn K mainGlobals "enumerate" = some none)
    (z15 : PySem.W.nsIn K mainGlobals "isinstance" = some none)
    (z16 : PySem.W.nsIn K mainGlobals "abs" = some none)
    (z17 : PySem.W.nsIn K mainGlobals "int" = some none)
    (z18 : PySem.W.nsIn K mainGlobals "str" = some none)
    (z19 : PySem.W.nsIn K mainGlobals "repr" = some none)
    (z20 : PySem.W.nsIn K mainGlobals "bool" = some none)
    (z21 : PySem.W.nsIn K mainGlobals "ValueError" = some none)
    (z22 : PySem.W.nsIn K mainGlobals "LookupError" = some none)
     (nm_comb : PySem.W.nsIn K mainGlobals "comb" = some (some (.builtin "math.comb")))
     (nm_perm : PySem.W.nsIn K mainGlobals "perm" = some (some (.builtin "math.perm"))) :
    ∃ fd : FuncData, (∀ (s : Shared) (v : Value), BindsTo s fd ⟨[v], []⟩ [("_law_script", v)]) ∧ ∀ base : Heap, K.In base → base.Ns mainGlobals mg → FnOk l.prog w K mg base CX0 15 fa fd ["_law_script"] (spLaw K) := by
  have e := hfa.symm.trans (PySem.W.mg_of X G a15)
  cases e
  have F1 := fun_mk (st := (top 2)) l1 c1 k1
  have b1 := F1.binds (ps := ["many"]) fun _ _ _ _ _ _ us hl => match us, hl with | [_], _ => rfl
  have m1 := PySem.W.mg_of X G a1
  have F2 := fun_mk (st := (top 3)) l2 c2 k2
  have b2 := F2.binds (ps := ["numbers"]) fun _ _ _ _ _ _ us hl => match us, hl with | [_], _ => rfl
  have m2 := PySem.W.mg_of X G a2
  have F3 := fun_mk (st := (top 4)) l3 c3 k3
  have b3 := F3.binds (ps := ["rows"]) fun _ _ _ _ _ _ us hl => match us, hl with | [_], _ => rfl
  have m3 := PySem.W.mg_of X G a3
  have F4 := fun_mk (st := sBox) l4 c4 k4
  have b4 := F4.binds (ps := ["_law_script", "_law_k"]) fun _ _ _ _ _ _ us hl => match us, hl with | [_, _], _ => rfl
  have m4 := PySem.W.mg_of X G a4
  have F5 := fun_mk (st := sTake) l5 c5 k5
  have b5 := F5.binds (ps := ["_law_box_here", "_law_below"]) fun _ _ _ _ _ _ us hl => match us, hl with | [_, _], _ => rfl
  have m5 := PySem.W.mg_of X G a5
  have F6 := fun_mk (st := sCells) l6 c6 k6
  have b6 := F6.binds (ps := ["_law_script", "_law_most_so"]) fun _ _ _ _ _ _ us hl => match us, hl with | [_, _], _ => rfl
  have m6 := PySem.W.mg_of X G a6
  have F7 := fun_mk (st := (top 9)) l7 c7 k7
  have b7 := F7.binds (ps := ["_law_box_here", "_law_some"]) fun _ _ _ _ _ _ us hl => match us, hl with | [_, _], _ => rfl
  have m7 := PySem.W.mg_of X G a7
  have F8 := fun_mk (st := (top 10)) l8 c8 k8
  have b8 := F8.binds (ps := ["_law_box_here", "_law_matter"]) fun _ _ _ _ _ _ us hl => match us, hl with | [_, _], _ => rfl
  have m8 := PySem.W.mg_of X G a8
  have F9 := fun_mk (st := sSame) l9 c9 k9
  have b9 := F9.binds (ps := ["_law_got", "_law_due"]) fun _ _ _ _ _ _ us hl => match us, hl with | [_, _], _ => rfl
  have m9 := PySem.W.mg_of X G a9
  have F10 := fun_mk (st := (top 12)) l10 c10 k10
  have b10 := F10.binds (ps := ["_law_rows_so"]) fun _ _ _ _ _ _ us hl => match us, hl with | [_], _ => rfl
  have m10 := PySem.W.mg_of X G a10
  have F11 := fun_mk (st := (top 13)) l11 c11 k11
  have b11 := F11.binds (ps := ["_law_some"]) fun _ _ _ _ _ _ us hl => match us, hl with | [_], _ => rfl
  have m11 := PySem.W.mg_of X G a11
  have F12 := fun_mk (st := (top 14)) l12 c12 k12
  have b12 := F12.binds (ps := ["_law_box_here"]) fun _ _ _ _ _ _ us hl => match us, hl with | [_], _ => rfl
  have m12 := PySem.W.mg_of X G a12
  have F13 := fun_mk (st := (top 15)) l13 c13 k13
  have b13 := F13.binds (ps := []) fun _ _ _ _ _ _ us hl => match us, hl with | [], _ => rfl
  have m13 := PySem.W.mg_of X G a13
  have F14 := fun_mk (st := (top 16)) l14 c14 k14
  have b14 := F14.binds (ps := ["_law_box_here"]) fun _ _ _ _ _ _ us hl => match us, hl with | [_], _ => rfl
  have m14 := PySem.W.mg_of X G a14
  have F15 := fun_mk (st := sLaw) l15 c15 k15
  have y1 := PySem.W.mg_none_of X G z1
  have y2 := PySem.W.mg_none_of X G z2
  have y3 := PySem.W.mg_none_of X G z3
  have y4 := PySem.W.mg_none_of X G z4
  have y5 := PySem.W.mg_none_of X G z5
  have y6 := PySem.W.mg_none_of X G z6
  have y7 := PySem.W.mg_none_of X G z7
  have y8 := PySem.W.mg_none_of X G z8
  have y9 := PySem.W.mg_none_of X G z9
  have y10 := PySem.W.mg_none_of X G z10
  have y11 := PySem.W.mg_none_of X G z11
  have y12 := PySem.W.mg_none_of X G z12
  have y13 := PySem.W.mg_none_of X G z13
  have y14 := PySem.W.mg_none_of X G z14
  have y15 := PySem.W.mg_none_of X G z15
  have y16 := PySem.W.mg_none_of X G z16
  have y17 := PySem.W.mg_none_of X G z17
  have y18 := PySem.W.mg_none_of X G z18
  have y19 := PySem.W.mg_none_of X G z19
  have y20 := PySem.W.mg_none_of X G z20
  have y21 := PySem.W.mg_none_of X G z21
  have y22 := PySem.W.mg_none_of X G z22
  have mm_comb := PySem.W.mg_of X G nm_comb
  have mm_perm := PySem.W.mg_of X G nm_perm
  have B : Bl mg := ⟨y1, y2, y3, y4, y5, y6, y7, y8, y9, y10, y11, y12, y13, y14, y15, y16, y17, y18, y19, y20, y21, y22⟩
  refine ⟨PySem.W.fnOf "law" "law" (defArgs sLaw) (defBody sLaw) (defScope sLaw) .none kV15 dc15 pm15 an15 cd15 ct15, fun s v => .of_eq rfl, fun base _ _ => ?_⟩
  let g : Glob := ⟨K, fun _ => 0⟩
  have T : SmT mg := ⟨y15, y9, y8, y1, y3, y13, y20, y18, y17⟩
  have gM1 := ok_same (P := l.prog) (w := w) (base := base) F9 same_none b9 m9 T
  have gM2 := ok_same F9 gM1 b9 m9 T
  have gM3 := ok_same F9 gM2 b9 m9 T
  have gM4 := ok_same F9 gM3 b9 m9 T
  have gK := ok_take (P := l.prog) (w := w) (base := base) (k := 0) F5 y17
  have v__law_same : FnOk l.prog w K mg base CX0 4 f9 _ ["_law_got", "_law_due"] (spD g sdSame) := FnOk.imp gM4 (fun vs H Q E h => (let ⟨x, y, d, e1, e2, e3, e4, e5⟩ := same_imp (fun d => okS_plain 4 d) h; ⟨x, y, d, e1, e2, e3, okS_okD 4 d e4, e5⟩))
  have v__law_take : FnOk l.prog w K mg base CX0 1 f5 _ ["_law_box_here", "_law_below"] (spD g sdTake) := FnOk.imp gK (fun vs H Q E h => take_imp h)
  have gmixed1 : FnOk l.prog w K mg base CX0 2 f8 _ ["_law_box_here", "_law_matter"] (spD g (sdMixed 1)) := ok_law_mixed (m := 0) (k := 1) F8 B rfl ⟨⟨f8, _, (mixed_none.mono (by decide : 0 ≤ 1)), b8, k8, m8⟩⟩ ⟨⟨f5, _, v__law_take, b5, k5, m5⟩⟩
  have gmixed2 : FnOk l.prog w K mg base CX0 3 f8 _ ["_law_box_here", "_law_matter"] (spD g (sdMixed 2)) := ok_law_mixed (m := 1) (k := 2) F8 B rfl ⟨⟨f8, _, gmixed1, b8, k8, m8⟩⟩ ⟨⟨f5, _, (v__law_take.mono (by decide : 1 ≤ 2)), b5, k5, m5⟩⟩
  have gmixed3 : FnOk l.prog w K mg base CX0 4 f8 _ ["_law_box_here", "_law_matter"] (spD g (sdMixed 3)) := ok_law_mixed (m := 2) (k := 3) F8 B rfl ⟨⟨f8, _, gmixed2, b8, k8, m8⟩⟩ ⟨⟨f5, _, (v__law_take.mono (by decide : 1 ≤ 3)), b5, k5, m5⟩⟩
  have v__law_mixed : FnOk l.prog w K mg base CX0 5 f8 _ ["_law_box_here", "_law_matter"] (spD g (sdMixed 4)) := ok_law_mixed (m := 3) (k := 4) F8 B rfl ⟨⟨f8, _, gmixed3, b8, k8, m8⟩⟩ ⟨⟨f5, _, (v__law_take.mono (by decide : 1 ≤ 4)), b5, k5, m5⟩⟩
  have gdet1 : FnOk l.prog w K mg base CX0 1 f10 _ ["_law_rows_so"] (spD g (sdLdet 1)) := ok_law_det (m := 0) (k := 0) F10 B rfl ⟨⟨f10, _, ldet_none, b10, k10, m10⟩⟩
  have gdet2 : FnOk l.prog w K mg base CX0 2 f10 _ ["_law_rows_so"] (spD g (sdLdet 2)) := ok_law_det (m := 1) (k := 1) F10 B rfl ⟨⟨f10, _, gdet1, b10, k10, m10⟩⟩
  have gdet3 : FnOk l.prog w K mg base CX0 3 f10 _ ["_law_rows_so"] (spD g (sdLdet 3)) := ok_law_det (m := 2) (k := 2) F10 B rfl ⟨⟨f10, _, gdet2, b10, k10, m10⟩⟩
  have gdet4 : FnOk l.prog w K mg base CX0 4 f10 _ ["_law_rows_so"] (spD g (sdLdet 4)) := ok_law_det (m := 3) (k := 3) F10 B rfl ⟨⟨f10, _, gdet3, b10, k10, m10⟩⟩
  have gdet5 : FnOk l.prog w K mg base CX0 5 f10 _ ["_law_rows_so"] (spD g (sdLdet 5)) := ok_law_det (m := 4) (k := 4) F10 B rfl ⟨⟨f10, _, gdet4, b10, k10, m10⟩⟩
  have gdet6 : FnOk l.prog w K mg base CX0 6 f10 _ ["_law_rows_so"] (spD g (sdLdet 6)) := ok_law_det (m := 5) (k := 5) F10 B rfl ⟨⟨f10, _, gdet5, b10, k10, m10⟩⟩
  have v__law_det : FnOk l.prog w K mg base CX0 7 f10 _ ["_law_rows_so"] (spD g (sdLdet 7)) := ok_law_det (m := 6) (k := 6) F10 B rfl ⟨⟨f10, _, gdet6, b10, k10, m10⟩⟩
  have gstrung1 : FnOk l.prog w K mg base CX0 1 f11 _ ["_law_some"] (spD g (sdStrung 1)) := ok_law_strung (m := 0) (k := 0) F11 B rfl ⟨⟨f11, _, strung_none, b11, k11, m11⟩⟩
  have gstrung2 : FnOk l.prog w K mg base CX0 2 f11 _ ["_law_some"] (spD g (sdStrung 2)) := ok_law_strung (m := 1) (k := 1) F11 B rfl ⟨⟨f11, _, gstrung1, b11, k11, m11⟩⟩
  have gstrung3 : FnOk l.prog w K mg base CX0 3 f11 _ ["_law_some"] (spD g (sdStrung 3)) := ok_law_strung (m := 2) (k := 2) F11 B rfl ⟨⟨f11, _, gstrung2, b11, k11, m11⟩⟩
  have gstrung4 : FnOk l.prog w K mg base CX0 4 f11 _ ["_law_some"] (spD g (sdStrung 4)) := ok_law_strung (m := 3) (k := 3) F11 B rfl ⟨⟨f11, _, gstrung3, b11, k11, m11⟩⟩
  have gstrung5 : FnOk l.prog w K mg base CX0 5 f11 _ ["_law_some"] (spD g (sdStrung 5)) := ok_law_strung (m := 4) (k := 4) F11 B rfl ⟨⟨f11, _, gstrung4, b11, k11, m11⟩⟩
  have gstrung6 : FnOk l.prog w K mg base CX0 6 f11 _ ["_law_some"] (spD g (sdStrung 6)) := ok_law_strung (m := 5) (k := 5) F11 B rfl ⟨⟨f11, _, gstrung5, b11, k11, m11⟩⟩
  have gstrung7 : FnOk l.prog w K mg base CX0 7 f11 _ ["_law_some"] (spD g (sdStrung 7)) := ok_law_strung (m := 6) (k := 6) F11 B rfl ⟨⟨f11, _, gstrung6, b11, k11, m11⟩⟩
  have gstrung8 : FnOk l.prog w K mg base CX0 8 f11 _ ["_law_some"] (spD g (sdStrung 8)) := ok_law_strung (m := 7) (k := 7) F11 B rfl ⟨⟨f11, _, gstrung7, b11, k11, m11⟩⟩
  have gstrung9 : FnOk l.prog w K mg base CX0 9 f11 _ ["_law_some"] (spD g (sdStrung 9)) := ok_law_strung (m := 8) (k := 8) F11 B rfl ⟨⟨f11, _, gstrung8, b11, k11, m11⟩⟩
  have gstrung10 : FnOk l.prog w K mg base CX0 10 f11 _ ["_law_some"] (spD g (sdStrung 10)) := ok_law_strung (m := 9) (k := 9) F11 B rfl ⟨⟨f11, _, gstrung9, b11, k11, m11⟩⟩
  have gstrung11 : FnOk l.prog w K mg base CX0 11 f11 _ ["_law_some"] (spD g (sdStrung 11)) := ok_law_strung (m := 10) (k := 10) F11 B rfl ⟨⟨f11, _, gstrung10, b11, k11, m11⟩⟩
  have v__law_strung : FnOk l.prog w K mg base CX0 12 f11 _ ["_law_some"] (spD g (sdStrung 12)) := ok_law_strung (m := 11) (k := 11) F11 B rfl ⟨⟨f11, _, gstrung11, b11, k11, m11⟩⟩
  have v__law_of : FnOk l.prog w K mg base CX0 2 f7 _ ["_law_box_here", "_law_some"] (spD g sdOf) := ok_law_of (k := 1) F7 B rfl ⟨⟨f5, _, v__law_take, b5, k5, m5⟩⟩
  have v_arrangements : FnOk l.prog w K mg base CX0 1 f2 _ ["numbers"] (spD g sdArr) := ok_arrangements (k := 0) F2 B rfl mm_comb
  have v_determinant : FnOk l.prog w K mg base CX0 1 f3 _ ["rows"] (spD g sdDetM) := ok_determinant (k := 0) F3 B rfl 
  have v_factorial : FnOk l.prog w K mg base CX0 1 f1 _ ["many"] (spD g sdFactorial) := ok_factorial (k := 0) F1 B rfl mm_perm
  have v__law_square : FnOk l.prog w K mg base CX0 4 f12 _ ["_law_box_here"] (spD g sdSquare) := ok_law_square (k := 3) F12 B rfl ⟨⟨f5, _, (v__law_take.mono (by decide : 1 ≤ 3)), b5, k5, m5⟩⟩ ⟨⟨f7, _, (v__law_of.mono (by decide : 2 ≤ 3)), b7, k7, m7⟩⟩
  have v__law_by_hand_right : FnOk l.prog w K mg base CX0 13 f13 _ [] (spD g sdByHand39) := ok_law_by_hand_right (k := 12) F13 B rfl ⟨⟨f3, _, (v_determinant.mono (by decide : 1 ≤ 12)), b3, k3, m3⟩⟩ ⟨⟨f3, _, (v_determinant.mono (by decide : 1 ≤ 12)), kb_one F3 (fun _ _ _ _ _ _ _ => rfl), k3, m3⟩⟩ ⟨⟨f1, _, (v_factorial.mono (by decide : 1 ≤ 12)), b1, k1, m1⟩⟩ ⟨⟨f1, _, (v_factorial.mono (by decide : 1 ≤ 12)), kb_one F1 (fun _ _ _ _ _ _ _ => rfl), k1, m1⟩⟩ ⟨⟨f2, _, (v_arrangements.mono (by decide : 1 ≤ 12)), b2, k2, m2⟩⟩ ⟨⟨f2, _, (v_arrangements.mono (by decide : 1 ≤ 12)), kb_one F2 (fun _ _ _ _ _ _ _ => rfl), k2, m2⟩⟩ ⟨⟨f9, _, (v__law_same.mono (by decide : 4 ≤ 12)), b9, k9, m9⟩⟩
  have v__law_right : FnOk l.prog w K mg base CX0 14 f14 _ ["_law_box_here"] (spD g sdRight11) := ok_law_right (k := 13) F14 B rfl ⟨⟨f13, _, v__law_by_hand_right, b13, k13, m13⟩⟩ ⟨⟨f12, _, (v__law_square.mono (by decide : 4 ≤ 13)), b12, k12, m12⟩⟩ ⟨⟨f10, _, (v__law_det.mono (by decide : 7 ≤ 13)), b10, k10, m10⟩⟩ ⟨⟨f9, _, (v__law_same.mono (by decide : 4 ≤ 13)), b9, k9, m9⟩⟩ ⟨⟨f3, _, (v_determinant.mono (by decide : 1 ≤ 13)), b3, k3, m3⟩⟩ ⟨⟨f8, _, (v__law_mixed.mono (by decide : 5 ≤ 13)), b8, k8, m8⟩⟩ ⟨⟨f5, _, (v__law_take.mono (by decide : 1 ≤ 13)), b5, k5, m5⟩⟩ ⟨⟨f2, _, (v_arrangements.mono (by decide : 1 ≤ 13)), b2, k2, m2⟩⟩ ⟨⟨f11, _, (v__law_strung.mono (by decide : 12 ≤ 13)), b11, k11, m11⟩⟩ ⟨⟨f1, _, (v_factorial.mono (by decide : 1 ≤ 13)), b1, k1, m1⟩⟩
  have gR : FnOk l.prog w K mg base CX0 14 f14 _ ["_law_box_here"] spRight := FnOk.imp v__law_right (fun vs H Q E h => right_imp h)
  have gE : FnOk l.prog w K mg base CX0 14 f6 _ ["_law_script", "_law_most_so"] (spCells K) := ok_cells F6 y9 y14 y17
  have gB : FnOk l.prog w K mg base CX0 14 f4 _ ["_law_script", "_law_k"] (spBox K) := ok_box F4 y1 y16 y17
  exact ok_law F15 gE b6 k6 m6 gR b14 k14 m14 gB b4 k4 m4 y12 y3 y1
theorem walk {l : PySem.W.OpenLaw} {q : Program} {loose : List Str} {XP : (Str → Option Value) → Heap → Prop} {YP : World → Heap → Prop} {d : DefRec} {K : Params → PySem.W.Frag} (hn : l.most = some 63) (hdf : d.params.defaults = [])
    (hY : ∀ (w : World) (h : Heap), YP w h → (K w.params).In h)
    (F : ∀ (w : World) (mg : Str → Option Value) (fa : Addr) (h : Heap), (K w.params).In h → h.Ns mainGlobals mg → mg d.name = some (.ref fa) →
      ∃ fd : FuncData, (∀ (s : Shared) (u : Value), BindsTo s fd ⟨[u], []⟩ [("_law_script", u)]) ∧ ∀ base : Heap, (K w.params).In base → base.Ns mainGlobals mg → FnOk l.prog w (K w.params) mg base CX0 15 fa fd ["_law_script"] (spLaw (K w.params))) :
    PySem.W.WalkO q loose XP YP l.row.toRowW d [] (fun f vs => PySem.call f vs) :=
  L2.walk_of (n := 63) (k := 15) (x := "_law_script") (CX := fun _ => CX0) (sp := fun w => spLaw (K w.params)) hn (by decide) hdf ⟨rfl, by decide, by decide⟩ hY F (fun _ _ a ns hl _ hS => ⟨a, ns, rfl, hS, hl, fun _ => rfl⟩) fun _ _ _ _ _ z => z
end K16
open PySem PySem.W PyProof.Rows in
set_option maxRecDepth 100000 in
set_option maxHeartbeats 0 in
theorem PySem.Challenge.cw_countedsteps_k16_determinants_and_orders_holds : PySem.Challenge.rw_countedsteps_k16_determinants_and_orders.Holds := by
  w_on; o_law; k_head; (case hw => w_witness2)
  k_fill
  refine K16.walk (l := PySem.Challenge.rw_countedsteps_k16_determinants_and_orders) rfl rfl (fun w h Y => PySem.W.kIn_of Y) ?F
  case F =>
    intro w mg fa h KX G hmg
    refine' K16.all_mk KX G hmg ?a1 ?l1 ?c1 ?k1 ?a2 ?l2 ?c2 ?k2 ?a3 ?l3 ?c3 ?k3 ?a4 ?l4 ?c4 ?k4 ?a5 ?l5 ?c5 ?k5 ?a6 ?l6 ?c6 ?k6 ?a7 ?l7 ?c7 ?k7 ?a8 ?l8 ?c8 ?k8 ?a9 ?l9 ?c9 ?k9 ?a10 ?l10 ?c10 ?k10 ?a11 ?l11 ?c11 ?k11 ?a12 ?l12 ?c12 ?k12 ?a13 ?l13 ?c13 ?k13 ?a14 ?l14 ?c14 ?k14 ?a15 ?l15 ?c15 ?k15 ?z1 ?z2 ?z3 ?z4 ?z5 ?z6 ?z7 ?z8 ?z9 ?z10 ?z11 ?z12 ?z13 ?z14 ?z15 ?z16 ?z17 ?z18 ?z19 ?z20 ?z21 ?z22 ?nm_comb ?nm_perm
    (case a1 => k_is); (case l1 => k_is); (case c1 => k_is); (case k1 => k_is)
    (case a2 => k_is); (case l2 => k_is); (case c2 => k_is); (case k2 => k_is)
    (case a3 => k_is); (case l3 => k_is); (case c3 => k_is); (case k3 => k_is)
    (case a4 => k_is); (case l4 => k_is); (case c4 => k_is); (case k4 => k_is)
    (case a5 => k_is); (case l5 => k_is); (case c5 => k_is); (case k5 => k_is)
    (case a6 => k_is); (case l6 => k_is); (case c6 => k_is); (case k6 => k_is)
    (case a7 => k_is); (case l7 => k_is); (case c7 => k_is); (case k7 => k_is)
    (case a8 => k_is); (case l8 => k_is); (case c8 => k_is); (case k8 => k_is)
    (case a9 => k_is); (case l9 => k_is); (case c9 => k_is); (case k9 => k_is)
    (case a10 => k_is); (case l10 => k_is); (case c10 => k_is); (case k10 => k_is)
    (case a11 => k_is); (case l11 => k_is); (case c11 => k_is); (case k11 => k_is)
    (case a12 => k_is); (case l12 => k_is); (case c12 => k_is); (case k12 => k_is)
    (case a13 => k_is); (case l13 => k_is); (case c13 => k_is); (case k13 => k_is)
    (case a14 => k_is); (case l14 => k_is); (case c14 => k_is); (case k14 => k_is)
    (case a15 => k_is); (case l15 => k_is); (case c15 => k_is); (case k15 => k_is)
    (case z1 => k_is)
    (case z2 => k_is)
    (case z3 => k_is)
    (case z4 => k_is)
    (case z5 => k_is)
    (case z6 => k_is)
    (case z7 => k_is)
    (case z8 => k_is)
    (case z9 => k_is)
    (case z10 => k_is)
    (case z11 => k_is)
    (case z12 => k_is)
    (case z13 => k_is)
    (case z14 => k_is)
    (case z15 => k_is)
    (case z16 => k_is)
    (case z17 => k_is)
    (case z18 => k_is)
    (case z19 => k_is)
    (case z20 => k_is)
    (case z21 => k_is)
    (case z22 => k_is)
    (case nm_comb => k_is)
    (case nm_perm => k_is)
#print axioms PySem.Challenge.cw_countedsteps_k16_determinants_and_orders_holds
