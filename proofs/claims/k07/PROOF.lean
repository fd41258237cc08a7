import PyProof.Rows.All
import Wide.All
import OpenK.AllK
import Wide.FinOn
import KE.GoesEnum
import KE.DataMinMax
import HandS.ForMost
import HandS.SortKw
import HandS.Set
import HandS.IsInst
import HandS.Conv
import HandS.Deep
import HandS.TupAny
import HandS.Wide
import HandS.Zip
import HandS.More
import KE.KSort
import HandS.Evl
import HandS.Codes
import PySem.Challenge.RW_fromsize_k07_whole_no_earlier_wiring_lea
set_option Elab.async false
set_option linter.all false
set_option maxRecDepth 100000
set_option maxHeartbeats 4000000
namespace My
open PySem PySem.Spec PyProof.Rows L2

/-! sorted of a list or a tuple of ints -/
section
variable {P : Program} {w : World} {A : Around} {E : Value → Shared → Prop} {s : Shared}
theorem sorted_two {l : Addr} {T : String} {o : Obj} {vs : List Value} {ns : List Int} {m : Nat} {Q : Value → Shared → Prop}
    (hT : T = "list" ∨ T = "tuple") (ho : s.heap.get? l = some o) (hc : o.cls = .type T) (hd : o.data = .seq vs.toArray m)
    (hI : IntsAre vs ns) (h64 : vs.length < 64)
    (hQ : ∀ (h1 h' : Heap) (out : Array Value) (c : Nat) (ns' : List Int), (∀ b u, s.heap.get? b = some u → h1.get? b = some u) →
      (∀ b u, h1.get? b = some u → h'.get? b = some u) → h'.get? h1.objs.size = some (seqObj "list" out c) → IntsAre out.toList ns' → ns'.Perm ns → ns'.Pairwise (· ≤ ·) →
      Q (.ref h1.objs.size) { s with heap := h' }) :
    wpAny (model P w) A (call (.builtin "sorted") [.ref l]) Q E s := by
  have small : vs.length ≤ sizeLine := by
    rw [sizeLine_eq]
    omega
  refine Calls.call_function_entry kind_sorted plain_sorted entry_sorted
    (args_sorted1 _) ?_
  unfold Builtin.«sorted»
  refine wpAny_bind (m := checkCount "sorted" 1 1 _)
    (wpAny_pure ?_)
  refine wpAny_bind (wpAny_collect_seq (A := A.in1) l hT ho hc hd
    (fun h1 k1 => ?_) (by simpa using small))
  refine wpAny_bind (wpAny_newList ?_ (by simpa using small))
  have at1 : (h1.push (seqObj "list" vs.toArray 0)).get? h1.objs.size
      = some (seqObj "list" vs.toArray 0) := Heap.get?_push_size _ rfl
  refine wpAny_bind (wpAny_holding (wpAny_call_entry slot_list_sort
    ⟨_, at1, rfl⟩ entry_list_sort
    (list_sort_tree at1 hI h64 fun out ns' a1 a2 a3 => ⟨_, rfl, ?_⟩)
    (args_list_sort _)))
  obtain ⟨c, hcc⟩ := sortedHeap_at (vs := vs) (out := out) at1
  refine wpAny_pure ⟨_, rfl, hQ h1 _ out c ns' k1
    (fun b u q => ?_) hcc a1 a2 a3⟩
  have lt := Heap.lt_size q
  rw [sortedHeap_old (Nat.ne_of_lt lt)
    (by rw [size_push']; exact Nat.lt_succ_of_lt lt)]
  exact Heap.get?_push_of_some _ q
end
/-- a list or a tuple at a -/
def Sq (K : PySem.W.Frag) (H : Hp) (a : Addr) (xs : List V) : Prop := SqL K H a xs ∨ SqT K H a xs
section
variable {X : Cx}
def rSort2 (K : PySem.W.Frag) : List V → Hp → VK → Prop := fun vs H Q => ∃ (a : Addr) (ns : List Int), vs = [V.ref a] ∧
  Sq K H a (ns.map V.int) ∧ ns.length < 64 ∧ ∀ (ns' : List Int) (p : Addr), ns'.Perm ns → ns'.Pairwise (· ≤ ·) → H p = none →
    Q (.ref p) (upd H p (.lst (ns'.map V.int)))
theorem cr_sort2 : CallR X (.builtin "sorted") (rSort2 X.K) := by
  intro pins s σ H vs us Q I r h
  obtain ⟨a, ns, rfl, hs, h64, q⟩ := h
  have main : ∀ (T : String) (o : Obj) (its : List Value) (m : Nat), (T = "list" ∨ T = "tuple") → Vals (ns.map V.int) its →
      s.heap.get? a = some o → o.cls = .type T → o.data = .seq its.toArray m →
      wpAny (model X.prog X.w) X.A (call (.builtin "sorted") us) (EP X pins σ Q) X.xe s := by
    intro T o its m hT rv ho hc hd
    have hi := rv.ints
    have hl : its.length < 64 := by
      rw [hi.length]
      exact h64
    have e1 := Vals.ref1 r
    subst e1
    refine sorted_two hT ho hc hd hi hl
      fun h1 h' out c ns' k1 k2 at1 b1 b2 b3 => ?_
    have I1 : Inv X pins σ H { s with heap := h1 } :=
      I.kept (t' := s.toks) k1
    have len1 : (ns'.map V.int).length ≤ sizeLine := by
      rw [List.length_map, b2.length_eq, sizeLine_eq]
      omega
    have I2 : Inv X pins σ (upd H h1.objs.size (.lst (ns'.map V.int)))
        { s with heap := h' } :=
      I1.laid (t' := s.toks) k2 (Nat.le_refl _)
        ⟨len1, out.toList, c, vals_of_ints b1, at1⟩
    exact ⟨.ref h1.objs.size, _, I2, rfl,
      q ns' _ b2 b3 (I1.hok.fresh (Nat.le_refl _))⟩
  rcases hs with hs | hs
  · obtain ⟨its, rv, ⟨o, n, e1, e2, e3, e4⟩, _⟩ := I.list hs
    exact main "list" o its n (.inl rfl) rv e1 e2 e4
  · obtain ⟨its, rv, ⟨o, e1, e2, n, e3⟩, _⟩ := I.tuple hs
    exact main "tuple" o its n (.inr rfl) rv e1 e2 e3

/-! max of a list of ints, default= an int -/
def mx (d : Int) : List Int → Int
  | [] => d
  | y :: ys => ys.foldl max y
theorem alikes (ns : List Int) : PySem.W.AlikeAll (ns.map PyData.int) := by
  refine ⟨fun x hx y hy => ?_, fun x hx => ?_⟩
  · obtain ⟨i, _, rfl⟩ := List.mem_map.mp hx
    obtain ⟨j, _, rfl⟩ := List.mem_map.mp hy
    rfl
  · obtain ⟨i, _, rfl⟩ := List.mem_map.mp hx
    intro z
    cases z
theorem depth_ints : ∀ ns : List Int, PyData.depthAll (ns.map PyData.int) ≤ 1
  | [] => by
    show 0 ≤ 1
    omega
  | n :: ns => by
    have ih := depth_ints ns
    show max (PyData.depth (.int n)) (PyData.depthAll (ns.map PyData.int)) ≤ 1
    have h1 : PyData.depth (.int n) ≤ 1 := by
      show _ ≤ 1
      simp [PyData.depth]
    omega
def rMaxDf (K : PySem.W.Frag) : List V → List V → Hp → VK → Prop := fun vs zs H Q => ∃ (a : Addr) (ns : List Int) (d : Int),
  vs = [V.ref a] ∧ zs = [V.int d] ∧ SqL K H a (ns.map V.int) ∧ Q (.int (mx d ns)) H
theorem cr_maxDf (hc : X.calm = true) (hu : X.A.units + 64 < cLine) : CallRK X (.builtin "max") ["default"] (rMaxDf X.K) := by
  intro pins s σ H vs zs us ws Q I r r2 h
  obtain ⟨a, ns, d, rfl, rfl, hs, q⟩ := h
  have e1 := Vals.ref1 r
  subst e1
  obtain ⟨u, rfl, ru⟩ := r2.one
  obtain ⟨tk0, rfl⟩ := ru
  obtain ⟨its, rv, hl, _⟩ := I.list hs
  have hi := rv.ints
  have hr : ReadsAll s.heap its.toArray.toList (ns.map PyData.int) [] := by
    have := hi.reads s.heap
    simpa using this
  refine PySem.W.max_list_default (d := .int d tk0) (I.ok.hd hc) hl.isList hr (alikes ns)
    (by have := depth_ints ns; omega) (fun e h' tk k => ?_) fun y ys i v h' tk bs e hv rd k => ?_
  · cases ns with
    | nil => exact ⟨.int d, H, I.kept k, ⟨_, rfl⟩, q⟩
    | cons n ns => cases e
  · cases ns with
    | nil => cases e
    | cons n ns =>
      rw [List.map_cons] at e
      injection e with e2 e3
      subst e2 e3
      rw [PySem.W.maxD_ints] at rd
      cases rd with
      | int _ t => exact ⟨.int _, H, I.kept k, ⟨_, rfl⟩, q⟩
end
/-! enumerate of a tuple -/
set_option maxHeartbeats 2000000 in
theorem enum_new1 {v : Value} {o : Obj} {G : Heap → Prop} (B : Begins v o G) :
    Meets (Builtin.«enumerate.__new__» ⟨[.type "enumerate", v], []⟩) (fun _ R s => G s.heap ∧
      R (.ok (.ret (.ref (s.heap.push o).objs.size)))
        { s with heap := (s.heap.push o).push { cls := .type "enumerate", data := .fields #[.none, .bool false, .ref s.heap.objs.size, rawInt 0, .none, .none] } }) :=
  .of_wp fun prog w A R s h => by
    obtain ⟨hp, g, d, tk, os⟩ := s
    obtain ⟨h1, h⟩ := h
    have sub0 := sub_enumerate
    have goes : ∀ {A' : Around} {E : Value → Shared → Prop} {Q : Value → Shared → Prop},
        Q (.ref hp.objs.size) ⟨hp.push o, g, d, tk, os⟩ →
        wpAny (model prog w) A' (pyIter v) Q E ⟨hp, g, d, tk, os⟩ :=
      fun q => B.iter prog w _ _ ⟨hp, g, d, tk, os⟩ _ h1 q
    wp_walk using goes
    refine wpAny_stack_any fun st =>
      wpAny_pure ?_
    split
    · rename_i c _ _ _ _ _
      cases (c == Value.type "enumerate") <;>
        (wp_walk using goes
         exact ⟨_, rfl, h⟩)
    · wp_walk using goes
      exact ⟨_, rfl, h⟩
section
variable {prog : Program} {w : World} {A : Around} {E : Value → Shared → Prop} {s : Shared}
theorem call_enum1 {v : Value} {o : Obj} {G : Heap → Prop} {Q : Value → Shared → Prop} (B : Begins v o G) (h1 : G s.heap)
    (h : ∀ h', IsEnum h' (s.heap.objs.size + 1) s.heap.objs.size 0 .none → h'.get? s.heap.objs.size = some o →
      (∀ b o, s.heap.get? b = some o → h'.get? b = some o) → Q (.ref (s.heap.objs.size + 1)) { s with heap := h' }) :
    wpAny (model prog w) A (call (.type "enumerate") [v]) Q E s := by
  refine callType_new F.called_enumerate (by decide) (F.typeCall_enumerate_1 _)
    (F.newCall_enumerate_1 _) (fun obj => F.args_object_init_2 obj _)
    F.entry_enumerate_new (enum_new1 B) ⟨h1, ?_⟩
  have hz : (s.heap.push o).objs.size = s.heap.objs.size + 1 := Heap.size_push ..
  show _ ∧ _
  rw [hz]
  have he : IsEnum ((s.heap.push o).push { cls := .type "enumerate", data := .fields #[.none, .bool false, .ref s.heap.objs.size, rawInt 0, .none, .none] })
      (s.heap.objs.size + 1) s.heap.objs.size 0 .none := by
    have t := Heap.get?_push_size (s.heap.push o)
      (o := { cls := .type "enumerate", data := .fields #[.none, .bool false, .ref s.heap.objs.size, rawInt 0, .none, .none] }) rfl
    rw [hz] at t
    exact t
  refine ⟨⟨_, he, rfl⟩, h _ he (Heap.get?_push_of_some _
    (Heap.get?_push_size _ B.free)) fun b o x => ?_⟩
  exact Heap.get?_push_of_some _ (Heap.get?_push_of_some _ x)
end
/-- the tuple at a, each item in a new pair with its number -/
def IteT (K : PySem.W.Frag) (a : Addr) : It :=
  ⟨fun i H => ∃ (xs : List V) (x : V), SqT K H a xs ∧ xs[i]? = some x,
   fun i H v H' => ∃ T x, v = .ref T ∧ H T = none ∧ H' = upd H T (.tup [.int (i : Nat), x]) ∧
     ∀ xs, SqT K H a xs → xs[i]? = some x,
   fun i H => ∃ xs : List V, SqT K H a xs ∧ xs.length = i⟩
theorem turn_enumT {P : Program} {w : World} {K : PySem.W.Frag} {elts : List Expr} {kk : Nat} {tpos : Pos} {a e it : Addr} (hei : e ≠ it) (hai : a ≠ it) (hea : e ≠ a) :
    Turn P w K (.Tuple elts kk tpos) (IteT K a) [e, it] e
      (fun i h => (∃ old, IsEnum h e it ((i : Nat) : Int) old) ∧ h.IsTupleIter it a i) where
  mem := by simp
  obj := fun i h st b hb => by
    obtain ⟨⟨old, he⟩, ⟨o, ho, hc, hd⟩⟩ := st
    have e' : b = e ∨ b = it := by simpa using hb
    rcases e' with rfl | rfl
    · exact ⟨_, he, fun v q => nomatch q⟩
    · exact ⟨o, ho, fun v q => by
        rw [hd] at q
        cases q⟩
  keep := fun i h h' st k => by
    obtain ⟨⟨old, he⟩, hi⟩ := st
    exact ⟨⟨old, k e (by simp) _ he⟩,
      hi.at fun o q => k it (by simp) o q⟩
  item := by
    intro X hP hw hK hc i pins s σ H E I hf st hg
    subst hP hw hK
    obtain ⟨⟨old, he⟩, hit⟩ := st
    obtain ⟨xs, x, hq, hx⟩ := hg
    obtain ⟨its, rv, p, hz⟩ := I.tuple hq
    obtain ⟨u, hu, ru⟩ := rv.get hx
    have lte : e < s.heap.objs.size := Heap.lt_size he
    have lti : it < s.heap.objs.size := by
      obtain ⟨_, q, _⟩ := hit
      exact Heap.lt_size q
    have D := Draws.tuple (prog := X.prog) (w := X.w) (A := X.A.in1)
      (I.ok.hd hc) it a hai its.toArray
    have lx : i < its.toArray.size := by
      have := (List.getElem?_eq_some_iff.mp hu).1
      simpa using this
    refine wpAny_pyNext_enum_itemC D he
      ⟨hit, (show s.heap.IsTuple a its.toArray from p)⟩ lx hei
      (by simp [hei, hea])
      fun y h' tk hy ho st' hT hsz hk => ?_
    have ey : y = u := by
      have h2 : its.toArray[i]? = some y := hy
      have h3 : its.toArray[i]? = some u := by simpa using hu
      rw [h2] at h3
      exact Option.some.inj h3
    subst ey
    refine ⟨_, rfl, wpAny_letOwnedTupleGo_enum (s := { s with heap := h', toks := tk + 1 })
      ho fun h'' he' sb => ?_⟩
    have hT2 : h''.get? s.heap.objs.size = some { cls := .type "tuple", data := .seq #[.int i tk, y] } :=
      (sb.2 _ (Nat.ne_of_gt lte)).trans hT
    have new : ObjOk X.prog X.w (upd H s.heap.objs.size (.tup [.int (i : Nat), x])) h''
        s.heap.objs.size (.tup [.int (i : Nat), x]) :=
      ⟨by show 2 ≤ sizeLine; decide, [.int i tk, y],
        .cons ⟨_, rfl⟩ (.cons ru .nil), ⟨_, hT2, rfl, _, rfl⟩⟩
    have I1 : Inv X pins σ (upd H s.heap.objs.size (.tup [.int (i : Nat), x]))
        { s with heap := h'', toks := tk + 1 } :=
      I.turnedNew (ch := [e, it]) (fun b ob hb q =>
        (sb.2 b (fun z => hb (by simp [z]))).trans
          (hk b ob (fun z => hb (by simp [z])) (fun z => hb (by simp [z])) q))
        hf (Nat.le_refl _) new
    refine ⟨.ref s.heap.objs.size, _, I1, rfl, ⟨_, x, rfl,
      I.hok.fresh (Nat.le_refl _), rfl, fun ys hy => ?_⟩,
      ⟨⟨y, ?_⟩, st'.1.at fun o q => (sb.2 it (Ne.symm hei)).trans q⟩,
      fun b hb => ?_⟩
    · rw [I.tuple_inj hy hq]
      exact hx
    · have e1 : ((i + 1 : Nat) : Int) = (i : Int) + 1 := by omega
      rw [e1]
      exact he'
    · have hb' : b < s.heap.objs.size := by
        have e' : b = e ∨ b = it := by simpa using hb
        rcases e' with rfl | rfl
        · exact lte
        · exact lti
      rw [upd_ne (Nat.ne_of_lt hb')]
      exact (hf b hb).1
  done := by
    intro X hP hw hK hc i pins s σ H E I hf st hg
    subst hP hw hK
    obtain ⟨⟨old, he⟩, hit⟩ := st
    obtain ⟨xs, hq, hx⟩ := hg
    obtain ⟨its, rv, p, hz⟩ := I.tuple hq
    have hl := rv.length
    have D := Draws.tuple (prog := X.prog) (w := X.w) (A := X.A.in1)
      (I.ok.hd hc) it a hai its.toArray
    have e2 : its.toArray.size = i := by
      simp
      omega
    refine wpAny_pyNext_enum_endD D he (by
      rw [e2]
      exact ⟨hit, (show s.heap.IsTuple a its.toArray from p)⟩) fun h' eb => ⟨rfl, ?_⟩
    exact I.turnedL (t' := s.toks) (ch := [e, it])
      (fun b o hb q => eb b o (fun z => hb (by simp [z])) q) hf
  self := fun A i s Q E st h => by
    obtain ⟨⟨_, he⟩, _⟩ := st
    exact wpAny_pyIter_enum he h
def iEnumT (K : PySem.W.Frag) (ta : TA) : TI := fun σ H R => ta σ H fun vs H1 => ∃ a xs, vs = [.ref a] ∧ SqT K H1 a xs ∧ R (IteT K a) H1
theorem pi_enumT {X : Cx} {e : Expr} {ta : TA} {p pos tpos : Pos} {elts : List Expr} {kk : Nat} (hg : Gl X "enumerate") (hm : X.mg "enumerate" = none)
    (ha : PA X [e] ta) (hs : starEach [e] X.env = [(false, eval e X.env)] := by rfl) :
    PI X (.Tuple elts kk tpos) (.Call (.Name "enumerate" p) [e] [] pos) (iEnumT X.K ta) := by
  refine ⟨fun pins s σ H R I h => ?_⟩
  refine Call_ (ld_blt I hg hm boot_enumerate (PyProof.Rows.callWith_type1
    (thn (ha.run pos pins s σ H _ I h) fun us s1 ⟨vs, H1, I1, r1, q1⟩ => ?_) hs rfl))
  obtain ⟨a, xs, ex, hq, q⟩ := q1
  subst ex
  have e1 := Vals.ref1 r1
  subst e1
  obtain ⟨its, rv, p', hz⟩ := I1.tuple hq
  have la : a < s1.heap.objs.size := p'.lt
  refine call_enum1 (begins_tuple a its.toArray)
    (show s1.heap.IsTuple a its.toArray from p')
    fun h' he hit hk => wpAny_pyIter_enum he ?_
  have I2 : Inv X pins σ H1 { s1 with heap := h' } := I1.kept (t' := s1.toks) hk
  refine ⟨s1.heap.objs.size + 1, [s1.heap.objs.size + 1, s1.heap.objs.size], _, _, H1, rfl, I2,
    turn_enumT (a := a) (Nat.succ_ne_self _) (Nat.ne_of_lt la) (Nat.ne_of_gt (Nat.lt_succ_of_lt la)),
    ⟨⟨.none, he⟩, ⟨_, hit, rfl, rfl⟩⟩, fun b hb => ?_, q⟩
  have hle : s1.heap.objs.size ≤ b := by
    have e' : b = s1.heap.objs.size + 1 ∨ b = s1.heap.objs.size := by simpa using hb
    rcases e' with z | z
    · rw [z]
      exact Nat.le_succ _
    · rw [z]
      exact Nat.le_refl _
  exact I1.fpOk hle (I1.hok.fresh hle)
/-- a loop over enumerate of a tuple -/
theorem for_enumT {K : PySem.W.Frag} {a : Addr} {xs : List V} {g : TG} {tb : TS} {D : Ends} {σ : L2.St} {H : Hp} (Pv : Nat → L2.St → Hp → Prop) (h0 : Pv 0 σ H)
    (hq : ∀ i σ H, Pv i σ H → SqT K H a xs)
    (hs : ∀ (i : Nat) (x : V) (T : Addr) (σ : L2.St) (H : Hp), xs[i]? = some x → Pv i σ H → H T = none →
      g (.ref T) σ (upd H T (.tup [.int (i : Nat), x])) fun σ2 H2 => tb { D with nx := Pv (i + 1), ct := Pv (i + 1), bk := D.nx } σ2 H2)
    (hd : ∀ σ H, Pv xs.length σ H → D.nx σ H) :
    ∃ W : Nat → Nat → L2.St → Hp → Prop, (∃ m, W 0 m σ H) ∧ ∀ i m σ H, W i m σ H →
      ((IteT K a).stop i H ∧ D.nx σ H) ∨ ((IteT K a).go i H ∧ ∃ N : L2.St → Hp → Prop, (∀ σ' H', N σ' H' → ∃ m', m' < m ∧ W (i + 1) m' σ' H') ∧
        ∀ v H', (IteT K a).yld i H v H' → g v σ H' fun σ2 H2 => tb { D with nx := N, ct := N, bk := D.nx } σ2 H2) := by
  refine ⟨fun i m σ H => m = xs.length - i ∧ i ≤ xs.length ∧ Pv i σ H,
    ⟨xs.length, rfl, Nat.zero_le _, h0⟩, ?_⟩
  rintro i m σ H ⟨rfl, hi, p⟩
  have qx := hq i σ H p
  by_cases hlt : i < xs.length
  · have hx : xs[i]? = some xs[i] := List.getElem?_eq_getElem hlt
    refine .inr ⟨⟨xs, _, qx, hx⟩, Pv (i + 1),
      fun σ' H' p' => ⟨xs.length - (i + 1), by omega, rfl, hlt, p'⟩, fun v H' y => ?_⟩
    obtain ⟨T, x', rfl, hT, rfl, f1⟩ := y
    exact hs i x' T σ H (f1 xs qx) p hT
  · have e : i = xs.length := by omega
    subst e
    exact .inl ⟨⟨xs, qx, rfl⟩, hd σ H p⟩
/-! zip of a tuple and a list, as long -/
def ItzX (K : PySem.W.Frag) (a b : Addr) : It :=
  ⟨fun i H => ∃ (xs ys : List V) (x y : V), SqT K H a xs ∧ SqL K H b ys ∧ xs[i]? = some x ∧ ys[i]? = some y,
   fun i H v H' => ∃ T x y, v = .ref T ∧ H T = none ∧ H' = upd H T (.tup [x, y]) ∧
     (∀ xs, SqT K H a xs → xs[i]? = some x) ∧ ∀ ys, SqL K H b ys → ys[i]? = some y,
   fun i H => ∃ xs ys : List V, SqT K H a xs ∧ SqL K H b ys ∧ xs.length = i ∧ ys.length = i⟩
theorem turn_zipX {P : Program} {w : World} {K : PySem.W.Frag} {elts : List Expr} {kk : Nat} {tpos : Pos} {a b z TI TO i1 i2 : Addr}
    (S : ZipSep2 z TI TO i1 i2 [i1, a] [i2, b]) (ha1 : a ≠ i1) (hb2 : b ≠ i2) :
    Turn P w K (.Tuple elts kk tpos) (ItzX K a b) [z, TI, TO, i1, i2] z
      (fun i h => IsZip h z TI TO .none ∧ IsTupOf2 h TI (.ref i1) (.ref i2) ∧ (∃ x y, IsTupOf2 h TO x y) ∧
        h.IsTupleIter i1 a i ∧ h.IsListIter i2 b i) where
  mem := by simp
  obj := fun i h st c hc => by
    obtain ⟨hz, hTI, ⟨x, y, hTO⟩, ⟨o1, e1, _, d1⟩, ⟨o2, e2, _, d2⟩⟩ := st
    have e' : c = z ∨ c = TI ∨ c = TO ∨ c = i1 ∨ c = i2 := by simpa using hc
    rcases e' with rfl | rfl | rfl | rfl | rfl
    · exact ⟨_, hz, fun v q => nomatch q⟩
    · exact ⟨_, hTI, fun v q => nomatch q⟩
    · exact ⟨_, hTO, fun v q => nomatch q⟩
    · exact ⟨o1, e1, fun v q => by
        rw [d1] at q
        cases q⟩
    · exact ⟨o2, e2, fun v q => by
        rw [d2] at q
        cases q⟩
  keep := fun i h h' st k => by
    obtain ⟨hz, hTI, ⟨x, y, hTO⟩, h1, h2⟩ := st
    exact ⟨k z (by simp) _ hz, k TI (by simp) _ hTI,
      ⟨x, y, k TO (by simp) _ hTO⟩,
      h1.at fun o q => k i1 (by simp) o q,
      h2.at fun o q => k i2 (by simp) o q⟩
  item := by
    intro X hP hw hK hc i pins s σ H E I hf st hg
    subst hP hw hK
    obtain ⟨hz, hTI, ⟨x0, y0, hTO⟩, h1, h2⟩ := st
    obtain ⟨xs, ys, x, y, hqx, hqy, hx, hy⟩ := hg
    obtain ⟨its, rv, p, _⟩ := I.tuple hqx
    obtain ⟨its2, rv2, p2, _⟩ := I.list hqy
    obtain ⟨u, hu, ru⟩ := rv.get hx
    obtain ⟨u2, hu2, ru2⟩ := rv2.get hy
    have ltz : z < s.heap.objs.size := Heap.lt_size hz
    have D1 := Draws.tuple (prog := X.prog) (w := X.w) (A := X.A.in1)
      (I.ok.hd hc) i1 a ha1 its.toArray
    have D2 := Draws.list (prog := X.prog) (w := X.w) (A := X.A.in1)
      (I.ok.hd hc) i2 b hb2 its2.toArray
    have lx : i < its.toArray.size := by
      have := (List.getElem?_eq_some_iff.mp hu).1
      simpa using this
    have ly : i < its2.toArray.size := by
      have := (List.getElem?_eq_some_iff.mp hu2).1
      simpa using this
    refine wpAny_pyNext_zipD2_item S D1 D2 hz hTI hTO
      ⟨h1, (show s.heap.IsTuple a its.toArray from p)⟩ ⟨h2, p2.isList⟩ lx ly
      fun v1 v2 h' tk hv1 hv2 z' TO' st1 st2 hT hsz hk => ?_
    have e1 : v1 = u := by
      have g1 : its.toArray[i]? = some v1 := hv1
      have g2 : its.toArray[i]? = some u := by simpa using hu
      rw [g1] at g2
      exact Option.some.inj g2
    have e2 : v2 = u2 := by
      have g1 : its2.toArray[i]? = some v2 := hv2
      have g2 : its2.toArray[i]? = some u2 := by simpa using hu2
      rw [g1] at g2
      exact Option.some.inj g2
    subst e1 e2
    refine ⟨_, rfl, wpAny_letOwnedTupleGo_zip (s := { s with heap := h', toks := tk })
      z' fun h'' z'' sb => ?_⟩
    have hT2 : h''.get? s.heap.objs.size = some { cls := .type "tuple", data := .seq #[v1, v2] } :=
      (sb.2 _ (Nat.ne_of_gt ltz)).trans hT
    have new : ObjOk X.prog X.w (upd H s.heap.objs.size (.tup [x, y])) h''
        s.heap.objs.size (.tup [x, y]) :=
      ⟨by show 2 ≤ sizeLine; decide, [v1, v2],
        .cons ru (.cons ru2 .nil), ⟨_, hT2, rfl, _, rfl⟩⟩
    have I1 : Inv X pins σ (upd H s.heap.objs.size (.tup [x, y]))
        { s with heap := h'', toks := tk } :=
      I.turnedNew (ch := [z, TI, TO, i1, i2]) (fun c o hb q =>
        (sb.2 c (fun q' => hb (by simp [q']))).trans
          (hk c o (fun q' => hb (by simp [q'])) (fun q' => hb (by simp [q']))
            (fun q' => hb (by simp [q'])) (fun q' => hb (by simp [q'])) q))
        hf (Nat.le_refl _) new
    refine ⟨.ref s.heap.objs.size, _, I1, rfl, ⟨_, x, y, rfl,
      I.hok.fresh (Nat.le_refl _), rfl, fun l hl => ?_, fun l hl => ?_⟩,
      ⟨z'', ?_, ⟨v1, v2, ?_⟩, ?_, ?_⟩, fun c hcm => ?_⟩
    · rw [I.tuple_inj hl hqx]
      exact hx
    · rw [I.list_inj hl hqy]
      exact hy
    · exact (sb.2 _ S.TIz).trans
        (hk _ _ S.TIz S.TITO S.TIi1 S.TIi2 hTI)
    · exact (sb.2 _ S.TOz).trans TO'
    · exact st1.1.at fun o q => (sb.2 _ S.zi1.symm).trans q
    · exact st2.1.at fun o q => (sb.2 _ S.zi2.symm).trans q
    · have hlt : c < s.heap.objs.size := by
        have e' : c = z ∨ c = TI ∨ c = TO ∨ c = i1 ∨ c = i2 := by simpa using hcm
        rcases e' with q | q | q | q | q
        · rw [q]
          exact ltz
        · rw [q]
          exact Heap.lt_size hTI
        · rw [q]
          exact Heap.lt_size hTO
        · rw [q]
          obtain ⟨_, e1, _⟩ := h1
          exact Heap.lt_size e1
        · rw [q]
          obtain ⟨_, e1, _⟩ := h2
          exact Heap.lt_size e1
      rw [upd_ne (Nat.ne_of_lt hlt)]
      exact (hf c hcm).1
  done := by
    intro X hP hw hK hc i pins s σ H E I hf st hg
    subst hP hw hK
    obtain ⟨hz, hTI, ⟨x0, y0, hTO⟩, h1, h2⟩ := st
    obtain ⟨xs, ys, hqx, hqy, el1, el2⟩ := hg
    obtain ⟨its, rv, p, _⟩ := I.tuple hqx
    obtain ⟨its2, rv2, p2, _⟩ := I.list hqy
    have l1 := rv.length
    have l2 := rv2.length
    have D1 := Draws.tuple (prog := X.prog) (w := X.w) (A := X.A.in1)
      (I.ok.hd hc) i1 a ha1 its.toArray
    have D2 := Draws.list (prog := X.prog) (w := X.w) (A := X.A.in1)
      (I.ok.hd hc) i2 b hb2 its2.toArray
    have s1 : its.toArray.size = i := by
      simp
      omega
    have s2 : its2.toArray.size = i := by
      simp
      omega
    refine wpAny_pyNext_zipD2_end S D1 D2 hz hTI hTO (i := i)
      ⟨h1, (show s.heap.IsTuple a its.toArray from p)⟩ ⟨h2, p2.isList⟩
      (by omega) (by omega) (by omega) fun h' tk hk => ⟨rfl, ?_⟩
    exact I.turnedL (t' := tk) (ch := [z, TI, TO, i1, i2]) (fun c o hb q =>
      hk c o (fun q' => hb (by simp [q'])) (fun q' => hb (by simp [q']))
        (fun q' => hb (by simp [q'])) (fun q' => hb (by simp [q'])) q) hf
  self := fun A i s Q E st h => wpAny_pyIter_zip st.1 h
def iZipX (K : PySem.W.Frag) (ta : TA) : TI := fun σ H R => ta σ H fun vs H1 => ∃ a b xs ys, vs = [.ref a, .ref b] ∧
  ((SqT K H1 a xs ∧ SqL K H1 b ys ∧ R (ItzX K a b) H1) ∨ (SqT K H1 a xs ∧ SqT K H1 b ys ∧ R (RZ.ItzT K a b) H1))
theorem fresh_all {X : Cx} {pins : List (Addr × Obj)} {σ : L2.St} {H : Hp} {s : Shared} (I : Inv X pins σ H s) {fp : List Addr} (h : ∀ c ∈ fp, s.heap.objs.size ≤ c) :
    ∀ c ∈ fp, FpOk X pins H c :=
  fun c hc => I.fpOk (h c hc) (I.hok.fresh (h c hc))
theorem five_up (N : Nat) : ∀ c ∈ [N + 4, N + 2, N + 3, N, N + 1], N ≤ c := fun c hc => by
  have e : c = N + 4 ∨ c = N + 2 ∨ c = N + 3 ∨ c = N ∨ c = N + 1 := by simpa using hc
  rcases e with z | z | z | z | z <;> (rw [z]; omega)
theorem pi_zipX {X : Cx} {e e2 : Expr} {ta : TA} {p pos tpos : Pos} {elts : List Expr} {kk : Nat} (hg : Gl X "zip") (hm : X.mg "zip" = none) (ha : PA X [e, e2] ta)
    (hs : starEach [e, e2] X.env = (false, eval e X.env) :: starEach [e2] X.env := by rfl)
    (hpl : (backTo pos (starEach [e2] X.env)).any (·.1) = false := by rfl) :
    PI X (.Tuple elts kk tpos) (.Call (.Name "zip" p) [e, e2] [] pos) (iZipX X.K ta) := by
  refine ⟨fun pins s σ H R I h => ?_⟩
  refine Call_ (ld_blt I hg hm PyProof.Rows.boot_zip (PyProof.Rows.callWith_type1
    (thn (ha.run pos pins s σ H _ I h) fun us s1 ⟨vs, H1, I1, r1, q1⟩ => ?_) hs hpl))
  obtain ⟨a, b, xs, ys, ex, q1⟩ := q1
  subst ex
  obtain ⟨u1, u2, rfl, ra, rb⟩ := vals2 r1
  cases ra
  cases rb
  rcases q1 with ⟨hqx, hqy, q⟩ | ⟨hqx, hqy, q⟩
  · obtain ⟨its, rv, p1, _⟩ := I1.tuple hqx
    obtain ⟨its2, rv2, p2, _⟩ := I1.list hqy
    have la : a < s1.heap.objs.size := p1.lt
    have lb : b < s1.heap.objs.size := p2.lt
    refine zip_begins2 (begins_tuple a its.toArray) (begins_list b its2.toArray)
      (show s1.heap.IsTuple a its.toArray from p1) p2.isList
      fun h' hz hTI hTO h1 h2 hsz hk => wpAny_pyIter_zip hz ?_
    have I2 : Inv X pins σ H1 { s1 with heap := h' } := I1.kept (t' := s1.toks) hk
    refine ⟨s1.heap.objs.size + 4, [s1.heap.objs.size + 4, s1.heap.objs.size + 2, s1.heap.objs.size + 3, s1.heap.objs.size, s1.heap.objs.size + 1], _, _, H1, rfl, I2,
      turn_zipX (zip_sep2 (fp1 := [a]) (fp2 := [b]) (by simpa using la) (by simpa using lb)) (Nat.ne_of_lt la) (Nat.ne_of_lt (Nat.lt_succ_of_lt lb)),
      ⟨hz, hTI, ⟨_, _, hTO⟩, ⟨_, h1, rfl, rfl⟩, ⟨_, h2, rfl, rfl⟩⟩,
      fresh_all I1 (five_up _), q⟩
  · obtain ⟨its, rv, p1, _⟩ := I1.tuple hqx
    obtain ⟨its2, rv2, p2, _⟩ := I1.tuple hqy
    refine RZ.call_zipT (show s1.heap.IsTuple a its.toArray from p1)
      (show s1.heap.IsTuple b its2.toArray from p2)
      fun h' hz hTI hTO h1 h2 hsz hk => wpAny_pyIter_zip hz ?_
    have I2 : Inv X pins σ H1 { s1 with heap := h' } := I1.kept (t' := s1.toks) hk
    exact ⟨s1.heap.objs.size + 4, [s1.heap.objs.size + 4, s1.heap.objs.size + 2, s1.heap.objs.size + 3, s1.heap.objs.size, s1.heap.objs.size + 1], _, _, H1, rfl, I2,
      RZ.turn_zipT (PySem.W.ktu_apart s1.heap.objs.size a b p1.lt p2.lt),
      ⟨hz, hTI, ⟨_, _, hTO⟩, h1, h2⟩, fresh_all I1 (five_up _), q⟩
/-- a loop over zip of a tuple and a list, as long -/
theorem for_zipX {K : PySem.W.Frag} {a b : Addr} {xs ys : List V} {g : TG} {tb : TS} {D : Ends} {σ : L2.St} {H : Hp} (hl : xs.length = ys.length) (Pv : Nat → L2.St → Hp → Prop) (h0 : Pv 0 σ H)
    (hq : ∀ i σ H, Pv i σ H → SqT K H a xs ∧ SqL K H b ys)
    (hs : ∀ (i : Nat) (x y : V) (T : Addr) (σ : L2.St) (H : Hp), xs[i]? = some x → ys[i]? = some y → Pv i σ H → H T = none →
      g (.ref T) σ (upd H T (.tup [x, y])) fun σ2 H2 => tb { D with nx := Pv (i + 1), ct := Pv (i + 1), bk := D.nx } σ2 H2)
    (hd : ∀ σ H, Pv xs.length σ H → D.nx σ H) :
    ∃ W : Nat → Nat → L2.St → Hp → Prop, (∃ m, W 0 m σ H) ∧ ∀ i m σ H, W i m σ H →
      ((ItzX K a b).stop i H ∧ D.nx σ H) ∨ ((ItzX K a b).go i H ∧ ∃ N : L2.St → Hp → Prop, (∀ σ' H', N σ' H' → ∃ m', m' < m ∧ W (i + 1) m' σ' H') ∧
        ∀ v H', (ItzX K a b).yld i H v H' → g v σ H' fun σ2 H2 => tb { D with nx := N, ct := N, bk := D.nx } σ2 H2) := by
  refine ⟨fun i m σ H => m = xs.length - i ∧ i ≤ xs.length ∧ Pv i σ H,
    ⟨xs.length, rfl, Nat.zero_le _, h0⟩, ?_⟩
  rintro i m σ H ⟨rfl, hi, p⟩
  obtain ⟨qx, qy⟩ := hq i σ H p
  by_cases hlt : i < xs.length
  · have hx : xs[i]? = some xs[i] := List.getElem?_eq_getElem hlt
    have hlt2 : i < ys.length := by omega
    have hy : ys[i]? = some ys[i] := List.getElem?_eq_getElem hlt2
    refine .inr ⟨⟨xs, ys, _, _, qx, qy, hx, hy⟩, Pv (i + 1),
      fun σ' H' p' => ⟨xs.length - (i + 1), by omega, rfl, hlt, p'⟩, fun v H' y => ?_⟩
    obtain ⟨T, x', y', rfl, hT, rfl, f1, f2⟩ := y
    exact hs i x' y' T σ H (f1 xs qx) (f2 ys qy) p hT
  · have e : i = xs.length := by omega
    subst e
    exact .inl ⟨⟨xs, ys, qx, qy, rfl, hl.symm⟩, hd σ H p⟩
end My

namespace My
open PySem PySem.Spec PyProof.Rows L2
theorem PI.or {X : Cx} {tg it : Expr} {u v : TI} (a : PI X tg it u) (b : PI X tg it v) : PI X tg it (fun σ H R => u σ H R ∨ v σ H R) :=
  ⟨fun pins s σ H R I h => h.elim (a.run pins s σ H R I) (b.run pins s σ H R I)⟩
theorem pi_seq {X : Cx} {tg l : Expr} {tl : TE} (hl : PE X l tl) : PI X tg l (fun σ H R => iList X.K tl σ H R ∨ iTup X.K tl σ H R) :=
  PI.or (pi_list hl) (pi_tup hl)
theorem pi_enumS {X : Cx} {e : Expr} {ta : TA} {p pos tpos : Pos} {elts : List Expr} {kk : Nat} (hg : Gl X "enumerate") (hm : X.mg "enumerate" = none)
    (ha : PA X [e] ta) (hs : starEach [e] X.env = [(false, eval e X.env)] := by rfl) :
    PI X (.Tuple elts kk tpos) (.Call (.Name "enumerate" p) [e] [] pos) (fun σ H R => iEnum X.K ta σ H R ∨ iEnumT X.K ta σ H R) :=
  PI.or (pi_enum hg hm ha hs) (pi_enumT hg hm ha hs)
theorem units1 {k : Nat} {A : Around} (r : Room k A) : A.units + 65 < cLine := by
  have := r.un
  omega
section
variable {X : Cx} {CX : CXT} {k : Nat} {f : Addr} {fd : FuncData} {ps ks : List Str} {sp : Sp} {E : XK} {x : Str} {p pos : Pos} {kws : List Keyword} {tk : TA}
  {g : List Value → List Value → List Value} {gV : List V → List V → List V}
/-- f(k = v, ..): keywords alone -/
theorem pe_callK0 (F : FnOk X.prog X.w X.K X.mg X.base CX k f fd ps sp) (hr : Room k X.A) (hg : Gl X x) (hm : X.mg x = some (.ref f)) (hk : PySem.W.keepIn X.K (.ref f) = true)
    (hb : KBinds X.K fd ps ks g gV) (hx : Passes CX X E) (hkw : PK X kws tk)
    (hall : (backToKw pos (keywordEach kws X.env)).all (·.1.isSome) = true := by rfl)
    (hks : (backToKw pos (keywordEach kws X.env)).filterMap (·.1) = ks := by rfl)
    (hdb : (x == ("__debug__" : Str)) = false := by decide)
    (hpl : ((backTo pos (starEach [] X.env)).any (·.1) || (backToKw pos (keywordEach kws X.env)).any (·.1.isNone)) = false := by rfl) :
    PE X (.Call (.Name x p) [] kws pos) (tCallK sp gV E tNil tk) := by
  refine ⟨fun pins s σ H Q I h => ?_⟩
  refine wpAny_Call_Name_kw (ld_glob I hg hm ?_ hdb)
  refine PySem.W.callWith_KW0 (h₀ := X.base) I.ok.mod.kin hk hall ?_ hpl
  refine thn (hkw.run pos pins s σ H _ I h) fun ws s2 ⟨zs, H2, I2, rz, q2⟩ =>
    ⟨I2.kIn, ?_⟩
  rw [hks]
  exact run_fnk (us := []) (vs := []) F hr hb hx I2 .nil rz q2
end
/-! the text by places -/
def topS (i : Nat) : Stmt := PySem.Challenge.pw_fromsize_k07_whole_no_earlier_wiring_lea.main.body.getD i (.Pass ⟨0, 0, 0, 0⟩)
abbrev s_is_integer : Stmt := topS 5
theorem sc_is_integer : FnScope ["value"] ["value"] (defScope s_is_integer) :=
  ⟨rfl, rfl, rfl, by decide +kernel, rfl, by decide +kernel, by decide +kernel⟩
abbrev s_is_list : Stmt := topS 6
theorem sc_is_list : FnScope ["value"] ["value"] (defScope s_is_list) :=
  ⟨rfl, rfl, rfl, by decide +kernel, rfl, by decide +kernel, by decide +kernel⟩
abbrev s_is_numbers : Stmt := topS 7
theorem sc_is_numbers : FnScope ["value", "one"] ["value"] (defScope s_is_numbers) :=
  ⟨rfl, rfl, rfl, by decide +kernel, rfl, by decide +kernel, by decide +kernel⟩
abbrev s_is_setting : Stmt := topS 8
theorem sc_is_setting : FnScope ["value", "many", "one"] ["value", "many"] (defScope s_is_setting) :=
  ⟨rfl, rfl, rfl, by decide +kernel, rfl, by decide +kernel, by decide +kernel⟩
abbrev s_is_wiring : Stmt := topS 11
theorem sc_is_wiring : FnScope ["value"] ["value"] (defScope s_is_wiring) :=
  ⟨rfl, rfl, rfl, by decide +kernel, rfl, by decide +kernel, by decide +kernel⟩
abbrev s_led : Stmt := topS 12
theorem sc_led : FnScope ["row", "setting", "wiring"] ["row", "setting"] (defScope s_led) :=
  ⟨rfl, rfl, rfl, by decide +kernel, rfl, by decide +kernel, by decide +kernel⟩
abbrev s_need_wiring : Stmt := topS 13
theorem sc_need_wiring : FnScope ["value", "part"] ["value", "part"] (defScope s_need_wiring) :=
  ⟨rfl, rfl, rfl, by decide +kernel, rfl, by decide +kernel, by decide +kernel⟩
abbrev s_led_to : Stmt := topS 14
theorem sc_led_to : FnScope ["row", "setting", "bottoms", "bottom", "number"] ["row", "setting"] (defScope s_led_to) :=
  ⟨rfl, rfl, rfl, by decide +kernel, rfl, by decide +kernel, by decide +kernel⟩
abbrev s_settings_of : Stmt := topS 16
theorem sc_settings_of : FnScope ["row"] ["row"] (defScope s_settings_of) :=
  ⟨rfl, rfl, rfl, by decide +kernel, rfl, by decide +kernel, by decide +kernel⟩
abbrev s_colours_of : Stmt := topS 17
theorem sc_colours_of : FnScope ["row", "found", "top", "bottom", "ahead", "other"] ["row"] (defScope s_colours_of) :=
  ⟨rfl, rfl, rfl, by decide +kernel, rfl, by decide +kernel, by decide +kernel⟩
abbrev s_both_settings : Stmt := topS 18
theorem sc_both_settings : FnScope ["row", "told"] ["row"] (defScope s_both_settings) :=
  ⟨rfl, rfl, rfl, by decide +kernel, rfl, by decide +kernel, by decide +kernel⟩
abbrev s_l_can : Stmt := topS 20
theorem sc_l_can : FnScope ["_law_script", "_law_cell"] ["_law_script"] (defScope s_l_can) :=
  ⟨rfl, rfl, rfl, by decide +kernel, rfl, by decide +kernel, by decide +kernel⟩
abbrev s_l_tip : Stmt := topS 21
theorem sc_l_tip : FnScope ["_law_can_here", "_law_many", "_law_held", "_law_turn", "_law_cell", "_law_mixed"] ["_law_can_here", "_law_many"] (defScope s_l_tip) :=
  ⟨rfl, rfl, rfl, by decide +kernel, rfl, by decide +kernel, by decide +kernel⟩
abbrev s_l_row : Stmt := topS 22
theorem sc_l_row : FnScope ["_law_can_here", "_law_wires", "_law_left", "_law_found", "_law_top"] ["_law_can_here", "_law_wires"] (defScope s_l_row) :=
  ⟨rfl, rfl, rfl, by decide +kernel, rfl, by decide +kernel, by decide +kernel⟩
abbrev s_l_all : Stmt := topS 23
theorem sc_l_all : FnScope ["_law_wires", "_law_found", "_law_top", "_law_longer", "_law_row_here", "_law_bottom"] ["_law_wires"] (defScope s_l_all) :=
  ⟨rfl, rfl, rfl, by decide +kernel, rfl, by decide +kernel, by decide +kernel⟩
abbrev s_l_does_lead : Stmt := topS 24
theorem sc_l_does_lead : FnScope ["_law_row_here", "_law_tops", "_law_bottoms", "_law_top"] ["_law_row_here", "_law_tops", "_law_bottoms"] (defScope s_l_does_lead) :=
  ⟨rfl, rfl, rfl, by decide +kernel, rfl, by decide +kernel, by decide +kernel⟩
abbrev s_l_orders : Stmt := topS 25
theorem sc_l_orders : FnScope ["_law_setting", "_law_found", "_law_at", "_law_number", "_law_ahead"] ["_law_setting"] (defScope s_l_orders) :=
  ⟨rfl, rfl, rfl, by decide +kernel, rfl, by decide +kernel, by decide +kernel⟩
abbrev s_l_row_right : Stmt := topS 26
theorem sc_l_row_right : FnScope ["_law_can_here", "_law_wires", "_law_rows", "_law_row_here", "_law_pair", "_law_tops", "_law_bottoms", "_law_leaders", "_law_some", "_law_each"] ["_law_can_here", "_law_wires", "_law_rows"] (defScope s_l_row_right) :=
  ⟨rfl, rfl, rfl, by decide +kernel, rfl, by decide +kernel, by decide +kernel⟩
abbrev s_l_setting_right : Stmt := topS 27
theorem sc_l_setting_right : FnScope ["_law_can_here", "_law_wires", "_law_rows", "_law_row_here", "_law_wide", "_law_tops", "_law_bottoms", "_law_leaders", "_law_top", "_law_each"] ["_law_can_here", "_law_wires", "_law_rows"] (defScope s_l_setting_right) :=
  ⟨rfl, rfl, rfl, by decide +kernel, rfl, by decide +kernel, by decide +kernel⟩
abbrev s_law : Stmt := topS 28
theorem sc_law : FnScope ["_law_script", "_law_can_here", "_law_lap", "_law_wires", "_law_rows"] ["_law_script"] (defScope s_law) :=
  ⟨rfl, rfl, rfl, by decide +kernel, rfl, by decide +kernel, by decide +kernel⟩
structure Txt (K : PySem.W.Frag) (mg : Str → Option Value) where
  a_is_integer : Addr
  fd_is_integer : FuncData
  F_is_integer : Fun K "is_integer" "is_integer" s_is_integer a_is_integer fd_is_integer
  g_is_integer : mg "is_integer" = some (.ref a_is_integer)
  b_is_integer : Binds K fd_is_integer ["value"] []
  a_is_list : Addr
  fd_is_list : FuncData
  F_is_list : Fun K "is_list" "is_list" s_is_list a_is_list fd_is_list
  g_is_list : mg "is_list" = some (.ref a_is_list)
  b_is_list : Binds K fd_is_list ["value"] []
  a_is_numbers : Addr
  fd_is_numbers : FuncData
  F_is_numbers : Fun K "is_numbers" "is_numbers" s_is_numbers a_is_numbers fd_is_numbers
  g_is_numbers : mg "is_numbers" = some (.ref a_is_numbers)
  b_is_numbers : Binds K fd_is_numbers ["value"] []
  a_is_setting : Addr
  fd_is_setting : FuncData
  F_is_setting : Fun K "is_setting" "is_setting" s_is_setting a_is_setting fd_is_setting
  g_is_setting : mg "is_setting" = some (.ref a_is_setting)
  b_is_setting : Binds K fd_is_setting ["value", "many"] []
  a_is_wiring : Addr
  fd_is_wiring : FuncData
  F_is_wiring : Fun K "is_wiring" "is_wiring" s_is_wiring a_is_wiring fd_is_wiring
  g_is_wiring : mg "is_wiring" = some (.ref a_is_wiring)
  b_is_wiring : Binds K fd_is_wiring ["value"] []
  a_led : Addr
  fd_led : FuncData
  F_led : Fun K "led" "led" s_led a_led fd_led
  g_led : mg "led" = some (.ref a_led)
  b_led : Binds K fd_led ["row", "setting"] []
  a_need_wiring : Addr
  fd_need_wiring : FuncData
  F_need_wiring : Fun K "need_wiring" "need_wiring" s_need_wiring a_need_wiring fd_need_wiring
  g_need_wiring : mg "need_wiring" = some (.ref a_need_wiring)
  b_need_wiring : Binds K fd_need_wiring ["value", "part"] []
  a_led_to : Addr
  fd_led_to : FuncData
  F_led_to : Fun K "led_to" "led_to" s_led_to a_led_to fd_led_to
  g_led_to : mg "led_to" = some (.ref a_led_to)
  b_led_to : Binds K fd_led_to ["row", "setting"] []
  a_settings_of : Addr
  fd_settings_of : FuncData
  F_settings_of : Fun K "settings_of" "settings_of" s_settings_of a_settings_of fd_settings_of
  g_settings_of : mg "settings_of" = some (.ref a_settings_of)
  b_settings_of : Binds K fd_settings_of ["row"] []
  a_colours_of : Addr
  fd_colours_of : FuncData
  F_colours_of : Fun K "colours_of" "colours_of" s_colours_of a_colours_of fd_colours_of
  g_colours_of : mg "colours_of" = some (.ref a_colours_of)
  b_colours_of : Binds K fd_colours_of ["row"] []
  a_both_settings : Addr
  fd_both_settings : FuncData
  F_both_settings : Fun K "both_settings" "both_settings" s_both_settings a_both_settings fd_both_settings
  g_both_settings : mg "both_settings" = some (.ref a_both_settings)
  b_both_settings : Binds K fd_both_settings ["row"] []
  a_l_can : Addr
  fd_l_can : FuncData
  F_l_can : Fun K "_law_can" "_law_can" s_l_can a_l_can fd_l_can
  g_l_can : mg "_law_can" = some (.ref a_l_can)
  b_l_can : Binds K fd_l_can ["_law_script"] []
  a_l_tip : Addr
  fd_l_tip : FuncData
  F_l_tip : Fun K "_law_tip" "_law_tip" s_l_tip a_l_tip fd_l_tip
  g_l_tip : mg "_law_tip" = some (.ref a_l_tip)
  b_l_tip : Binds K fd_l_tip ["_law_can_here", "_law_many"] []
  a_l_row : Addr
  fd_l_row : FuncData
  F_l_row : Fun K "_law_row" "_law_row" s_l_row a_l_row fd_l_row
  g_l_row : mg "_law_row" = some (.ref a_l_row)
  b_l_row : Binds K fd_l_row ["_law_can_here", "_law_wires"] []
  a_l_all : Addr
  fd_l_all : FuncData
  F_l_all : Fun K "_law_all" "_law_all" s_l_all a_l_all fd_l_all
  g_l_all : mg "_law_all" = some (.ref a_l_all)
  b_l_all : Binds K fd_l_all ["_law_wires"] []
  a_l_does_lead : Addr
  fd_l_does_lead : FuncData
  F_l_does_lead : Fun K "_law_does_lead" "_law_does_lead" s_l_does_lead a_l_does_lead fd_l_does_lead
  g_l_does_lead : mg "_law_does_lead" = some (.ref a_l_does_lead)
  b_l_does_lead : Binds K fd_l_does_lead ["_law_row_here", "_law_tops", "_law_bottoms"] []
  a_l_orders : Addr
  fd_l_orders : FuncData
  F_l_orders : Fun K "_law_orders" "_law_orders" s_l_orders a_l_orders fd_l_orders
  g_l_orders : mg "_law_orders" = some (.ref a_l_orders)
  b_l_orders : Binds K fd_l_orders ["_law_setting"] []
  a_l_row_right : Addr
  fd_l_row_right : FuncData
  F_l_row_right : Fun K "_law_row_right" "_law_row_right" s_l_row_right a_l_row_right fd_l_row_right
  g_l_row_right : mg "_law_row_right" = some (.ref a_l_row_right)
  b_l_row_right : Binds K fd_l_row_right ["_law_can_here", "_law_wires", "_law_rows"] []
  a_l_setting_right : Addr
  fd_l_setting_right : FuncData
  F_l_setting_right : Fun K "_law_setting_right" "_law_setting_right" s_l_setting_right a_l_setting_right fd_l_setting_right
  g_l_setting_right : mg "_law_setting_right" = some (.ref a_l_setting_right)
  b_l_setting_right : Binds K fd_l_setting_right ["_law_can_here", "_law_wires", "_law_rows"] []
  a_law : Addr
  fd_law : FuncData
  F_law : Fun K "law" "law" s_law a_law fd_law
  g_law : mg "law" = some (.ref a_law)
  b_law : Binds K fd_law ["_law_script"] []
  t_MOST : Tok
  c_MOST_WIRES : mg "MOST_WIRES" = some (.int 6 t_MOST)
  k_settings_of : KBinds K fd_settings_of ["row"] ["row"] (fun us ws => us ++ ws) (fun vs zs => vs ++ zs)
  z_isinstance : mg "isinstance" = none
  z_int : mg "int" = none
  z_type : mg "type" = none
  z_bool : mg "bool" = none
  z_list : mg "list" = none
  z_tuple : mg "tuple" = none
  z_all : mg "all" = none
  z_len : mg "len" = none
  z_sorted : mg "sorted" = none
  z_range : mg "range" = none
  z_zip : mg "zip" = none
  z_enumerate : mg "enumerate" = none
  z_max : mg "max" = none
  z_abs : mg "abs" = none
/-! data -/
def zz (r : List Nat) : List Int := r.map (fun n : Nat => (n : Int))
abbrev vN (r : List Nat) : List V := (zz r).map V.int
/-- a list or a tuple, tracked -/
def SqV (H : Hp) (a : Addr) (xs : List V) : Prop := H a = some (.lst xs) ∨ H a = some (.tup xs)
theorem SqV.mono {H H' : Hp} {a : Addr} {xs : List V} (s : Same H H') (h : SqV H a xs) : SqV H' a xs := h.imp (s _ _) (s _ _)
theorem same_new {H : Hp} {p : Addr} {o : HO} (h : H p = none) : Same H (upd H p o) := fun b x e => by
  rw [upd_ne (ne_of_none e h)]
  exact e
theorem seqT {K : PySem.W.Frag} {H : Hp} {a : Addr} {xs : List V} (h : H a = some (.tup xs)) : SqT K H a xs := .inl (.inl h)
theorem seqL {K : PySem.W.Frag} {H : Hp} {a : Addr} {xs : List V} (h : H a = some (.lst xs)) : SqL K H a xs := .inl (.inl h)
theorem SqV.or {K : PySem.W.Frag} {H : Hp} {a : Addr} {xs : List V} (h : SqV H a xs) : SqL K H a xs ∨ SqT K H a xs := h.imp seqL seqT
theorem zz_len (r : List Nat) : (zz r).length = r.length := by
  unfold zz
  rw [List.length_map]
theorem vN_len (r : List Nat) : (vN r).length = r.length := by
  rw [List.length_map, zz_len]
theorem vN_get {r : List Nat} {i n : Nat} (h : r[i]? = some n) : (vN r)[i]? = some (.int (n : Int)) := by
  unfold vN zz
  rw [List.getElem?_map, List.getElem?_map, h]
  rfl
theorem vN_some {r : List Nat} {i : Nat} {x : V} (h : (vN r)[i]? = some x) : ∃ n, r[i]? = some n ∧ x = .int (n : Int) := by
  unfold vN zz at h
  rw [List.getElem?_map, List.getElem?_map] at h
  cases e : r[i]? with
  | none =>
    rw [e] at h
    cases h
  | some n =>
    rw [e] at h
    exact ⟨n, rfl, (Option.some.inj h).symm⟩
theorem rg_vN (n : Nat) : rgV 0 (n : Int) = vN (List.range n) := by
  unfold rgV vN zz
  rw [List.map_map, show ((n : Int) - 0).toNat = n by omega]
  refine List.map_congr_left fun i _ => ?_
  show V.int (0 + (i : Int)) = V.int (i : Int)
  rw [Int.zero_add]
/-- deep data of ints in a list or tuple -/
theorem dp_ints {K : PySem.W.Frag} {H : Hp} : ∀ ns : List Int, DpAll K H (ns.map V.int) (ns.map PyData.int)
  | [] => .nil
  | n :: ns => .cons (.int n) (dp_ints ns)
theorem can_ints : ∀ ns : List Int, PyData.canLayAll0 (ns.map PyData.int) = true
  | [] => rfl
  | n :: ns => by
    show (PyData.canLay0 (.int n) && PyData.canLayAll0 (ns.map PyData.int)) = true
    rw [can_ints ns]
    rfl
theorem shaped_tup (ns : List Int) : SeqAt.shaped (.tuple (ns.map PyData.int)) = true := by
  have h := depth_ints ns
  show (PyData.canLayAll0 (ns.map PyData.int) && decide (PyData.depthAll (ns.map PyData.int) + 1 ≤ 64)) = true
  rw [can_ints, decide_eq_true (by omega)]
  rfl
theorem shaped_lst (ns : List Int) : SeqAt.shaped (.list (ns.map PyData.int)) = true := by
  have h := depth_ints ns
  show (PyData.canLayAll0 (ns.map PyData.int) && decide (PyData.depthAll (ns.map PyData.int) + 1 ≤ 64)) = true
  rw [can_ints, decide_eq_true (by omega)]
  rfl
theorem eqv_ints : ∀ ns ms : List Int, PyData.eqvAll (ns.map PyData.int) (ms.map PyData.int) = decide (ns = ms)
  | [], [] => by
    rw [decide_eq_true rfl]
    rfl
  | [], m :: ms => by
    rw [decide_eq_false (fun h => nomatch h)]
    rfl
  | n :: ns, [] => by
    rw [decide_eq_false (fun h => nomatch h)]
    rfl
  | n :: ns, m :: ms => by
    show ((n == m) && PyData.eqvAll (ns.map PyData.int) (ms.map PyData.int)) = _
    rw [eqv_ints ns ms]
    by_cases e : n = m
    · subst e
      by_cases e2 : ns = ms
      · subst e2
        simp
      · simp [e2]
    · simp [e]
/-- what stood stands, but for what stands at q -/
def Mv (q : Addr) (H H' : Hp) : Prop := ∀ b o, b ≠ q → H b = some o → H' b = some o
theorem Same.mv {q : Addr} {H H' : Hp} (s : Same H H') : Mv q H H' := fun b o _ h => s b o h
theorem Mv.trans {q : Addr} {H H1 H2 : Hp} (a : Mv q H H1) (b : Mv q H1 H2) : Mv q H H2 := fun c o n h => b c o n (a c o n h)
/-! comprehensions whose tests and items change nothing that stood -/
section
variable {K : PySem.W.Frag} {g : TG} {tt : TT} {te : TE} {vs : List Nat} {σ : L2.St} {H1 : Hp} {Q : VK}
theorem keepD {H1 H H4 : Hp} {D : Addr} {xs ys : List V} (nD : H1 D = none) (s : Same H1 H) (s4 : Same H H4) : Same H1 (upd H4 D (.lst ys)) := fun b o e => by
  have nb : b ≠ D := ne_of_none e nD
  rw [upd_ne nb]
  exact s4 _ _ (s _ _ e)
theorem lcr {ta : TA} {H0 : Hp} {n : Nat} (hta : ∀ R : List V → Hp → Prop, R [.int (n : Int)] H1 → ta σ H0 R) (hn : n ≤ 100000) (outs : Nat → List V) (h0 : outs 0 = []) (hz : ∀ i, i ≤ n → (outs i).length < sizeLine)
    (turn : ∀ (i : Nat) (H : Hp) (Kt : V → Hp → Prop) (Kf : Hp → Prop), i < n → Same H1 H →
      (∀ y H4, Same H H4 → outs (i + 1) = outs i ++ [y] → Kt y H4) → (∀ H3, Same H H3 → outs (i + 1) = outs i → Kf H3) →
      g (.int (0 + i)) (wipe σ vs) H fun σ2 H2 => wipe σ2 vs = wipe σ vs ∧ tt σ2 H2 fun b H3 => if b = true then te σ2 H3 fun y H4 => Kt y H4 else Kf H3)
    (hd : ∀ D H, Same H1 H → H1 D = none → H D = some (.lst (outs n)) → Q (.ref D) H) :
    tLc (iRng1 ta) g tt te vs σ H0 Q := by
  refine hta _ ⟨(n : Int), rfl, by omega, by omega, ?_⟩
  rw [Int.toNat_natCast]
  intro D nD
  refine lc_range (lo := 0) (n := n) (fun i H => Same H1 H ∧ H D = some (.lst (outs i)))
    ⟨same_new nD, by rw [upd_same, h0]⟩ (fun i H hi ⟨s, e⟩ => ?_) (fun H ⟨s, e⟩ => hd D H s nD e)
  refine turn i H (fun y H4 => ∃ acc, H4 D = some (.lst acc) ∧ acc.length < sizeLine ∧ (Same H1 (upd H4 D (.lst (acc ++ [y]))) ∧ (upd H4 D (.lst (acc ++ [y]))) D = some (.lst (outs (i + 1)))))
    (fun H3 => Same H1 H3 ∧ H3 D = some (.lst (outs (i + 1)))) hi s (fun y H4 s4 eo => ?_) (fun H3 s3 eo => ?_)
  · exact ⟨outs i, s4 _ _ e, hz i (by omega), keepD (xs := []) nD s s4, by rw [upd_same, eo]⟩
  · exact ⟨s.trans s3, by rw [s3 _ _ e, eo]⟩
theorem lcs {a : Addr} {xs : List V} {tl : TE} (htl : ∀ R : VK, R (.ref a) H1 → tl σ H1 R) (hq : SqV H1 a xs) (outs : Nat → List V) (h0 : outs 0 = []) (hz : ∀ i, i ≤ xs.length → (outs i).length < sizeLine)
    (turn : ∀ (i : Nat) (x : V) (H : Hp) (Kt : V → Hp → Prop) (Kf : Hp → Prop), xs[i]? = some x → Same H1 H →
      (∀ y H4, Same H H4 → outs (i + 1) = outs i ++ [y] → Kt y H4) → (∀ H3, Same H H3 → outs (i + 1) = outs i → Kf H3) →
      g x (wipe σ vs) H fun σ2 H2 => wipe σ2 vs = wipe σ vs ∧ tt σ2 H2 fun b H3 => if b = true then te σ2 H3 fun y H4 => Kt y H4 else Kf H3)
    (hd : ∀ D H, Same H1 H → H1 D = none → H D = some (.lst (outs xs.length)) → Q (.ref D) H) :
    tLc (fun σ H R => iList K tl σ H R ∨ iTup K tl σ H R) g tt te vs σ H1 Q := by
  have step : ∀ (D : Addr) (i : Nat) (x : V) (H : Hp), H1 D = none → xs[i]? = some x → (Same H1 H ∧ H D = some (.lst (outs i))) →
      g x (wipe σ vs) H fun σ2 H2 => wipe σ2 vs = wipe σ vs ∧ tt σ2 H2 fun b H3 =>
        if b = true then te σ2 H3 fun y H4 => ∃ acc, H4 D = some (.lst acc) ∧ acc.length < sizeLine ∧
          (Same H1 (upd H4 D (.lst (acc ++ [y]))) ∧ (upd H4 D (.lst (acc ++ [y]))) D = some (.lst (outs (i + 1))))
        else (Same H1 H3 ∧ H3 D = some (.lst (outs (i + 1)))) := by
    intro D i x H nD hx ⟨s, e⟩
    have li := (List.getElem?_eq_some_iff.mp hx).1
    refine turn i x H _ _ hx s (fun y H4 s4 eo => ?_) (fun H3 s3 eo => ?_)
    · exact ⟨outs i, s4 _ _ e, hz i (by omega), keepD (xs := []) nD s s4, by rw [upd_same, eo]⟩
    · exact ⟨s.trans s3, by rw [s3 _ _ e, eo]⟩
  rcases hq with hq | hq
  · refine .inl (htl _ ⟨a, rfl, ⟨_, seqL hq⟩, fun D nD => ?_⟩)
    exact lc_list (K := K) (a := a) (xs := xs) (fun i H => Same H1 H ∧ H D = some (.lst (outs i)))
      ⟨same_new nD, by rw [upd_same, h0]⟩ (fun i H _ hp => seqL (hp.1 _ _ hq)) (fun i x H hx hp => step D i x H nD hx hp)
      (fun H hp => hd D H hp.1 nD hp.2)
  · refine .inr (htl _ ⟨a, rfl, ⟨_, seqT hq⟩, fun D nD => ?_⟩)
    exact lc_tup (K := K) (a := a) (xs := xs) (fun i H => Same H1 H ∧ H D = some (.lst (outs i)))
      ⟨same_new nD, by rw [upd_same, h0]⟩ (fun i H _ hp => seqT (hp.1 _ _ hq)) (fun i x H hx hp => step D i x H nD hx hp)
      (fun H hp => hd D H hp.1 nD hp.2)
theorem lcl {a : Addr} {xs : List V} {tl : TE} (htl : ∀ R : VK, R (.ref a) H1 → tl σ H1 R) (hq : H1 a = some (.lst xs)) (outs : Nat → List V) (h0 : outs 0 = []) (hz : ∀ i, i ≤ xs.length → (outs i).length < sizeLine)
    (turn : ∀ (i : Nat) (x : V) (H : Hp) (Kt : V → Hp → Prop) (Kf : Hp → Prop), xs[i]? = some x → Same H1 H →
      (∀ y H4, Same H H4 → outs (i + 1) = outs i ++ [y] → Kt y H4) → (∀ H3, Same H H3 → outs (i + 1) = outs i → Kf H3) →
      g x (wipe σ vs) H fun σ2 H2 => wipe σ2 vs = wipe σ vs ∧ tt σ2 H2 fun b H3 => if b = true then te σ2 H3 fun y H4 => Kt y H4 else Kf H3)
    (hd : ∀ D H, Same H1 H → H1 D = none → H D = some (.lst (outs xs.length)) → Q (.ref D) H) :
    tLc (iList K tl) g tt te vs σ H1 Q := by
  refine htl _ ⟨a, rfl, ⟨_, seqL hq⟩, fun D nD => ?_⟩
  refine lc_list (K := K) (a := a) (xs := xs) (fun i H => Same H1 H ∧ H D = some (.lst (outs i)))
    ⟨same_new nD, by rw [upd_same, h0]⟩ (fun i H _ hp => seqL (hp.1 _ _ hq)) (fun i x H hx ⟨s, e⟩ => ?_)
    (fun H hp => hd D H hp.1 nD hp.2)
  have li := (List.getElem?_eq_some_iff.mp hx).1
  refine turn i x H _ _ hx s (fun y H4 s4 eo => ?_) (fun H3 s3 eo => ?_)
  · exact ⟨outs i, s4 _ _ e, hz i (by omega), keepD (xs := []) nD s s4, by rw [upd_same, eo]⟩
  · exact ⟨s.trans s3, by rw [s3 _ _ e, eo]⟩
end
theorem tyes {σ : L2.St} {H : Hp} {Q : Bool → Hp → Prop} (h : Q true H) : tYes σ H Q := h
theorem small_of {n : Nat} (h : n ≤ 100000) : n < sizeLine := by
  rw [sizeLine_eq]
  omega
section
variable {P : Program} {w : World} {K : PySem.W.Frag} {mg : Str → Option Value} {base : Heap}
/-! ### is_integer -/
def sp_is_integer : Sp := fun vs H Q _ => ∃ i : Int, vs = [.int i] ∧ Q (.bl true) H
theorem ok_is_integer (T : Txt K mg) : FnOk P w K mg base CX0 1 T.a_is_integer T.fd_is_integer ["value"] sp_is_integer := by
  refine T.F_is_integer.ok sc_is_integer (fun vs H Q E h => ?_) (fun cdv A outer s H vs Q E hr h => ?_)
  · obtain ⟨i, rfl, _⟩ := h
    rfl
  · obtain ⟨i, rfl, q⟩ := h
    refine ⟨_, (pss_one (ps_ret (pe_and (pe_callB call_isi (by rfl) T.z_isinstance (by decide +kernel) (pa_cons (pv 0) (pa_cons (pe_bltn (v := .ty "int") (by rfl) T.z_int
    PyProof.Rows.boot_int rfl) pa_nil))) (pe_one (pe_not (pe_callB call_isi (by rfl) T.z_isinstance (by decide +kernel) (pa_cons (pv 0) (pa_cons (pe_bltn (v := .ty
    "bool") (by rfl) T.z_bool PyProof.Rows.boot_bool rfl) pa_nil)))))))), ?_⟩
    refine ⟨_, rfl, .int i, .ty "int", _, _, true, rfl, .ty "int", .base (.int i), kit_ty (by decide +kernel), ?_⟩
    refine ⟨true, rfl, iteT ?_⟩
    refine ⟨_, rfl, .int i, .ty "bool", _, _, false, rfl, .ty "bool", .base (.int i), kit_ty (by decide +kernel), ?_⟩
    exact ⟨false, rfl, q⟩
/-! ### is_list -/
def sp_is_list : Sp := fun vs H Q _ => ∃ (a : Addr) (xs : List V), vs = [.ref a] ∧ SqV H a xs ∧ ∀ H', Same H H' → Q (.bl true) H'
theorem ok_is_list (T : Txt K mg) : FnOk P w K mg base CX0 1 T.a_is_list T.fd_is_list ["value"] sp_is_list := by
  refine T.F_is_list.ok sc_is_list (fun vs H Q E h => ?_) (fun cdv A outer s H vs Q E hr h => ?_)
  · obtain ⟨a, xs, rfl, _⟩ := h
    rfl
  · obtain ⟨a, xs, rfl, hs, q⟩ := h
    refine ⟨_, (pss_one (ps_ret (pe_callB call_isiT (by rfl) T.z_isinstance (by decide +kernel) (pa_cons (pv 0) (pa_cons (pe_tup (pa_cons (pe_bltn (v := .ty "list") (by rfl) T.z_list
    PyProof.Rows.boot_list rfl) (pa_cons (pe_bltn (v := .ty "tuple") (by rfl) T.z_tuple PyProof.Rows.boot_tuple rfl) pa_nil))) pa_nil))))), ?_⟩
    refine ⟨_, rfl, (by show 2 ≤ sizeLine; decide), fun t ht => ?_⟩
    have s1 := same_new (o := .tup [.ty "list", .ty "tuple"]) ht
    rcases hs with hs | hs
    · exact ⟨.ref a, t, _, .type "list", [.type "list", .type "tuple"], true, rfl, upd_same,
        .cons (.ty _) (.cons (.ty _) .nil), .base (.lst (s1 _ _ hs)),
        kitAny_cons (kit_ty (b := "list") (r := true) (by decide +kernel)) (fun z => nomatch z) (fun _ => rfl), q _ s1⟩
    · exact ⟨.ref a, t, _, .type "tuple", [.type "list", .type "tuple"], true, rfl, upd_same,
        .cons (.ty _) (.cons (.ty _) .nil), .base (.tup (s1 _ _ hs)),
        kitAny_cons (kit_ty (b := "list") (r := false) (by decide +kernel))
          (fun _ => kitAny_cons (kit_ty (b := "tuple") (r := true) (by decide +kernel)) (fun z => nomatch z) (fun _ => rfl)) (fun z => nomatch z), q _ s1⟩
/-! ### is_numbers -/
def sp_is_numbers : Sp := fun vs H Q _ => ∃ (a : Addr) (ns : List Int), vs = [.ref a] ∧ SqV H a (ns.map V.int) ∧ ns.length ≤ 1000 ∧ ∀ H', Same H H' → Q (.bl true) H'
theorem all_true (n : Nat) : ((List.replicate n true).all id) = true := by
  rw [List.all_eq_true]
  intro x hx
  rw [List.eq_of_mem_replicate hx]
  rfl
theorem ok_is_numbers (T : Txt K mg) : FnOk P w K mg base CX0 2 T.a_is_numbers T.fd_is_numbers ["value"] sp_is_numbers := by
  refine T.F_is_numbers.ok sc_is_numbers (fun vs H Q E h => ?_) (fun cdv A outer s H vs Q E hr h => ?_)
  · obtain ⟨a, ns, rfl, _⟩ := h
    rfl
  · obtain ⟨a, ns, rfl, hs, hl, q⟩ := h
    refine ⟨_, (pss_one (ps_ret (pe_and (pe_call (ok_is_list T) (hr.mono (by decide)) (by rfl) T.g_is_list T.F_is_list.kp T.b_is_list .nil pass0 (pa_cons (pv 0) pa_nil)) (pe_one
    (pe_callB (cr_all rfl) (by rfl) T.z_all (by decide +kernel) (pa_cons (pe_lc (own := [("one", 1)]) (g := gName 1) (by rfl) sc_is_numbers.nd (pi_seq (pv 0)) (blkOk_by
    (N := ["value", "one"]) (sc := defScope s_is_numbers) (own := [("one", 1)]) (by decide +kernel)) (fun _ _ _ _ _ => pg_name (i := 1) sc_is_numbers.nd rfl (Or.inl rfl))
    (fun _ _ _ _ _ => pts_nil) (fun _ _ _ _ _ => (pe_or (pe_cmpR op_isTyB (pe_callTy (r := rTyp K) call_type1 (by rfl) T.z_type (by decide +kernel) (pa_cons (pv 1)
    pa_nil)) (pe_bltn (v := .ty "int") (by rfl) T.z_int PyProof.Rows.boot_int rfl) (nomark _)) (pe_one (pe_call (ok_is_integer T) (hr.mono (by decide)) (by rfl)
    T.g_is_integer T.F_is_integer.kp T.b_is_integer .nil pass0 (pa_cons (pv 1) pa_nil)))))) pa_nil)))))), ?_⟩
    refine ⟨_, rfl, a, _, rfl, hs, fun H1 s1 => ⟨true, rfl, iteT ?_⟩⟩
    unfold tCB tCons
    refine lcs (xs := ns.map V.int) (fun R h => ⟨_, rfl, h⟩) (hs.mono s1) (fun i => (List.replicate i true).map V.bl) rfl
      (fun i hi => small_of (by rw [List.length_map, List.length_replicate]; rw [List.length_map] at hi; omega))
      (fun i x H Kt Kf hx s kt kf => ?_) (fun D H s nD e => ?_)
    · rw [List.getElem?_map] at hx
      obtain ⟨z, hz, rfl⟩ := Option.map_eq_some_iff.mp hx
      refine ⟨rfl, tyes ?_⟩
      refine iteT ⟨_, rfl, _, "int", rfl, .int z, "int", "int", rfl, rfl, true, congrArg V.bl (decide_eq_true rfl), iteT (kt _ _ (Same.refl _) ?_)⟩
      rw [List.replicate_succ', List.map_append]
      rfl
    · refine ⟨D, List.replicate ns.length true, rfl, seqL (by rw [e, List.length_map]), ?_⟩
      rw [all_true]
      exact q H (s1.trans s)
/-! ### is_setting -/
def sp_is_setting : Sp := fun vs H Q _ => ∃ (a : Addr) (r : List Nat), vs = [.ref a, .int (r.length : Int)] ∧ SqV H a (vN r) ∧ r.length ≤ 1000 ∧ ∀ H', Same H H' → Q (.bl true) H'
theorem ok_is_setting (T : Txt K mg) : FnOk P w K mg base CX0 3 T.a_is_setting T.fd_is_setting ["value", "many"] sp_is_setting := by
  refine T.F_is_setting.ok sc_is_setting (fun vs H Q E h => ?_) (fun cdv A outer s H vs Q E hr h => ?_)
  · obtain ⟨a, r, rfl, _⟩ := h
    rfl
  · obtain ⟨a, r, rfl, hs, hl, q⟩ := h
    refine ⟨_, (pss_cons (ps_if (PW.pt (pw_or (pt_not (pt_val (pe_call (ok_is_integer T) (hr.mono (by decide)) (by rfl) T.g_is_integer T.F_is_integer.kp T.b_is_integer .nil pass0
    (pa_cons (pv 1) pa_nil)))) (pw_or1 (pt_not (pt_val (pe_call (ok_is_numbers T) (hr.mono (by decide)) (by rfl) T.g_is_numbers T.F_is_numbers.kp T.b_is_numbers .nil
    pass0 (pa_cons (pv 0) pa_nil))))))) (pss_one (ps_ret pe_bl)) pss_nil) (pss_one (ps_ret (pe_and (pe_cmpR op_eq (pe_callB call_len_seq (by rfl) T.z_len PySem.boot_len
    (pa_cons (pv 0) pa_nil)) (pv 1) (nomark _)) (pe_one (pe_callB (cr_all rfl) (by rfl) T.z_all (by decide +kernel) (pa_cons (pe_lc (own := [("one", 2)]) (g := gName 2)
    (by rfl) sc_is_setting.nd (pi_seq (pv 0)) (blkOk_by (N := ["value", "many", "one"]) (sc := defScope s_is_setting) (own := [("one", 2)]) (by decide +kernel)) (fun _ _
    _ _ _ => pg_name (i := 2) sc_is_setting.nd rfl (Or.inl rfl)) (fun _ _ _ _ _ => pts_nil) (fun _ _ _ _ _ => (pe_cmpR op_ge (pv 2) pe_int (nomark _)))) pa_nil))))))), ?_⟩
    refine ⟨_, rfl, _, rfl, true, rfl, iteF ?_⟩
    refine ⟨_, rfl, a, zz r, rfl, hs, by rw [zz_len]; exact hl, fun H1 s1 => ⟨true, rfl, iteF ?_⟩⟩
    refine ⟨_, rfl, a, _, rfl, (hs.mono s1).or, _, rfl, rfl, true, ?_, iteT ?_⟩
    · rw [vN_len, decide_eq_true rfl]
    unfold tCB tCons
    refine lcs (xs := vN r) (fun R h => ⟨_, rfl, h⟩) (hs.mono s1) (fun i => (List.replicate i true).map V.bl) rfl
      (fun i hi => small_of (by rw [List.length_map, List.length_replicate]; rw [vN_len] at hi; omega))
      (fun i x H Kt Kf hx s kt kf => ?_) (fun D H s nD e => ?_)
    · obtain ⟨z, hz, rfl⟩ := vN_some hx
      refine ⟨rfl, tyes ?_⟩
      refine iteT ⟨_, rfl, _, _, rfl, rfl, kt _ _ (Same.refl _) ?_⟩
      have e : decide ((0 : Int) ≤ (z : Int)) = true := decide_eq_true (by omega)
      show _ = _ ++ [V.bl (decide ((0 : Int) ≤ (z : Int)))]
      rw [List.replicate_succ', List.map_append, e]
      rfl
    · refine ⟨D, List.replicate r.length true, rfl, seqL (by rw [e, vN_len]), ?_⟩
      rw [all_true]
      exact q H (s1.trans s)
end
end My

namespace My
/-! wirings, as lists of numbers -/
def IsW (r : List Nat) : Prop := r.Perm (List.range r.length) ∧ 1 ≤ r.length ∧ r.length ≤ 6
theorem IsW.lt {r : List Nat} (h : IsW r) {i n : Nat} (e : r[i]? = some n) : n < r.length := by
  have := h.1.mem_iff.mp (List.mem_of_getElem? e)
  exact List.mem_range.mp this
theorem IsW.nodup {r : List Nat} (h : IsW r) : r.Nodup := h.1.nodup_iff.mpr List.nodup_range
/-- the setting led: one number after the other put at its bottom -/
def ledUp (r s : List Nat) (i : Nat) : List Nat :=
  ((r.zip s).take i).foldl (fun b q => b.set q.1 q.2) (List.replicate r.length 0)
def ledTo (r s : List Nat) : List Nat := ledUp r s r.length
theorem foldl_set_len (l : List (Nat × Nat)) : ∀ b : List Nat, (l.foldl (fun b q => b.set q.1 q.2) b).length = b.length := by
  induction l with
  | nil => exact fun b => rfl
  | cons x l ih =>
    intro b
    rw [List.foldl_cons, ih, List.length_set]
theorem ledUp_len (r s : List Nat) (i : Nat) : (ledUp r s i).length = r.length := by
  unfold ledUp
  rw [foldl_set_len, List.length_replicate]
theorem ledTo_len (r s : List Nat) : (ledTo r s).length = r.length := ledUp_len r s _
theorem ledUp_succ {r s : List Nat} {i a b : Nat} (h1 : r[i]? = some a) (h2 : s[i]? = some b) : ledUp r s (i + 1) = (ledUp r s i).set a b := by
  unfold ledUp
  have e : (r.zip s)[i]? = some (a, b) := by
    rw [List.getElem?_zip_eq_some]
    exact ⟨h1, h2⟩
  rw [List.take_add_one, e, List.foldl_append]
  rfl
/-! colours -/
def mxN (l : List Nat) : Nat := l.foldl max 0
def col1 (r found : List Nat) (top : Nat) : List Nat :=
  ((List.range top).filter fun o => decide (r.getD top 0 < r.getD o 0)).map fun o => found.getD o 0 + 1
def colUp (r : List Nat) : Nat → List Nat
  | 0 => []
  | i + 1 => colUp r i ++ [mxN (col1 r (colUp r i) i)]
def coloursOf (r : List Nat) : List Nat := colUp r r.length
theorem colUp_len (r : List Nat) : ∀ i, (colUp r i).length = i
  | 0 => rfl
  | i + 1 => by
    show (colUp r i ++ [_]).length = i + 1
    rw [List.length_append, colUp_len r i]
    rfl
theorem coloursOf_len (r : List Nat) : (coloursOf r).length = r.length := colUp_len r _
end My

namespace My
open PySem PySem.Spec PyProof.Rows L2
section
variable {P : Program} {w : World} {K : PySem.W.Frag} {mg : Str → Option Value} {base : Heap}
theorem bl_true {p : Prop} [Decidable p] (h : p) : V.bl (decide p) = V.bl true := by rw [decide_eq_true h]
theorem bl_false {p : Prop} [Decidable p] (h : ¬ p) : V.bl (decide p) = V.bl false := by rw [decide_eq_false h]
theorem ixN_at {n j : Nat} (h : j < n) : ixN n (j : Int) = some j := by
  unfold ixN
  rw [if_pos (by omega), if_pos (by omega), Int.toNat_natCast]
theorem zz_perm {r s : List Nat} (h : r.Perm s) : (zz r).Perm (zz s) := h.map _
theorem zz_range_up (n : Nat) : (zz (List.range n)).Pairwise (· ≤ ·) := by
  unfold zz
  rw [List.pairwise_map]
  exact List.pairwise_le_range.imp fun h => Int.ofNat_le.mpr h
theorem zz_inj {r s : List Nat} (h : zz r = zz s) : r = s := by
  unfold zz at h
  exact (List.map_inj_right (fun a b e => Int.ofNat.inj e)).mp h
/-! ### is_wiring -/
def sp_is_wiring : Sp := fun vs H Q _ => ∃ (a : Addr) (r : List Nat), vs = [.ref a] ∧ SqV H a (vN r) ∧ IsW r ∧ ∀ H', Same H H' → Q (.bl true) H'
theorem ok_is_wiring (T : Txt K mg) : FnOk P w K mg base CX0 3 T.a_is_wiring T.fd_is_wiring ["value"] sp_is_wiring := by
  refine T.F_is_wiring.ok sc_is_wiring (fun vs H Q E h => ?_) (fun cdv A outer s H vs Q E hr h => ?_)
  · obtain ⟨a, r, rfl, _⟩ := h
    rfl
  · obtain ⟨a, r, rfl, hs, hw, q⟩ := h
    have l1 := hw.2.1
    have l6 := hw.2.2
    refine ⟨_, (pss_cons (ps_if (PW.pt (pw_or (pt_not (pt_val (pe_call (ok_is_list T) (hr.mono (by decide)) (by rfl) T.g_is_list T.F_is_list.kp T.b_is_list .nil pass0 (pa_cons (pv 0)
    pa_nil)))) (pw_or1 (pt_not (pt_chain op_le op_le pe_int (pe_callB call_len_seq (by rfl) T.z_len PySem.boot_len (pa_cons (pv 0) pa_nil)) (pe_glob (v := .int 6) rfl
    T.c_MOST_WIRES ⟨_, rfl⟩)))))) (pss_one (ps_ret pe_bl)) pss_nil) (pss_one (ps_ret (pe_and (pe_call (ok_is_numbers T) (hr.mono (by decide)) (by rfl) T.g_is_numbers
    T.F_is_numbers.kp T.b_is_numbers .nil pass0 (pa_cons (pv 0) pa_nil)) (pe_one (pe_cmpR (op_eqD hr.units) (pe_callB cr_sort2 (by rfl) T.z_sorted (by decide +kernel)
    (pa_cons (pv 0) pa_nil)) (pe_listRg rfl (by rfl) T.z_list (prg_1 (by rfl) T.z_range (pe_callB call_len_seq (by rfl) T.z_len PySem.boot_len (pa_cons (pv 0) pa_nil))))
    (nomark _))))))), ?_⟩
    refine ⟨_, rfl, a, _, rfl, hs, fun H1 s1 => ⟨true, rfl, iteF ?_⟩⟩
    refine ⟨_, rfl, a, _, rfl, (hs.mono s1).or, _, _, rfl, rfl, true, ?_, iteT ?_⟩
    · rw [vN_len]
      exact bl_true (p := (1 : Int) ≤ (r.length : Int)) (by omega)
    refine ⟨_, _, rfl, rfl, true, ?_, iteF ?_⟩
    · rw [vN_len]
      exact bl_true (p := (r.length : Int) ≤ 6) (by omega)
    refine ⟨_, rfl, a, zz r, rfl, hs.mono s1, by rw [zz_len]; omega, fun H2 s2 => ⟨true, rfl, iteT ?_⟩⟩
    have s12 := s1.trans s2
    refine ⟨_, rfl, a, zz r, rfl, (hs.mono s12).or, by rw [zz_len]; omega, fun ns' p pm up np => ?_⟩
    have s3 := s12.trans (same_new (o := .lst (ns'.map V.int)) np)
    refine ⟨_, rfl, a, _, rfl, (hs.mono s3).or, _, rfl, ?_, fun p2 np2 => ?_⟩
    · rw [vN_len]
      exact RgOk.of_le (by omega) (by omega) (by omega) (by omega)
    have e1 : ns' = zz (List.range r.length) := (pm.trans (zz_perm hw.1)).eq_of_pairwise (fun a b _ _ => Int.le_antisymm) up (zz_range_up _)
    have e2 : rgV 0 (((vN r).length : Nat) : Int) = vN (List.range r.length) := by
      rw [vN_len, rg_vN]
    have n12 : p ≠ p2 := fun e => by
      rw [← e, upd_same] at np2
      cases np2
    rw [e2]
    refine ⟨.list ((zz (List.range r.length)).map PyData.int), .list ((zz (List.range r.length)).map PyData.int),
      .lst (seqL (xs := ns'.map V.int) ?_) (e1 ▸ dp_ints _), .lst (seqL upd_same) (dp_ints _), shaped_lst _, shaped_lst _, ?_⟩
    · rw [upd_ne n12, upd_same]
    have e3 : PyData.eqv (.list ((zz (List.range r.length)).map PyData.int)) (.list ((zz (List.range r.length)).map PyData.int)) = true := by
      show PyData.eqvAll _ _ = true
      rw [eqv_ints, decide_eq_true rfl]
    rw [e3]
    exact q _ (s3.trans (same_new np2))
/-! ### need_wiring -/
def sp_need_wiring : Sp := fun vs H Q _ => ∃ (a : Addr) (z : Str) (r : List Nat), vs = [.ref a, .str z] ∧ SqV H a (vN r) ∧ IsW r ∧
  ∀ H' p, Same H H' → H' p = some (.tup (vN r)) → Q (.ref p) H'
theorem ok_need_wiring (T : Txt K mg) : FnOk P w K mg base CX0 4 T.a_need_wiring T.fd_need_wiring ["value", "part"] sp_need_wiring := by
  refine T.F_need_wiring.ok sc_need_wiring (fun vs H Q E h => ?_) (fun cdv A outer s H vs Q E hr h => ?_)
  · obtain ⟨a, z, r, rfl, _⟩ := h
    rfl
  · obtain ⟨a, z, r, rfl, hs, hw, q⟩ := h
    refine ⟨_, (pss_cons (ps_if (pt_not (pt_val (pe_call (ok_is_wiring T) (hr.mono (by decide)) (by rfl) T.g_is_wiring T.F_is_wiring.kp T.b_is_wiring .nil pass0 (pa_cons (pv 0)
    pa_nil)))) (pss_one ps_never) pss_nil) (pss_one (ps_ret (pe_callTy call_tuple_of (by rfl) T.z_tuple (by decide +kernel) (pa_cons (pv 0) pa_nil))))), ?_⟩
    refine ⟨_, rfl, a, r, rfl, hs, hw, fun H1 s1 => ⟨true, rfl, iteF ?_⟩⟩
    refine ⟨_, rfl, a, vN r, rfl, ?_⟩
    rcases hs.mono s1 with h1 | h1
    · exact .inl ⟨seqL h1, fun l nl => q _ l (s1.trans (same_new nl)) upd_same⟩
    · exact .inr ⟨seqT h1, q _ a s1 h1⟩
/-! ### led_to -/
def sp_led_to : Sp := fun vs H Q _ => ∃ (a b : Addr) (r s : List Nat), vs = [.ref a, .ref b] ∧ H a = some (.tup (vN r)) ∧ SqV H b (vN s) ∧ IsW r ∧ s.length = r.length ∧
  ∀ H' p, Same H H' → H' p = some (.tup (vN (ledTo r s))) → Q (.ref p) H'
theorem vN_set (l : List Nat) (i n : Nat) : (vN l).set i (.int (n : Int)) = vN (l.set i n) := by
  unfold vN zz
  rw [List.map_set, List.map_set]
theorem vN_rep (n : Nat) : (List.replicate n [V.int 0]).flatten = vN (List.replicate n 0) := by
  induction n with
  | zero => rfl
  | succ n ih =>
    rw [List.replicate_succ, List.flatten_cons, ih]
    rfl
theorem ok_led_to (T : Txt K mg) : FnOk P w K mg base CX0 1 T.a_led_to T.fd_led_to ["row", "setting"] sp_led_to := by
  refine T.F_led_to.ok sc_led_to (fun vs H Q E h => ?_) (fun cdv A outer s0 H vs Q E hr h => ?_)
  · obtain ⟨a, b, r, s, rfl, _⟩ := h
    rfl
  · obtain ⟨a, b, r, s, rfl, ha, hb, hw, hl, q⟩ := h
    have l1 := hw.2.1
    have l6 := hw.2.2
    refine ⟨_, (pss_cons (ps_set (i := 2) sc_led_to.nd rfl (.inl rfl) (pe_op op_rep (pe_lst (pa_cons pe_int pa_nil)) (pe_callB call_len_seq (by rfl) T.z_len PySem.boot_len (pa_cons (pv
    0) pa_nil)))) (pss_cons (ps_for PassesOwn.never rfl (pi_zipX (by rfl) T.z_zip (pa_cons (pv 0) (pa_cons (pv 1) pa_nil))) (pg_tup (by rfl) (pgs_cons (pg_name (i := 3)
    sc_led_to.nd rfl (.inl rfl)) (pgs_cons (pg_name (i := 4) sc_led_to.nd rfl (.inl rfl)) pgs_nil))) (pss_one (ps_asg (pv 4) (pg_sub (pv 2) (pv 3) set_list)))) (pss_one
    (ps_ret (pe_callTy call_tuple_of (by rfl) T.z_tuple (by decide +kernel) (pa_cons (pv 2) pa_nil)))))), ?_⟩
    refine ⟨by show 1 ≤ sizeLine; decide, fun l nl => ?_⟩
    have s1 := same_new (o := .lst [V.int 0]) nl
    refine ⟨_, rfl, a, _, rfl, .inr (seqT (s1 _ _ ha)), l, _, _, rfl, rfl, upd_same, by omega, by rw [vN_len]; omega, ?_, fun p np => ?_⟩
    · rw [vN_len]
      have := small_of (n := 1 * ((r.length : Int)).toNat) (by omega)
      exact Nat.le_of_lt this
    have s2 := s1.trans (same_new (o := .lst (List.replicate ((vN r).length : Int).toNat [V.int 0]).flatten) np)
    have fin : ∀ (σ : L2.St) (H' : Hp), (∃ x3 x4, σ = [some (.ref a), some (.ref b), some (.ref p), x3, x4] ∧ Same H H' ∧ H' p = some (.lst (vN (ledUp r s r.length)))) →
        (tRet (tCB (fun xs H Q => ∃ p ys, xs = [.ref p] ∧ ((SqL K H p ys ∧ ∀ l, H l = none → Q (.ref l) (upd H l (.tup ys))) ∨ (SqT K H p ys ∧ Q (.ref p) H))) (tCons (tVar 2) tNil)))
          { nx := fun _ H' => Q .non H', rt := Q } σ H' := by
      rintro σ H' ⟨x3, x4, rfl, sm, ep⟩
      exact ⟨_, rfl, p, _, rfl, .inl ⟨seqL ep, fun l nl => q _ l (sm.trans (same_new nl)) upd_same⟩⟩
    have start : Same H (upd (upd H l (.lst [V.int 0])) p (.lst (List.replicate ((vN r).length : Int).toNat [V.int 0]).flatten)) ∧
        (upd (upd H l (.lst [V.int 0])) p (.lst (List.replicate ((vN r).length : Int).toNat [V.int 0]).flatten)) p = some (.lst (vN (ledUp r s 0))) := by
      refine ⟨s2, ?_⟩
      rw [upd_same, vN_len, show ((r.length : Int)).toNat = r.length by omega, vN_rep]
      rfl
    have np0 : H p = none := s1.free np
    have turn : ∀ (i : Nat) (x y : V) (t : Addr) (σ : L2.St) (H' : Hp), (vN r)[i]? = some x → (vN s)[i]? = some y →
        (∃ x3 x4, σ = [some (.ref a), some (.ref b), some (.ref p), x3, x4] ∧ Same H H' ∧ H' p = some (.lst (vN (ledUp r s i)))) → H' t = none →
        ∃ (D : List V), D = [x, y] ∧ Same H (upd (upd H' t (.tup [x, y])) p (.lst ((vN (ledUp r s i)).set (((r.getD i 0 : Nat) : Int)).toNat y))) ∧ p ≠ t ∧
          (upd H' t (.tup [x, y])) p = some (.lst (vN (ledUp r s i))) ∧ x = .int ((r.getD i 0 : Nat) : Int) ∧ ixN (vN (ledUp r s i)).length ((r.getD i 0 : Nat) : Int) = some (r.getD i 0) ∧
          (vN (ledUp r s i)).set (r.getD i 0) y = vN (ledUp r s (i + 1)) := by
      rintro i x y t σ H' hx hy ⟨x3, x4, rfl, sm, ep⟩ nt
      obtain ⟨n, hn, rfl⟩ := vN_some hx
      obtain ⟨m, hm, rfl⟩ := vN_some hy
      have hd : r.getD i 0 = n := by
        rw [List.getD_eq_getElem?_getD, hn]
        rfl
      have npt : p ≠ t := ne_of_none ep nt
      rw [hd]
      refine ⟨_, rfl, fun c o e => ?_, npt, by rw [upd_ne npt]; exact ep, rfl, ?_, ?_⟩
      · rw [upd_ne (ne_of_none e np0)]
        exact same_new nt _ _ (sm _ _ e)
      · rw [vN_len, ledUp_len]
        exact ixN_at (hw.lt hn)
      · rw [vN_set, ledUp_succ hn hm]
    rcases hb.mono s2 with hb2 | hb2
    · refine ⟨_, rfl, _, rfl, a, b, vN r, vN s, rfl, .inl ⟨seqT (s2 _ _ ha), seqL hb2, ?_⟩⟩
      refine for_zipX ((vN_len r).trans (hl.symm.trans (vN_len s).symm)) (fun i σ H' => ∃ x3 x4, σ = [some (.ref a), some (.ref b), some (.ref p), x3, x4] ∧ Same H H' ∧ H' p = some (.lst (vN (ledUp r s i))))
        ⟨none, none, rfl, start⟩ (fun i σ H' ⟨_, _, _, sm, _⟩ => ⟨seqT (sm _ _ ha), ?_⟩) (fun i x y t σ H' hx hy hp nt => ?_) (fun σ H' hp => fin σ H' (by rw [vN_len] at hp; exact hp))
      · rcases hb with hb | hb
        · exact seqL (sm _ _ hb)
        · exact absurd (s2 _ _ hb) (by rw [hb2]; intro z; cases z)
      · obtain ⟨_, rfl, c1, c2, c3, rfl, c5, c6⟩ := turn i x y t σ H' hx hy hp nt
        obtain ⟨x3, x4, rfl, sm, ep⟩ := hp
        refine ⟨t, _, rfl, seqT upd_same, rfl, _, [y], rfl, y, [], rfl, rfl, ?_⟩
        refine ⟨_, rfl, _, rfl, _, rfl, p, _, _, _, rfl, rfl, c3, c5, ?_⟩
        exact ⟨_, _, rfl, c1, by rw [upd_same, c6]⟩
    · refine ⟨_, rfl, _, rfl, a, b, vN r, vN s, rfl, .inr ⟨seqT (s2 _ _ ha), seqT hb2, ?_⟩⟩
      refine RZ.for_zipT ((vN_len r).trans (hl.symm.trans (vN_len s).symm)) (fun i σ H' => ∃ x3 x4, σ = [some (.ref a), some (.ref b), some (.ref p), x3, x4] ∧ Same H H' ∧ H' p = some (.lst (vN (ledUp r s i))))
        ⟨none, none, rfl, start⟩ (fun i σ H' ⟨_, _, _, sm, _⟩ => ⟨seqT (sm _ _ ha), ?_⟩) (fun i x y t σ H' hx hy hp nt => ?_) (fun σ H' hp => fin σ H' (by rw [vN_len] at hp; exact hp))
      · rcases hb with hb | hb
        · exact absurd (s2 _ _ hb) (by rw [hb2]; intro z; cases z)
        · exact seqT (sm _ _ hb)
      · obtain ⟨_, rfl, c1, c2, c3, rfl, c5, c6⟩ := turn i x y t σ H' hx hy hp nt
        obtain ⟨x3, x4, rfl, sm, ep⟩ := hp
        refine ⟨t, _, rfl, seqT upd_same, rfl, _, [y], rfl, y, [], rfl, rfl, ?_⟩
        refine ⟨_, rfl, _, rfl, _, rfl, p, _, _, _, rfl, rfl, c3, c5, ?_⟩
        exact ⟨_, _, rfl, c1, by rw [upd_same, c6]⟩
end
end My

namespace My
open PySem PySem.Spec PyProof.Rows L2
section
variable {P : Program} {w : World} {K : PySem.W.Frag} {mg : Str → Option Value} {base : Heap}
/-! ### led -/
def sp_led : Sp := fun vs H Q _ => ∃ (a b : Addr) (r s : List Nat), vs = [.ref a, .ref b] ∧ SqV H a (vN r) ∧ SqV H b (vN s) ∧ IsW r ∧ s.length = r.length ∧
  ∀ H' p, Same H H' → H' p = some (.tup (vN (ledTo r s))) → Q (.ref p) H'
theorem ok_led (T : Txt K mg) : FnOk P w K mg base CX0 5 T.a_led T.fd_led ["row", "setting"] sp_led := by
  refine T.F_led.ok sc_led (fun vs H Q E h => ?_) (fun cdv A outer s0 H vs Q E hr h => ?_)
  · obtain ⟨a, b, r, s, rfl, _⟩ := h
    rfl
  · obtain ⟨a, b, r, s, rfl, ha, hb, hw, hl, q⟩ := h
    have l6 := hw.2.2
    refine ⟨_, (pss_cons (ps_set (i := 2) sc_led.nd rfl (.inl rfl) (pe_call (ok_need_wiring T) (hr.mono (by decide)) (by rfl) T.g_need_wiring T.F_need_wiring.kp T.b_need_wiring .nil
    pass0 (pa_cons (pv 0) (pa_cons pe_str pa_nil)))) (pss_cons (ps_if (pt_not (pt_val (pe_call (ok_is_setting T) (hr.mono (by decide)) (by rfl) T.g_is_setting
    T.F_is_setting.kp T.b_is_setting .nil pass0 (pa_cons (pv 1) (pa_cons (pe_callB call_len_seq (by rfl) T.z_len PySem.boot_len (pa_cons (pv 2) pa_nil)) pa_nil)))))
    (pss_one ps_never) pss_nil) (pss_one (ps_ret (pe_call (ok_led_to T) (hr.mono (by decide)) (by rfl) T.g_led_to T.F_led_to.kp T.b_led_to .nil pass0 (pa_cons (pv 2)
    (pa_cons (pv 1) pa_nil))))))), ?_⟩
    refine ⟨_, rfl, a, _, r, rfl, ha, hw, fun H1 p1 s1 e1 => ?_⟩
    refine ⟨_, rfl, _, rfl, p1, _, rfl, .inr (seqT e1), b, s, ?_, hb.mono s1, by omega, fun H2 s2 => ⟨true, rfl, iteF ?_⟩⟩
    · rw [vN_len, hl]
      rfl
    have s12 := s1.trans s2
    refine ⟨_, rfl, _, rfl, p1, b, r, s, rfl, s2 _ _ e1, hb.mono s12, hw, hl, fun H3 p s3 e3 => ?_⟩
    exact q H3 p (s12.trans s3) e3
/-! ### colours_of -/
theorem mx_zz (l : List Nat) : mx 0 (zz l) = ((mxN l : Nat) : Int) := by
  unfold mxN
  cases l with
  | nil => rfl
  | cons x l =>
    show (zz l).foldl max (x : Int) = (((x :: l).foldl max 0 : Nat) : Int)
    rw [List.foldl_cons, Nat.zero_max]
    induction l generalizing x with
    | nil => rfl
    | cons y l ih =>
      show (zz l).foldl max (max (x : Int) (y : Int)) = _
      rw [List.foldl_cons, ← ih]
      congr 1
      omega
def sp_colours_of : Sp := fun vs H Q _ => ∃ (a : Addr) (r : List Nat), vs = [.ref a] ∧ H a = some (.tup (vN r)) ∧ r.length ≤ 6 ∧
  ∀ H' p, Same H H' → H' p = some (.tup (vN (coloursOf r))) → Q (.ref p) H'
theorem vN_snoc (l : List Nat) (n : Nat) : vN l ++ [V.int (n : Int)] = vN (l ++ [n]) := by
  unfold vN zz
  rw [List.map_append, List.map_append]
  rfl
def colP (r found : List Nat) (top i : Nat) : List Nat :=
  ((List.range i).filter fun o => decide (r.getD top 0 < r.getD o 0)).map fun o => found.getD o 0 + 1
theorem colP_yes {r found : List Nat} {top i : Nat} (h : r.getD top 0 < r.getD i 0) : colP r found top (i + 1) = colP r found top i ++ [found.getD i 0 + 1] := by
  unfold colP
  have e : ([i].filter fun o => decide (r.getD top 0 < r.getD o 0)) = [i] := by
    exact List.filter_cons_of_pos (p := fun o => decide (r.getD top 0 < r.getD o 0)) (decide_eq_true h)
  rw [List.range_succ, List.filter_append, List.map_append, e]
  rfl
theorem colP_no {r found : List Nat} {top i : Nat} (h : ¬ r.getD top 0 < r.getD i 0) : colP r found top (i + 1) = colP r found top i := by
  unfold colP
  have e : ([i].filter fun o => decide (r.getD top 0 < r.getD o 0)) = [] := by
    exact List.filter_cons_of_neg (p := fun o => decide (r.getD top 0 < r.getD o 0)) (by rw [decide_eq_false h]; exact Bool.false_ne_true)
  rw [List.range_succ, List.filter_append, List.map_append, e, List.map_nil, List.append_nil]
theorem getD_of {l : List Nat} {i n : Nat} (h : l[i]? = some n) : l.getD i 0 = n := by
  rw [List.getD_eq_getElem?_getD, h]
  rfl
theorem getD_at {l : List Nat} {i : Nat} (h : i < l.length) : l[i]? = some (l.getD i 0) := by
  rw [List.getD_eq_getElem?_getD, List.getElem?_eq_getElem h]
  rfl
theorem vN_at {l : List Nat} {i : Nat} (h : i < l.length) : atI (vN l) (i : Int) = some (.int ((l.getD i 0 : Nat) : Int)) := atI_nat (vN_get (getD_at h))
theorem colP_len (r found : List Nat) (top i : Nat) : (colP r found top i).length ≤ i := by
  unfold colP
  rw [List.length_map]
  have := List.length_filter_le (fun o => decide (r.getD top 0 < r.getD o 0)) (List.range i)
  rw [List.length_range] at this
  exact this
theorem ok_colours_of (T : Txt K mg) : FnOk P w K mg base CX0 1 T.a_colours_of T.fd_colours_of ["row"] sp_colours_of := by
  refine T.F_colours_of.ok sc_colours_of (fun vs H Q E h => ?_) (fun cdv A outer s0 H vs Q E hr h => ?_)
  · obtain ⟨a, r, rfl, _⟩ := h
    rfl
  · obtain ⟨a, r, rfl, ha, l6, q⟩ := h
    refine ⟨_, (pss_cons (ps_set (i := 1) sc_colours_of.nd rfl (.inr rfl) (pe_lst pa_nil)) (pss_cons (ps_for PassesOwn.never rfl (pi_enumT (by rfl) T.z_enumerate (pa_cons (pv 0)
    pa_nil)) (pg_tup (by rfl) (pgs_cons (pg_name (i := 2) sc_colours_of.nd rfl (.inl rfl)) (pgs_cons (pg_name (i := 3) sc_colours_of.nd rfl (.inr rfl)) pgs_nil)))
    (pss_cons (ps_setLc (i := 4) (own := [("other", 5)]) (g := gName 5) (by rfl) sc_colours_of.nd rfl rfl (sw_true rfl rfl rfl (by decide +kernel)) (pi_range1 (by rfl)
    T.z_range (pa_cons (pv 2) pa_nil)) (blkOk_by (N := ["row", "found", "top", "bottom", "ahead", "other"]) (sc := defScope s_colours_of) (own := [("other", 5)])
    (by decide +kernel)) (fun _ _ _ _ _ => pg_name (i := 5) sc_colours_of.nd rfl (Or.inl rfl)) (fun _ _ _ _ _ => pts_one (pt_cmpR op_gt (pe_ix (r := rIxT K) ix_tup (pv 0)
    (pv 5) (fun _ _ => rfl)) (pv 3) (nomark _))) (fun _ _ _ _ _ => (pe_op op_add (pe_ix (r := rIxL K) ix_list (pv 1) (pv 5) (fun _ _ => rfl)) pe_int))) (pss_one (ps_expr
    (pe_bm PySem.F.plainAttrs_list PySem.F.slot_list_append PySem.F.type_list_append mt_append (pv 1) (pa_cons (pe_callBK (cr_maxDf rfl hr.units) (by rfl) T.z_max
    (by decide +kernel) (pa_cons (pv 4) pa_nil) (pk_cons pe_int pk_nil)) pa_nil)))))) (pss_one (ps_ret (pe_callTy call_tuple_of (by rfl) T.z_tuple (by decide +kernel)
    (pa_cons (pv 1) pa_nil)))))), ?_⟩
    refine ⟨Nat.zero_le _, fun p np => ?_⟩
    refine ⟨_, rfl, a, vN r, rfl, seqT (same_new np _ _ ha), ?_⟩
    refine for_enumT (xs := vN r) (fun i σ H' => ∃ x2 x3 x4 x5, σ = [some (.ref a), some (.ref p), x2, x3, x4, x5] ∧ Same H H' ∧ H' p = some (.lst (vN (colUp r i))))
      ⟨none, none, none, none, rfl, same_new np, upd_same⟩ (fun i σ H' ⟨_, _, _, _, _, sm, _⟩ => seqT (sm _ _ ha)) (fun i x t σ H' hx hp nt => ?_) (fun σ H' hp => ?_)
    · obtain ⟨x2, x3, x4, x5, rfl, sm, ep⟩ := hp
      obtain ⟨n, hn, rfl⟩ := vN_some hx
      have li : i < r.length := (List.getElem?_eq_some_iff.mp hn).1
      have npt : p ≠ t := ne_of_none ep nt
      have s1 := sm.trans (same_new (o := .tup [.int (i : Nat), .int (n : Int)]) nt)
      have ep1 : (upd H' t (.tup [.int (i : Nat), .int (n : Int)])) p = some (.lst (vN (colUp r i))) := by
        rw [upd_ne npt]
        exact ep
      refine ⟨t, _, rfl, seqT upd_same, rfl, _, [.int (n : Int)], rfl, _, [], rfl, rfl, ?_⟩
      -- ahead
      unfold tSeq tAsg
      refine lcr (n := i) (fun R h => ⟨_, rfl, h⟩) (by omega) (fun j => vN (colP r (colUp r i) i j)) rfl
        (fun j hj => small_of (by have := colP_len r (colUp r i) i j; rw [vN_len]; omega)) (fun j H2 Kt Kf hj s2 kt kf => ?_) (fun D H2 s2 nD eD => ?_)
      · have e0 : (0 : Int) + (j : Int) = ((j : Nat) : Int) := by omega
        rw [e0]
        refine ⟨rfl, ?_⟩
        refine ⟨_, rfl, _, rfl, a, _, _, _, rfl, rfl, seqT (s2 _ _ (s1 _ _ ha)), vN_at (by omega), _, rfl, _, _, rfl, rfl, _, rfl, ?_⟩
        have hd : r.getD i 0 = n := getD_of hn
        refine ite2 (fun c => ?_) (fun c => ?_)
        · have c' : r.getD i 0 < r.getD j 0 := by
            have := of_decide_eq_true c
            omega
          refine ⟨_, rfl, _, rfl, p, _, _, _, rfl, rfl, seqL (s2 _ _ ep1), vN_at (by rw [colUp_len]; exact hj), _, _, rfl, rfl, kt _ _ (Same.refl _) ?_⟩
          rw [colP_yes c', ← vN_snoc]
          rfl
        · have c' : ¬ r.getD i 0 < r.getD j 0 := fun z => c (decide_eq_true (by omega))
          exact kf _ (Same.refl _) (by rw [colP_no c'])
      · have np1 : D ≠ p := fun e => by
          rw [← e, nD] at ep1
          cases ep1
        refine ⟨_, rfl, .inl ⟨rfl, _, seqL (s2 _ _ ep1)⟩, _, rfl, D, zz (colP r (colUp r i) i i), 0, rfl, rfl, seqL eD, ?_⟩
        refine ⟨p, _, _, rfl, rfl, s2 _ _ ep1, small_of (by rw [vN_len, colUp_len]; omega), ?_⟩
        refine ⟨_, _, _, _, rfl, fun c o e => ?_, ?_⟩
        · have ncp : c ≠ p := ne_of_none e np
          rw [upd_ne ncp]
          exact s2 _ _ (s1 _ _ e)
        · rw [upd_same, mx_zz, vN_snoc]
          rfl
    · obtain ⟨x2, x3, x4, x5, rfl, sm, ep⟩ := hp
      rw [vN_len] at ep
      exact ⟨_, rfl, p, _, rfl, .inl ⟨seqL ep, fun l nl => q _ l (sm.trans (same_new nl)) upd_same⟩⟩
/-! ### both_settings -/
def sp_both_settings : Sp := fun vs H Q _ => ∃ (a : Addr) (r : List Nat), vs = [.ref a] ∧ H a = some (.tup (vN r)) ∧ IsW r ∧
  ∀ H' p t b, Same H H' → H' p = some (.tup [.ref t, .ref b]) → H' t = some (.tup (vN (coloursOf r))) → H' b = some (.tup (vN (ledTo r (coloursOf r)))) → Q (.ref p) H'
theorem ok_both_settings (T : Txt K mg) : FnOk P w K mg base CX0 2 T.a_both_settings T.fd_both_settings ["row"] sp_both_settings := by
  refine T.F_both_settings.ok sc_both_settings (fun vs H Q E h => ?_) (fun cdv A outer s0 H vs Q E hr h => ?_)
  · obtain ⟨a, r, rfl, _⟩ := h
    rfl
  · obtain ⟨a, r, rfl, ha, hw, q⟩ := h
    refine ⟨_, (pss_cons (ps_set (i := 1) sc_both_settings.nd rfl (.inl rfl) (pe_call (ok_colours_of T) (hr.mono (by decide)) (by rfl) T.g_colours_of T.F_colours_of.kp T.b_colours_of
    .nil pass0 (pa_cons (pv 0) pa_nil))) (pss_one (ps_ret (pe_tup (pa_cons (pv 1) (pa_cons (pe_call (ok_led_to T) (hr.mono (by decide)) (by rfl) T.g_led_to T.F_led_to.kp
    T.b_led_to .nil pass0 (pa_cons (pv 0) (pa_cons (pv 1) pa_nil))) pa_nil)))))), ?_⟩
    refine ⟨_, rfl, a, r, rfl, ha, hw.2.2, fun H1 t s1 e1 => ?_⟩
    refine ⟨_, rfl, _, rfl, _, rfl, a, t, r, coloursOf r, rfl, s1 _ _ ha, .inr e1, hw, coloursOf_len r, fun H2 b s2 e2 => ?_⟩
    refine ⟨by show 2 ≤ sizeLine; decide, fun p np => ?_⟩
    have s3 := same_new (o := .tup [.ref t, .ref b]) np
    exact q _ p t b (s1.trans (s2.trans s3)) upd_same (s3 _ _ (s2 _ _ e1)) (s3 _ _ e2)
/-! ### settings_of -/
def sp_settings_of : Sp := fun vs H Q _ => ∃ (a : Addr) (r : List Nat), vs = [.ref a] ∧ SqV H a (vN r) ∧ IsW r ∧
  ∀ H' p t b, Same H H' → H' p = some (.tup [.ref t, .ref b]) → H' t = some (.tup (vN (coloursOf r))) → H' b = some (.tup (vN (ledTo r (coloursOf r)))) → Q (.ref p) H'
theorem ok_settings_of (T : Txt K mg) : FnOk P w K mg base CX0 5 T.a_settings_of T.fd_settings_of ["row"] sp_settings_of := by
  refine T.F_settings_of.ok sc_settings_of (fun vs H Q E h => ?_) (fun cdv A outer s0 H vs Q E hr h => ?_)
  · obtain ⟨a, r, rfl, _⟩ := h
    rfl
  · obtain ⟨a, r, rfl, ha, hw, q⟩ := h
    refine ⟨_, (pss_one (ps_ret (pe_call (ok_both_settings T) (hr.mono (by decide)) (by rfl) T.g_both_settings T.F_both_settings.kp T.b_both_settings .nil pass0 (pa_cons (pe_call
    (ok_need_wiring T) (hr.mono (by decide)) (by rfl) T.g_need_wiring T.F_need_wiring.kp T.b_need_wiring .nil pass0 (pa_cons (pv 0) (pa_cons pe_str pa_nil))) pa_nil)))), ?_⟩
    refine ⟨_, rfl, a, _, r, rfl, ha, hw, fun H1 p1 s1 e1 => ?_⟩
    exact ⟨p1, r, rfl, e1, hw, fun H2 p t b s2 e2 e3 e4 => q H2 p t b (s1.trans s2) e2 e3 e4⟩
end
end My

namespace My
open PySem PySem.Spec PyProof.Rows L2
section
variable {P : Program} {w : World} {K : PySem.W.Frag} {mg : Str → Option Value} {base : Heap}
/-! ### the law's numbers, drawn one after another -/
def QA (H : Hp) (q c : Addr) (cells : List Int) (k : Nat) : Prop := ∃ (turn rest : Int),
  H q = some (.lst [.ref c, .int turn, .int rest]) ∧ H c = some (.lst (cells.map V.int)) ∧ 0 ≤ turn ∧ turn ≤ (k : Int) ∧ 0 ≤ rest
def sp_tip : Sp := fun vs H Q _ => ∃ (q c : Addr) (cells : List Int) (m k : Nat), vs = [.ref q, .int (m : Int)] ∧ QA H q c cells k ∧ k ≤ 10000 ∧ 1 ≤ m ∧ m ≤ 100000 ∧
  ∀ (H' : Hp) (j : Nat), j < m → Mv q H H' → QA H' q c cells (k + 1) → Q (.int (j : Int)) H'
theorem mod_nat (i : Int) {m : Nat} (h : 1 ≤ m) : ∃ j : Nat, j < m ∧ i % (m : Int) = (j : Int) := by
  have h1 : 0 ≤ i % (m : Int) := Int.emod_nonneg i (by omega)
  have h2 : i % (m : Int) < (m : Int) := Int.emod_lt_of_pos i (by omega)
  exact ⟨(i % (m : Int)).toNat, by omega, by omega⟩
theorem mv_upd {q : Addr} {H : Hp} {o : HO} : Mv q H (upd H q o) := fun b u n e => by
  rw [upd_ne n]
  exact e
theorem divW {i : Int} {m : Nat} (h : 1 ≤ m) (h2 : m ≤ 100000) : CDivW i (m : Int) :=
  wide_div (b := 17) (by omega) (by omega) (by omega) (by omega)
theorem natAbs_small {x : Int} (h0 : 0 ≤ x) (h : x < 18446744073709551616) : x.natAbs < 2 ^ 64 := by
  have : (2 : Nat) ^ 64 = 18446744073709551616 := by decide
  omega
theorem mod_lo (i : Int) {m : Int} (h : 0 < m) : 0 ≤ i % m := Int.emod_nonneg i (by omega)
theorem mod_hi (i : Int) {m : Int} (h : 0 < m) : i % m < m := Int.emod_lt_of_pos i h
theorem pos_c {m : Int} (h : 0 < m) : 0 < m := h
theorem turn_sq {t : Int} (h0 : 0 ≤ t) (h1 : t ≤ 10000) : 0 ≤ t * t ∧ t * t ≤ 100000000 := by
  constructor
  · exact Int.mul_nonneg h0 h0
  · have := Int.mul_le_mul h1 h1 h0 (by omega : (0 : Int) ≤ 10000)
    omega
theorem mix_big {x t : Int} (hx0 : 0 ≤ x) (hx : x < 2147483648) (h0 : 0 ≤ t) (h1 : t ≤ 10000) : 0 ≤ x * (2 * t + 5000) ∧ x * (2 * t + 5000) ≤ 2147483648 * 25000 := by
  constructor
  · exact Int.mul_nonneg hx0 (by omega)
  · exact Int.mul_le_mul (by omega) (by omega) (by omega) (by omega)
theorem ok_l_tip (T : Txt K mg) : FnOk P w K mg base CX0 1 T.a_l_tip T.fd_l_tip ["_law_can_here", "_law_many"] sp_tip := by
  refine T.F_l_tip.ok sc_l_tip (fun vs H Q E h => ?_) (fun cdv A outer s0 H vs Q E hr h => ?_)
  · obtain ⟨q, c, cells, m, k, rfl, _⟩ := h
    rfl
  · obtain ⟨q, c, cells, m, k, rfl, hq, hk, m1, m2, want⟩ := h
    obtain ⟨turn, rest, eq, ec, t0, t1, r0⟩ := hq
    have mpos : (0 : Int) < (m : Int) := by omega
    have ncq : c ≠ q := fun e => by
      rw [e, eq] at ec
      have := HO.lst.inj (Option.some.inj ec)
      cases cells with
      | nil => cases this
      | cons x r => injection this with z _; cases z
    refine ⟨_, (pss_cons (ps_if (pt_cmpR op_gt (pe_ix ix_list (pv 0) pe_int (fun _ _ => rfl)) pe_int (nomark _)) (pss_cons (ps_set (i := 2) sc_l_tip.nd rfl (.inl rfl) (pe_ix ix_list (pv
    0) pe_int (fun _ _ => rfl))) (pss_cons (ps_asg (pe_op op_fdivW (pe_callTy call_int1 (by rfl) T.z_int (by decide +kernel) (pa_cons (pv 2) pa_nil)) (pv 1)) (pg_sub (pv
    0) pe_int set_list)) (pss_one (ps_ret (pe_op op_mod (pe_callTy call_int1 (by rfl) T.z_int (by decide +kernel) (pa_cons (pv 2) pa_nil)) (pv 1)))))) pss_nil) (pss_cons
    (ps_set (i := 3) sc_l_tip.nd rfl (.inl rfl) (pe_ix ix_list (pv 0) pe_int (fun _ _ => rfl))) (pss_cons (ps_asg (pe_op op_add (pv 3) pe_int) (pg_sub (pv 0) pe_int
    set_list)) (pss_cons (ps_set (i := 4) sc_l_tip.nd rfl (.inl rfl) (pe_op op_add (pe_op op_mul pe_int (pv 3)) pe_int)) (C8.pss_cut (ps_if (pt_cmpR (op_neD hr.units)
    (pe_ix ix_list (pv 0) pe_int (fun _ _ => rfl)) (pe_lst pa_nil) (nomark _)) (pss_one (ps_set (i := 4) sc_l_tip.nd rfl (.inl rfl) (pe_ix ix_list (pe_ix ix_list (pv 0)
    pe_int (fun _ _ => rfl)) (pe_op op_mod (pe_callTy call_int1 (by rfl) T.z_int (by decide +kernel) (pa_cons (pv 3) pa_nil)) (pe_callB call_len_seq (by rfl) T.z_len
    PySem.boot_len (pa_cons (pe_ix ix_list (pv 0) pe_int (fun _ _ => rfl)) pa_nil))) (fun _ _ => rfl)))) pss_nil) (C8.pss_cut (ps_if (PW.pt (pw_and (pt_cmpR op_lt (pv 3)
    (pe_callB call_len_seq (by rfl) T.z_len PySem.boot_len (pa_cons (pe_ix ix_list (pv 0) pe_int (fun _ _ => rfl)) pa_nil)) (nomark _)) (pw_and1 (pt_cmpR op_ge (pe_callB
    call_abs (by rfl) T.z_abs (by decide +kernel) (pa_cons (pv 4) pa_nil)) (pe_op op_pow pe_int pe_int) (nomark _))))) (pss_cons (ps_set (i := 2) sc_l_tip.nd rfl (.inl
    rfl) (pe_op op_add (pe_op op_mul pe_int (pe_op op_sub (pe_callB call_abs (by rfl) T.z_abs (by decide +kernel) (pa_cons (pv 4) pa_nil)) (pe_op op_pow pe_int pe_int)))
    (pe_callTy call_int1 (by rfl) T.z_int (by decide +kernel) (pa_cons (pe_cmpR op_lt (pv 4) pe_int (nomark _)) pa_nil)))) (pss_cons (ps_asg (pe_op op_fdivW (pe_callTy
    call_int1 (by rfl) T.z_int (by decide +kernel) (pa_cons (pv 2) pa_nil)) (pv 1)) (pg_sub (pv 0) pe_int set_list)) (pss_one (ps_ret (pe_op op_mod (pe_callTy call_int1
    (by rfl) T.z_int (by decide +kernel) (pa_cons (pv 2) pa_nil)) (pv 1)))))) pss_nil) (pss_cons (ps_set (i := 5) sc_l_tip.nd rfl (.inl rfl) (pe_op op_mod (pe_callTy
    call_int1 (by rfl) T.z_int (by decide +kernel) (pa_cons (pe_op op_pow (pe_op op_add (pe_op op_add (pe_op op_mod (pe_callTy call_int1 (by rfl) T.z_int
    (by decide +kernel) (pa_cons (pv 4) pa_nil)) pe_int) (pe_op op_mul pe_int (pv 3))) pe_int) pe_int) pa_nil)) pe_int)) (pss_cons (ps_set (i := 5) sc_l_tip.nd rfl (.inl
    rfl) (pe_op op_mod (pe_callTy call_int1 (by rfl) T.z_int (by decide +kernel) (pa_cons (pe_op op_pow (pe_op op_add (pe_op op_add (pe_op op_mul (pv 5) (pe_op op_add
    (pe_op op_mul pe_int (pv 3)) pe_int)) (pe_op op_mul (pe_op op_mul pe_int (pv 3)) (pv 3))) pe_int) pe_int) pa_nil)) pe_int)) (pss_one (ps_ret (pe_op op_mod (pe_callTy
    call_int1 (by rfl) T.z_int (by decide +kernel) (pa_cons (pe_op op_fdivW (pv 5) pe_int) pa_nil)) (pv 1)))))))))))), ?_⟩
    refine ⟨_, rfl, q, _, 2, .int rest, rfl, rfl, seqL eq, rfl, _, _, rfl, rfl, _, rfl, ?_⟩
    refine ite2 (fun pos => ?_) (fun pos => ?_)
    · -- what is left of a great cell
      refine ⟨_, rfl, q, _, 2, .int rest, rfl, rfl, seqL eq, rfl, ?_⟩
      refine ⟨_, rfl, .inl ⟨_, rfl, _, rfl, _, _, rfl, rfl, divW m1 m2, ?_⟩⟩
      refine ⟨_, rfl, q, _, 2, 2, rfl, rfl, eq, rfl, ?_⟩
      obtain ⟨j, hj, ej⟩ := mod_nat rest m1
      refine ⟨_, rfl, .inl ⟨_, rfl, _, rfl, _, _, rfl, rfl, mpos, ?_⟩⟩
      show Q (.int (rest % (m : Int))) _
      rw [ej]
      refine want _ j hj mv_upd ⟨turn, rest / (m : Int), upd_same, ?_, t0, by omega, Int.ediv_nonneg r0 (by omega)⟩
      rw [upd_ne ncq]
      exact ec
    · refine ⟨_, rfl, q, _, 1, .int turn, rfl, rfl, seqL eq, rfl, ?_⟩
      refine ⟨_, rfl, _, _, rfl, rfl, ?_⟩
      refine ⟨_, rfl, q, _, 1, 1, rfl, rfl, eq, rfl, ?_⟩
      refine ⟨_, rfl, _, _, rfl, rfl, .inl ⟨by decide, by decide⟩, _, _, rfl, rfl, ?_⟩
      -- the heap behind the count
      have eq1 : (upd H q (.lst [.ref c, .int (turn + 1), .int rest])) q = some (.lst [.ref c, .int (turn + 1), .int rest]) := upd_same
      have ec1 : (upd H q (.lst [.ref c, .int (turn + 1), .int rest])) c = some (.lst (cells.map V.int)) := by
        rw [upd_ne ncq]
        exact ec
      have mv1 : Mv q H (upd H q (.lst [.ref c, .int (turn + 1), .int rest])) := mv_upd
      refine ⟨fun σ H' => ∃ (x : Int) (y : Option V), σ = [some (.ref q), some (.int (m : Int)), none, some (.int turn), some (.int x), y] ∧
        Same (upd H q (.lst [.ref c, .int (turn + 1), .int rest])) H', ?_, ?_⟩
      · refine ⟨_, rfl, q, _, 0, .ref c, rfl, rfl, seqL eq1, rfl, Nat.zero_le _, fun l nl => ?_⟩
        have sl := same_new (o := .lst []) nl
        refine ⟨.list (cells.map PyData.int), .list (([] : List Int).map PyData.int), .lst (seqL (sl _ _ ec1)) (dp_ints _), .lst (seqL upd_same) .nil, shaped_lst _, shaped_lst [], _, rfl, ?_⟩
        refine ite2 (fun ne => ?_) (fun _ => ?_)
        · have hne : cells ≠ [] := fun z => by
            subst z
            cases ne
          have hlen : 1 ≤ cells.length := by
            cases cells with
            | nil => exact absurd rfl hne
            | cons x r => exact Nat.le_add_left 1 _
          obtain ⟨j, hj, ej⟩ := mod_nat turn hlen
          refine ⟨_, rfl, q, _, 0, .ref c, rfl, rfl, seqL (sl _ _ eq1), rfl, ?_⟩
          refine ⟨_, rfl, .inl ⟨_, rfl, ?_⟩⟩
          refine ⟨_, rfl, q, _, 0, .ref c, rfl, rfl, seqL (sl _ _ eq1), rfl, c, _, rfl, .inl (seqL (sl _ _ ec1)), ?_⟩
          refine ⟨_, _, rfl, rfl, by rw [List.length_map]; omega, ?_⟩
          have hx : cells[j]? = some (cells[j]'hj) := List.getElem?_eq_getElem hj
          refine ⟨c, _, _, .int (cells[j]'hj), rfl, rfl, seqL (sl _ _ ec1), ?_, ?_⟩
          · rw [List.length_map, ej]
            refine atI_nat ?_
            rw [List.getElem?_map, hx]
            rfl
          · exact ⟨_, none, rfl, sl⟩
        · exact ⟨_, none, rfl, sl⟩
      · rintro σ H' ⟨x, y, rfl, sm⟩
        have eq2 := sm _ _ eq1
        have ec2 := sm _ _ ec1
        have mv2 : Mv q H H' := mv1.trans (Same.mv sm)
        refine ⟨fun σ H'' => ∃ (x : Int) (y : Option V), σ = [some (.ref q), some (.int (m : Int)), none, some (.int turn), some (.int x), y] ∧ H'' = H', ?_, ?_⟩
        · refine ⟨_, rfl, _, rfl, q, _, 0, .ref c, rfl, rfl, seqL eq2, rfl, c, _, rfl, .inl (seqL ec2), _, _, rfl, rfl, _, rfl, ?_⟩
          refine ite2 (fun c1 => ?_) (fun c1 => ?_)
          · refine ⟨_, rfl, _, rfl, _, _, rfl, rfl, ⟨by decide, by decide, by decide⟩, _, _, rfl, rfl, _, rfl, ?_⟩
            refine ite2 (fun c2 => ?_) (fun c2 => ?_)
            · have big : (10 : Int) ^ (Int.toNat 18) ≤ (if x < 0 then -x else x) := of_decide_eq_true c2
              refine ⟨_, rfl, _, rfl, _, _, rfl, rfl, ⟨by decide, by decide, by decide⟩, _, _, rfl, rfl, _, _, rfl, rfl, .inl ⟨by decide, by decide⟩, ?_⟩
              refine ⟨_, rfl, _, _, rfl, rfl, .inr ⟨_, rfl, _, _, rfl, rfl, ?_⟩⟩
              refine ⟨_, rfl, .inl ⟨_, rfl, _, rfl, _, _, rfl, rfl, divW m1 m2, ?_⟩⟩
              refine ⟨_, rfl, q, _, 2, 2, rfl, rfl, eq2, rfl, ?_⟩
              have pos2 : 0 ≤ 2 * ((if x < 0 then -x else x) - 10 ^ (Int.toNat 18)) + (if decide (x < 0) = true then (1 : Int) else 0) := by
                have : (0 : Int) ≤ (if decide (x < 0) = true then (1 : Int) else 0) := by split <;> omega
                omega
              obtain ⟨j, hj, ej⟩ := mod_nat (2 * ((if x < 0 then -x else x) - 10 ^ (Int.toNat 18)) + (if decide (x < 0) = true then (1 : Int) else 0)) m1
              refine ⟨_, rfl, .inl ⟨_, rfl, _, rfl, _, _, rfl, rfl, mpos, ?_⟩⟩
              show Q (.int ((2 * ((if x < 0 then -x else x) - 10 ^ (Int.toNat 18)) + (if decide (x < 0) = true then (1 : Int) else 0)) % (m : Int))) _
              rw [ej]
              refine want _ j hj (mv2.trans mv_upd) ⟨turn + 1, _, upd_same, ?_, by omega, by omega, Int.ediv_nonneg pos2 (by omega)⟩
              rw [upd_ne ncq]
              exact ec2
            · exact ⟨x, y, rfl, rfl⟩
          · exact ⟨x, y, rfl, rfl⟩
        · rintro σ H'' ⟨x, y, rfl, rfl⟩
          have ht : turn ≤ 10000 := by omega
          have a1 := mod_lo x (m := 2147483549) (by decide)
          have a2 := mod_hi x (m := 2147483549) (by decide)
          refine ⟨_, rfl, .inl ⟨_, rfl, _, _, rfl, rfl, pos_c (by decide), _, rfl, _, _, rfl, rfl, .inl ⟨by decide, by decide⟩, _, _, rfl, rfl, _, _, rfl, rfl, ?_⟩⟩
          refine ⟨_, _, rfl, rfl, ⟨by decide, by decide, natAbs_small (by omega) (by omega)⟩, .inl ⟨_, rfl, _, _, rfl, rfl, pos_c (by decide), ?_⟩⟩
          dsimp only
          generalize hM : ((x % 2147483549 + 61463 * turn + 4561) ^ (Int.toNat 5)) % 2147483353 = M
          have b1 : 0 ≤ M := by
            rw [← hM]
            exact mod_lo _ (by decide)
          have b2 : M < 2147483353 := by
            rw [← hM]
            exact mod_hi _ (by decide)
          have d1 : 0 ≤ M * (2 * turn + 2539) := Int.mul_nonneg b1 (by omega)
          have d2 : M * (2 * turn + 2539) ≤ 2147483353 * 22539 := Int.mul_le_mul (by omega) (by omega) (by omega) (by omega)
          have e1 := (turn_sq t0 ht).1
          have e2 := (turn_sq t0 ht).2
          have e3 : 81077 * turn * turn = 81077 * (turn * turn) := Int.mul_assoc _ _ _
          refine ⟨_, rfl, _, rfl, _, _, rfl, rfl, .inl ⟨by decide, by decide⟩, _, _, rfl, rfl, _, _, rfl, rfl, .inl ⟨by omega, by omega⟩, ?_⟩
          refine ⟨_, rfl, _, _, rfl, rfl, .inl ⟨by decide, by decide⟩, _, rfl, _, _, rfl, rfl, .inl ⟨by omega, by omega⟩, _, _, rfl, rfl, _, _, rfl, rfl, ?_⟩
          refine ⟨_, _, rfl, rfl, ⟨by decide, by decide, natAbs_small (by omega) (by omega)⟩, .inl ⟨_, rfl, _, _, rfl, rfl, pos_c (by decide), ?_⟩⟩
          refine ⟨_, rfl, _, _, rfl, rfl, divW (m := 64) (by decide) (by decide), .inl ⟨_, rfl, _, rfl, _, _, rfl, rfl, mpos, ?_⟩⟩
          dsimp only
          generalize hN : (((M * (2 * turn + 2539) + 81077 * turn * turn + 61463) ^ (Int.toNat 3)) % 2147483563 / 64) = N
          obtain ⟨j, hj, ej⟩ := mod_nat N m1
          show Q (.int (N % (m : Int))) _
          rw [ej]
          exact want _ j hj mv2 ⟨turn + 1, rest, eq2, ec2, by omega, by omega, r0⟩
end
end My

set_option maxHeartbeats 2000000
namespace My
theorem getD_some {l : List Nat} {i n : Nat} (h : l[i]? = some n) : l.getD i 0 = n := by
  rw [List.getD_eq_getElem?_getD, h]
  rfl
theorem get_getD {l : List Nat} {i : Nat} (h : i < l.length) : l[i]? = some (l.getD i 0) := by
  rw [List.getD_eq_getElem?_getD, List.getElem?_eq_getElem h]
  rfl
/-! what is led -/
theorem ledUp_get {r s : List Nat} (hw : IsW r) (hl : s.length = r.length) : ∀ (k : Nat), k ≤ r.length → ∀ i, i < k → (ledUp r s k)[r.getD i 0]? = some (s.getD i 0)
  | 0, _, i, h => absurd h (Nat.not_lt_zero _)
  | k + 1, hk, i, hi => by
    have hk' : k < r.length := hk
    have e1 := get_getD hk'
    have e2 : s[k]? = some (s.getD k 0) := get_getD (by omega)
    rw [ledUp_succ e1 e2]
    have lk : r.getD k 0 < r.length := hw.lt e1
    by_cases e : i = k
    · subst e
      rw [List.getElem?_set_self (by rw [ledUp_len]; exact lk)]
    · have ih := ledUp_get hw hl k (Nat.le_of_lt hk') i (by omega)
      have ne : r.getD k 0 ≠ r.getD i 0 := by
        intro z
        have hi' : i < r.length := by omega
        have q1 := List.getElem?_eq_getElem hk'
        have q2 := List.getElem?_eq_getElem hi'
        have z1 : r[k] = r[i] := by
          have a1 := getD_some q1
          have a2 := getD_some q2
          rw [a1, a2] at z
          exact z
        have := (List.getElem_inj (h₀ := hk') (h₁ := hi') hw.nodup).mp z1
        omega
      rw [List.getElem?_set_ne ne]
      exact ih
theorem ledTo_get {r s : List Nat} (hw : IsW r) (hl : s.length = r.length) {i : Nat} (hi : i < r.length) : (ledTo r s)[r.getD i 0]? = some (s.getD i 0) :=
  ledUp_get hw hl _ (Nat.le_refl _) i hi
def leads (e t b : List Nat) : Bool := (List.range e.length).all fun i => decide (b.getD (e.getD i 0) 0 = t.getD i 0)
theorem leads_iff {e t b : List Nat} : leads e t b = true ↔ ∀ i, i < e.length → b.getD (e.getD i 0) 0 = t.getD i 0 := by
  unfold leads
  rw [List.all_eq_true]
  constructor
  · intro h i hi
    exact of_decide_eq_true (h i (List.mem_range.mpr hi))
  · intro h i hi
    exact decide_eq_true (h i (List.mem_range.mp hi))
theorem mem_getD {l : List Nat} {x : Nat} (h : x ∈ l) : ∃ i, i < l.length ∧ l.getD i 0 = x := by
  obtain ⟨i, hi, e⟩ := List.getElem_of_mem h
  exact ⟨i, hi, by rw [getD_some (List.getElem?_eq_getElem hi), e]⟩
theorem led_leads {e t b : List Nat} (hw : IsW e) (ht : t.length = e.length) (hb : b.length = e.length) : leads e t b = true ↔ ledTo e t = b := by
  rw [leads_iff]
  constructor
  · intro h
    refine List.ext_getElem? fun j => ?_
    by_cases hj : j < e.length
    · have hm : j ∈ e := hw.1.mem_iff.mpr (List.mem_range.mpr hj)
      obtain ⟨i, hi, q⟩ := mem_getD hm
      have g := ledTo_get hw ht hi
      rw [q] at g
      rw [g, get_getD (by omega), ← h i hi, q]
    · rw [List.getElem?_eq_none (by rw [ledTo_len]; omega), List.getElem?_eq_none (by omega)]
  · intro h i hi
    have g := ledTo_get hw ht hi
    rw [h] at g
    exact getD_some g
/-! all wirings -/
def nexts (n : Nat) (r : List Nat) : List (List Nat) := ((List.range n).filter fun b => !r.contains b).map fun b => r ++ [b]
def allUp (n : Nat) : Nat → List (List Nat)
  | 0 => [[]]
  | k + 1 => (allUp n k).flatMap (nexts n)
def allW (n : Nat) : List (List Nat) := allUp n n
theorem mem_nexts {n : Nat} {r e : List Nat} : e ∈ nexts n r ↔ ∃ x, x < n ∧ x ∉ r ∧ e = r ++ [x] := by
  unfold nexts
  rw [List.mem_map]
  constructor
  · rintro ⟨x, hx, rfl⟩
    rw [List.mem_filter, List.mem_range] at hx
    refine ⟨x, hx.1, fun z => ?_, rfl⟩
    have := hx.2
    simp [z] at this
  · rintro ⟨x, h1, h2, rfl⟩
    refine ⟨x, List.mem_filter.mpr ⟨List.mem_range.mpr h1, ?_⟩, rfl⟩
    simp [h2]
theorem mem_allUp {n : Nat} : ∀ {k : Nat} {e : List Nat}, e ∈ allUp n k ↔ e.length = k ∧ e.Nodup ∧ ∀ x ∈ e, x < n
  | 0, e => by
    show e ∈ [[]] ↔ _
    rw [List.mem_singleton]
    constructor
    · rintro rfl
      exact ⟨rfl, List.nodup_nil, fun x h => nomatch h⟩
    · rintro ⟨h, _⟩
      exact List.eq_nil_of_length_eq_zero h
  | k + 1, e => by
    show e ∈ (allUp n k).flatMap (nexts n) ↔ _
    rw [List.mem_flatMap]
    constructor
    · rintro ⟨r, hr, he⟩
      obtain ⟨h1, h2, h3⟩ := mem_allUp.mp hr
      obtain ⟨x, x1, x2, rfl⟩ := mem_nexts.mp he
      refine ⟨by rw [List.length_append, h1]; rfl, ?_, ?_⟩
      · rw [List.nodup_append]
        refine ⟨h2, by simp, fun a ha b hb => ?_⟩
        rw [List.mem_singleton.mp hb]
        rintro rfl
        exact x2 ha
      · intro y hy
        rcases List.mem_append.mp hy with hy | hy
        · exact h3 y hy
        · rw [List.mem_singleton.mp hy]
          exact x1
    · rintro ⟨h1, h2, h3⟩
      have ne : e ≠ [] := by
        intro z
        rw [z] at h1
        cases h1
      have e1 : e.dropLast ++ [e.getLast ne] = e := List.dropLast_concat_getLast ne
      rw [← e1, List.nodup_append] at h2
      refine ⟨e.dropLast, mem_allUp.mpr ⟨by rw [List.length_dropLast, h1]; rfl, h2.1, fun x hx => h3 x (List.dropLast_subset _ hx)⟩, ?_⟩
      refine mem_nexts.mpr ⟨e.getLast ne, h3 _ (List.getLast_mem ne), fun z => ?_, e1.symm⟩
      exact h2.2.2 _ z _ (List.mem_singleton.mpr rfl) rfl
theorem all_isPerm : ∀ n, n < 7 → ((allW n).all fun e => e.isPerm (List.range n)) = true := by decide +kernel
theorem allW_sub {n : Nat} (h6 : n ≤ 6) {e : List Nat} (h : e ∈ allW n) : e.Perm (List.range n) := by
  have := all_isPerm n (by omega)
  rw [List.all_eq_true] at this
  exact List.isPerm_iff.mp (this e h)
theorem mem_allW {n : Nat} (h1 : 1 ≤ n) (h6 : n ≤ 6) {e : List Nat} : e ∈ allW n ↔ IsW e ∧ e.length = n := by
  constructor
  · intro h
    have p := allW_sub h6 h
    have l : e.length = n := (mem_allUp.mp h).1
    exact ⟨⟨by rw [l]; exact p, by omega, by omega⟩, l⟩
  · rintro ⟨hw, l⟩
    refine mem_allUp.mpr ⟨l, hw.nodup, fun x hx => ?_⟩
    obtain ⟨i, hi, q⟩ := mem_getD hx
    rw [← q, ← l]
    exact hw.lt (get_getD hi)
theorem up_small : ∀ n, n < 7 → ∀ k, k < 7 → (allUp n k).length ≤ 720 := by decide +kernel
/-! in how many orders -/
def F : List Nat → Nat
  | [] => 1
  | x :: t => (1 + t.count x) * F t
theorem F_perm {s t : List Nat} (h : s.Perm t) : F s = F t := by
  induction h with
  | nil => rfl
  | cons x p ih =>
    show (1 + _) * F _ = (1 + _) * F _
    rw [ih, p.count_eq]
  | swap x y l =>
    show (1 + (x :: l).count y) * ((1 + l.count x) * F l) = (1 + (y :: l).count x) * ((1 + l.count y) * F l)
    rw [List.count_cons, List.count_cons]
    by_cases e : x = y
    · subst e
      rfl
    · have e1 : (x == y) = false := by simp [e]
      have e2 : (y == x) = false := by simp [Ne.symm e]
      rw [e1, e2]
      simp only [Bool.false_eq_true, if_false, Nat.add_zero]
      rw [← Nat.mul_assoc, ← Nat.mul_assoc, Nat.mul_comm (1 + l.count y)]
  | trans _ _ a b => exact a.trans b
def ordUp (s : List Nat) : Nat → Nat
  | 0 => 1
  | i + 1 => ordUp s i * (1 + ((s.take i).filter fun x => decide (x = s.getD i 0)).length)
def orders (s : List Nat) : Nat := ordUp s s.length
theorem filter_count (l : List Nat) (v : Nat) : (l.filter fun x => decide (x = v)).length = l.count v := by
  rw [List.count_eq_countP, List.countP_eq_length_filter]
  congr 1
theorem ordUp_F (s : List Nat) : ∀ i, i ≤ s.length → ordUp s i = F (s.take i).reverse
  | 0, _ => rfl
  | i + 1, h => by
    have h' : i < s.length := h
    rw [List.take_add_one, get_getD h']
    show ordUp s i * _ = F (s.take i ++ [s.getD i 0]).reverse
    rw [List.reverse_append, ordUp_F s i (Nat.le_of_lt h'), filter_count]
    show _ = (1 + (s.take i).reverse.count (s.getD i 0)) * F (s.take i).reverse
    rw [List.count_reverse, Nat.mul_comm]
theorem orders_F (s : List Nat) : orders s = F s := by
  unfold orders
  rw [ordUp_F s _ (Nat.le_refl _), List.take_length]
  exact F_perm (List.reverse_perm s)
/-! how many lead -/
def leadsUp (t b e : List Nat) (k : Nat) : Bool := (List.range k).all fun i => decide (b.getD (e.getD i 0) 0 = t.getD i 0)
theorem leadsUp_snoc {t b r : List Nat} {x k : Nat} (h : r.length = k) : leadsUp t b (r ++ [x]) (k + 1) = (leadsUp t b r k && decide (b.getD x 0 = t.getD k 0)) := by
  unfold leadsUp
  rw [List.range_succ, List.all_append]
  congr 1
  · rw [Bool.eq_iff_iff, List.all_eq_true, List.all_eq_true]
    have q : ∀ i, i < k → (r ++ [x]).getD i 0 = r.getD i 0 := fun i hi => by
      rw [List.getD_eq_getElem?_getD, List.getElem?_append_left (by omega), ← List.getD_eq_getElem?_getD]
    constructor
    · intro a i hi
      have := a i hi
      rw [q i (List.mem_range.mp hi)] at this
      exact this
    · intro a i hi
      rw [q i (List.mem_range.mp hi)]
      exact a i hi
  · have q : (r ++ [x]).getD k 0 = x := by
      rw [List.getD_eq_getElem?_getD, List.getElem?_append_right (by omega), h, Nat.sub_self]
      rfl
    rw [List.all_cons, List.all_nil, Bool.and_true, q]
theorem nodup_filter {p : Nat → Bool} {l : List Nat} (h : l.Nodup) : (l.filter p).Nodup := List.Pairwise.filter p h
theorem range_map_getD (b : List Nat) : (List.range b.length).map (fun i => b.getD i 0) = b := by
  refine List.ext_getElem? fun j => ?_
  rw [List.getElem?_map]
  by_cases h : j < b.length
  · rw [List.getElem?_range h, get_getD h]
    rfl
  · rw [List.getElem?_eq_none (by rw [List.length_range]; omega), List.getElem?_eq_none (by omega)]
    rfl
theorem map_of_leads {t b r : List Nat} {k : Nat} (hr : r.length = k) (hk : k ≤ t.length) (h : leadsUp t b r k = true) : r.map (fun x => b.getD x 0) = t.take k := by
  unfold leadsUp at h
  rw [List.all_eq_true] at h
  refine List.ext_getElem? fun j => ?_
  rw [List.getElem?_map]
  by_cases hj : j < k
  · have q := of_decide_eq_true (h j (List.mem_range.mpr hj))
    rw [get_getD (by omega : j < r.length), List.getElem?_take_of_lt hj, get_getD (by omega : j < t.length)]
    show some (b.getD (r.getD j 0) 0) = some (t.getD j 0)
    rw [q]
  · rw [List.getElem?_eq_none (by omega), List.getElem?_eq_none (by rw [List.length_take]; omega)]
    rfl
theorem ways {n k : Nat} {t b r : List Nat} (hn : b.length = n) (ht : t.length = n) (hp : t.Perm b) (hr : r ∈ allUp n k) (hk : k < n) (h : leadsUp t b r k = true) :
    ((nexts n r).filter fun e => leadsUp t b e (k + 1)).length = 1 + (t.drop (k + 1)).count (t.getD k 0) := by
  obtain ⟨l1, nd, lt⟩ := mem_allUp.mp hr
  have step : ((nexts n r).filter fun e => leadsUp t b e (k + 1)) = (((List.range n).filter fun x => decide (b.getD x 0 = t.getD k 0)).filter fun x => !r.contains x).map fun x => r ++ [x] := by
    unfold nexts
    rw [List.filter_map, List.filter_filter, List.filter_filter]
    congr 1
    refine List.filter_congr fun x _ => ?_
    show (leadsUp t b (r ++ [x]) (k + 1) && _) = _
    rw [leadsUp_snoc l1, h, Bool.true_and, Bool.and_comm]
  rw [step, List.length_map]
  -- all with this number, less those that are taken
  have c1 : ((List.range n).filter fun x => decide (b.getD x 0 = t.getD k 0)).length = t.count (t.getD k 0) := by
    rw [hp.count_eq]
    conv => rhs; rw [← range_map_getD b]
    rw [hn, List.count_eq_countP, List.countP_map, List.countP_eq_length_filter]
    congr 1
  have c2 : (((List.range n).filter fun x => decide (b.getD x 0 = t.getD k 0)).filter fun x => r.contains x).length = (t.take k).count (t.getD k 0) := by
    rw [← map_of_leads l1 (by omega) h, List.count_eq_countP, List.countP_map, List.countP_eq_length_filter]
    refine List.Perm.length_eq ?_
    rw [List.perm_ext_iff_of_nodup (nodup_filter (nodup_filter List.nodup_range)) (nodup_filter nd)]
    intro x
    rw [List.mem_filter, List.mem_filter, List.mem_filter, List.mem_range]
    constructor
    · rintro ⟨⟨_, q⟩, q2⟩
      refine ⟨by simpa using q2, ?_⟩
      show (b.getD x 0 == t.getD k 0) = true
      exact beq_iff_eq.mpr (of_decide_eq_true q)
    · rintro ⟨q1, q2⟩
      refine ⟨⟨lt x q1, decide_eq_true ?_⟩, by simpa using q1⟩
      simpa using q2
  have c3 := List.length_eq_countP_add_countP (fun x => r.contains x) (l := (List.range n).filter fun x => decide (b.getD x 0 = t.getD k 0))
  rw [List.countP_eq_length_filter, List.countP_eq_length_filter, c1, c2] at c3
  have c4 : t.count (t.getD k 0) = (t.take k).count (t.getD k 0) + (1 + (t.drop (k + 1)).count (t.getD k 0)) := by
    have q : t[k]'(by omega) = t.getD k 0 := (getD_some (List.getElem?_eq_getElem (by omega : k < t.length))).symm
    have z := congrArg (List.count (t.getD k 0)) (List.take_append_drop k t)
    rw [List.count_append, List.drop_eq_getElem_cons (by omega : k < t.length), List.count_cons, q, beq_self_eq_true, if_pos rfl] at z
    omega
  have c5 : (((List.range n).filter fun x => decide (b.getD x 0 = t.getD k 0)).filter fun x => !r.contains x).length =
      (((List.range n).filter fun x => decide (b.getD x 0 = t.getD k 0)).filter fun a => decide (¬ r.contains a = true)).length := by
    congr 1
    refine List.filter_congr fun x _ => ?_
    cases r.contains x <;> rfl
  rw [c5]
  omega
theorem sum_const {α : Type} {f : α → Nat} {c : Nat} : ∀ l : List α, (∀ x ∈ l, f x = c) → (l.map f).sum = l.length * c
  | [], _ => by simp
  | x :: l, h => by
    rw [List.map_cons, List.sum_cons, sum_const l (fun y hy => h y (List.mem_cons_of_mem _ hy)), h x List.mem_cons_self, List.length_cons, Nat.succ_mul, Nat.add_comm]
theorem leaders_rows {n k : Nat} {t b : List Nat} :
    ((allUp n (k + 1)).filter fun e => leadsUp t b e (k + 1)) = ((allUp n k).filter fun e => leadsUp t b e k).flatMap (fun a => (nexts n a).filter fun e => leadsUp t b e (k + 1)) := by
  show (((allUp n k).flatMap (nexts n)).filter fun e => leadsUp t b e (k + 1)) = _
  rw [List.filter_flatMap]
  have gen : ∀ l : List (List Nat), (∀ r ∈ l, r ∈ allUp n k) → l.flatMap (fun a => (nexts n a).filter fun e => leadsUp t b e (k + 1)) =
      (l.filter fun e => leadsUp t b e k).flatMap (fun a => (nexts n a).filter fun e => leadsUp t b e (k + 1)) := by
    intro l
    induction l with
    | nil => exact fun _ => rfl
    | cons r l ih =>
      intro hl
      have il := ih fun x hx => hl x (List.mem_cons_of_mem _ hx)
      rw [List.flatMap_cons, il]
      cases q : leadsUp t b r k with
      | true => rw [List.filter_cons_of_pos (p := fun e => leadsUp t b e k) q, List.flatMap_cons]
      | false =>
        rw [List.filter_cons_of_neg (p := fun e => leadsUp t b e k) (by rw [q]; exact Bool.false_ne_true)]
        have nil : ((nexts n r).filter fun e => leadsUp t b e (k + 1)) = [] := by
          rw [List.filter_eq_nil_iff]
          intro e he
          obtain ⟨x, _, _, rfl⟩ := mem_nexts.mp he
          have l1 := (mem_allUp.mp (hl r List.mem_cons_self)).1
          rw [leadsUp_snoc l1, q, Bool.false_and]
          exact Bool.false_ne_true
        rw [nil, List.nil_append]
  exact gen _ fun r h => h
theorem leaders_step {n k : Nat} {t b : List Nat} (hn : b.length = n) (ht : t.length = n) (hp : t.Perm b) (hk : k < n) :
    ((allUp n (k + 1)).filter fun e => leadsUp t b e (k + 1)).length = ((allUp n k).filter fun e => leadsUp t b e k).length * (1 + (t.drop (k + 1)).count (t.getD k 0)) := by
  rw [leaders_rows, List.length_flatMap]
  refine sum_const _ fun r hr => ?_
  rw [List.mem_filter] at hr
  exact ways hn ht hp hr.1 hk hr.2
/-- those that lead, found straight on -/
def lup (n : Nat) (t b : List Nat) : Nat → List (List Nat)
  | 0 => [[]]
  | k + 1 => (lup n t b k).flatMap fun a => (nexts n a).filter fun e => leadsUp t b e (k + 1)
theorem lup_eq (n : Nat) (t b : List Nat) : ∀ k, ((allUp n k).filter fun e => leadsUp t b e k) = lup n t b k
  | 0 => rfl
  | k + 1 => by
    rw [leaders_rows, lup_eq n t b k]
    rfl
theorem leaders_many {n : Nat} {t b : List Nat} (hn : b.length = n) (ht : t.length = n) (hp : t.Perm b) :
    ∀ k, k ≤ n → ((allUp n k).filter fun e => leadsUp t b e k).length * F (t.drop k) = F t
  | 0, _ => by
    show _ * F (t.drop 0) = F t
    rw [List.drop_zero]
    show 1 * F t = F t
    exact Nat.one_mul _
  | k + 1, h => by
    have ih := leaders_many hn ht hp k (by omega)
    rw [leaders_step hn ht hp (by omega), ← ih, Nat.mul_assoc]
    congr 1
    rw [List.drop_eq_getElem_cons (by omega : k < t.length)]
    have q : t[k]'(by omega) = t.getD k 0 := (getD_some (List.getElem?_eq_getElem (by omega : k < t.length))).symm
    rw [q]
    rfl
theorem led_perm {r t : List Nat} (hw : IsW r) (ht : t.length = r.length) : t.Perm (ledTo r t) := by
  have e1 : r.map (fun x => (ledTo r t).getD x 0) = t := by
    refine List.ext_getElem? fun j => ?_
    rw [List.getElem?_map]
    by_cases hj : j < r.length
    · rw [get_getD hj, get_getD (by omega : j < t.length)]
      show some ((ledTo r t).getD (r.getD j 0) 0) = some (t.getD j 0)
      rw [getD_some (ledTo_get hw ht hj)]
    · rw [List.getElem?_eq_none (by omega), List.getElem?_eq_none (by omega)]
      rfl
  have e2 := hw.1.map (fun x => (ledTo r t).getD x 0)
  rw [e1] at e2
  have e3 := range_map_getD (ledTo r t)
  rw [ledTo_len] at e3
  rw [e3] at e2
  exact e2
def leaders (n : Nat) (t b : List Nat) : List (List Nat) := (allW n).filter fun e => leads e t b
theorem leaders_up (n : Nat) (t b : List Nat) : leaders n t b = (allUp n n).filter fun e => leadsUp t b e n := by
  unfold leaders allW
  refine List.filter_congr fun e he => ?_
  unfold leads leadsUp
  rw [(mem_allUp.mp he).1]
theorem leaders_lup (n : Nat) (t b : List Nat) : leaders n t b = lup n t b n := (leaders_up n t b).trans (lup_eq n t b n)
theorem leaders_orders {r t : List Nat} (hw : IsW r) (ht : t.length = r.length) : (leaders r.length t (ledTo r t)).length = orders t := by
  have h := leaders_many (n := r.length) (t := t) (b := ledTo r t) (ledTo_len r t) ht (led_perm hw ht) r.length (Nat.le_refl _)
  rw [List.drop_of_length_le (by omega)] at h
  rw [orders_F, ← h]
  show _ = _ * 1
  rw [Nat.mul_one]
  congr 1
  exact leaders_up _ _ _
theorem in_leaders {r t : List Nat} (hw : IsW r) (ht : t.length = r.length) : r ∈ leaders r.length t (ledTo r t) :=
  List.mem_filter.mpr ⟨(mem_allW hw.2.1 hw.2.2).mpr ⟨hw, rfl⟩, (led_leads hw ht (ledTo_len r t)).mpr rfl⟩
/-! the earliest -/
theorem first_all : ∀ n, n < 7 → ((allW n).all fun r => decide ((lup n (coloursOf r) (ledTo r (coloursOf r)) n).head? = some r)) = true := by decide +kernel
theorem first_leads {r : List Nat} (hw : IsW r) : (leaders r.length (coloursOf r) (ledTo r (coloursOf r))).head? = some r := by
  rw [leaders_lup]
  have h := first_all r.length (by have := hw.2.2; omega)
  rw [List.all_eq_true] at h
  exact of_decide_eq_true (h r ((mem_allW hw.2.1 hw.2.2).mpr ⟨hw, rfl⟩))
end My

namespace My
open PySem PySem.Spec PyProof.Rows L2
/-! comprehensions over a list, a tuple that stands: as they are read -/
section
variable {K : PySem.W.Frag} {g : TG} {tt : TT} {te : TE} {vs : List Nat} {σ : L2.St} {H1 : Hp} {Qd : Addr → Hp → Prop}
theorem lcL {a : Addr} {xs : List V} (hq : H1 a = some (.lst xs)) (outs : Nat → List V) (h0 : outs 0 = []) (hz : ∀ i, i ≤ xs.length → (outs i).length < sizeLine)
    (turn : ∀ (i : Nat) (x : V) (H : Hp) (Kt : V → Hp → Prop) (Kf : Hp → Prop), xs[i]? = some x → Same H1 H →
      (∀ y H4, Same H H4 → outs (i + 1) = outs i ++ [y] → Kt y H4) → (∀ H3, Same H H3 → outs (i + 1) = outs i → Kf H3) →
      g x (wipe σ vs) H fun σ2 H2 => wipe σ2 vs = wipe σ vs ∧ tt σ2 H2 fun b H3 => if b = true then te σ2 H3 fun y H4 => Kt y H4 else Kf H3)
    (hd : ∀ D H, Same H1 H → H1 D = none → H D = some (.lst (outs xs.length)) → Qd D H) :
    ∀ D, H1 D = none → ∃ W : Nat → Nat → Hp → Prop, (∃ m, W 0 m (upd H1 D (.lst []))) ∧ ∀ i m H, W i m H →
      ((Itl K a).stop i H ∧ Qd D H) ∨ ((Itl K a).go i H ∧ ∃ Nx : Hp → Prop, (∀ H', Nx H' → ∃ m', m' < m ∧ W (i + 1) m' H') ∧ ∀ x H', (Itl K a).yld i H x H' → g x (wipe σ vs) H' fun σ2 H2 => wipe σ2 vs = wipe σ vs ∧ tt σ2 H2 fun b H3 =>
        if b = true then te σ2 H3 fun y H4 => ∃ acc, H4 D = some (.lst acc) ∧ acc.length < sizeLine ∧ Nx (upd H4 D (.lst (acc ++ [y]))) else Nx H3) := by
  intro D nD
  refine lc_list (K := K) (a := a) (xs := xs) (fun i H => Same H1 H ∧ H D = some (.lst (outs i)))
    ⟨same_new nD, by rw [upd_same, h0]⟩ (fun i H _ hp => seqL (hp.1 _ _ hq)) (fun i x H hx ⟨s, e⟩ => ?_)
    (fun H hp => hd D H hp.1 nD hp.2)
  have li := (List.getElem?_eq_some_iff.mp hx).1
  refine turn i x H _ _ hx s (fun y H4 s4 eo => ?_) (fun H3 s3 eo => ?_)
  · exact ⟨outs i, s4 _ _ e, hz i (by omega), keepD (xs := []) nD s s4, by rw [upd_same, eo]⟩
  · exact ⟨s.trans s3, by rw [s3 _ _ e, eo]⟩
theorem lcT {a : Addr} {xs : List V} (hq : H1 a = some (.tup xs)) (outs : Nat → List V) (h0 : outs 0 = []) (hz : ∀ i, i ≤ xs.length → (outs i).length < sizeLine)
    (turn : ∀ (i : Nat) (x : V) (H : Hp) (Kt : V → Hp → Prop) (Kf : Hp → Prop), xs[i]? = some x → Same H1 H →
      (∀ y H4, Same H H4 → outs (i + 1) = outs i ++ [y] → Kt y H4) → (∀ H3, Same H H3 → outs (i + 1) = outs i → Kf H3) →
      g x (wipe σ vs) H fun σ2 H2 => wipe σ2 vs = wipe σ vs ∧ tt σ2 H2 fun b H3 => if b = true then te σ2 H3 fun y H4 => Kt y H4 else Kf H3)
    (hd : ∀ D H, Same H1 H → H1 D = none → H D = some (.lst (outs xs.length)) → Qd D H) :
    ∀ D, H1 D = none → ∃ W : Nat → Nat → Hp → Prop, (∃ m, W 0 m (upd H1 D (.lst []))) ∧ ∀ i m H, W i m H →
      ((Itt K a).stop i H ∧ Qd D H) ∨ ((Itt K a).go i H ∧ ∃ Nx : Hp → Prop, (∀ H', Nx H' → ∃ m', m' < m ∧ W (i + 1) m' H') ∧ ∀ x H', (Itt K a).yld i H x H' → g x (wipe σ vs) H' fun σ2 H2 => wipe σ2 vs = wipe σ vs ∧ tt σ2 H2 fun b H3 =>
        if b = true then te σ2 H3 fun y H4 => ∃ acc, H4 D = some (.lst acc) ∧ acc.length < sizeLine ∧ Nx (upd H4 D (.lst (acc ++ [y]))) else Nx H3) := by
  intro D nD
  refine lc_tup (K := K) (a := a) (xs := xs) (fun i H => Same H1 H ∧ H D = some (.lst (outs i)))
    ⟨same_new nD, by rw [upd_same, h0]⟩ (fun i H _ hp => seqT (hp.1 _ _ hq)) (fun i x H hx ⟨s, e⟩ => ?_)
    (fun H hp => hd D H hp.1 nD hp.2)
  have li := (List.getElem?_eq_some_iff.mp hx).1
  refine turn i x H _ _ hx s (fun y H4 s4 eo => ?_) (fun H3 s3 eo => ?_)
  · exact ⟨outs i, s4 _ _ e, hz i (by omega), keepD (xs := []) nD s s4, by rw [upd_same, eo]⟩
  · exact ⟨s.trans s3, by rw [s3 _ _ e, eo]⟩
end
/-- a loop over enumerate of a list -/
theorem for_enumL {K : PySem.W.Frag} {a : Addr} {xs : List V} {g : TG} {tb : TS} {D : Ends} {σ : L2.St} {H : Hp} (Pv : Nat → L2.St → Hp → Prop) (h0 : Pv 0 σ H)
    (hq : ∀ i σ H, Pv i σ H → SqL K H a xs)
    (hs : ∀ (i : Nat) (x : V) (T : Addr) (σ : L2.St) (H : Hp), xs[i]? = some x → Pv i σ H → H T = none →
      g (.ref T) σ (upd H T (.tup [.int (i : Nat), x])) fun σ2 H2 => tb { D with nx := Pv (i + 1), ct := Pv (i + 1), bk := D.nx } σ2 H2)
    (hd : ∀ σ H, Pv xs.length σ H → D.nx σ H) :
    ∃ W : Nat → Nat → L2.St → Hp → Prop, (∃ m, W 0 m σ H) ∧ ∀ i m σ H, W i m σ H →
      ((Ite K a).stop i H ∧ D.nx σ H) ∨ ((Ite K a).go i H ∧ ∃ N : L2.St → Hp → Prop, (∀ σ' H', N σ' H' → ∃ m', m' < m ∧ W (i + 1) m' σ' H') ∧
        ∀ v H', (Ite K a).yld i H v H' → g v σ H' fun σ2 H2 => tb { D with nx := N, ct := N, bk := D.nx } σ2 H2) := by
  refine ⟨fun i m σ H => m = xs.length - i ∧ i ≤ xs.length ∧ Pv i σ H,
    ⟨xs.length, rfl, Nat.zero_le _, h0⟩, ?_⟩
  rintro i m σ H ⟨rfl, hi, p⟩
  have qx := hq i σ H p
  by_cases hlt : i < xs.length
  · have hx : xs[i]? = some xs[i] := List.getElem?_eq_getElem hlt
    refine .inr ⟨⟨xs, _, qx, hx⟩, Pv (i + 1),
      fun σ' H' p' => ⟨xs.length - (i + 1), by omega, rfl, hlt, p'⟩, fun v H' y => ?_⟩
    obtain ⟨T, x', rfl, hT, rfl, f1⟩ := y
    exact hs i x' T σ H (f1 xs qx) p hT
  · have e : i = xs.length := by omega
    subst e
    exact .inl ⟨⟨xs, qx, Nat.le_refl _⟩, hd σ H p⟩
theorem ixQ {K : PySem.W.Frag} {H : Hp} {a : Addr} {xs : List V} {i : Int} {v : V} {Q : VK} (h : SqV H a xs) (e : atI xs i = some v) (q : Q v H) : rIx K (.ref a) (.int i) H Q := by
  rcases h with h | h
  · exact .inl ⟨a, xs, i, v, rfl, rfl, seqL h, e, q⟩
  · exact .inr (.inl ⟨a, xs, i, v, rfl, rfl, seqT h, e, q⟩)
theorem map_erase {α β : Type} (f : α → β) : ∀ (l : List α) (j : Nat), (l.map f).eraseIdx j = (l.eraseIdx j).map f
  | [], _ => rfl
  | _ :: _, 0 => rfl
  | x :: l, j + 1 => by
    show f x :: (l.map f).eraseIdx j = f x :: (l.eraseIdx j).map f
    rw [map_erase f l j]
theorem vN_erase (l : List Nat) (j : Nat) : (vN l).eraseIdx j = vN (l.eraseIdx j) := by
  unfold vN zz
  rw [map_erase, map_erase]
theorem erase_perm : ∀ (l : List Nat) (j x : Nat), l[j]? = some x → (x :: l.eraseIdx j).Perm l
  | [], _, _, h => by simp at h
  | y :: l, 0, x, h => by
    have e : y = x := by simpa using h
    rw [e]
    exact .refl _
  | y :: l, j + 1, x, h => by
    have ih := erase_perm l j x (by simpa using h)
    show (x :: y :: l.eraseIdx j).Perm (y :: l)
    exact (List.Perm.swap _ _ _).trans (ih.cons y)
theorem seqIx {j n : Nat} (h : j < n) : seqIndex? (j : Int) n = some j := (ixN_seq (ixN_at h)).1
/-- rows of numbers, each a tuple -/
def RowsAt (H : Hp) : List Addr → List (List Nat) → Prop
  | [], [] => True
  | a :: as, r :: rs => H a = some (.tup (vN r)) ∧ RowsAt H as rs
  | _, _ => False
theorem RowsAt.mono {H H' : Hp} (s : Same H H') : ∀ {as : List Addr} {rs : List (List Nat)}, RowsAt H as rs → RowsAt H' as rs
  | [], [], h => h
  | a :: as, r :: rs, h => ⟨s _ _ h.1, RowsAt.mono s h.2⟩
  | [], _ :: _, h => h
  | _ :: _, [], h => h
theorem RowsAt.len {H : Hp} : ∀ {as : List Addr} {rs : List (List Nat)}, RowsAt H as rs → as.length = rs.length
  | [], [], _ => rfl
  | a :: as, r :: rs, h => by
    rw [List.length_cons, List.length_cons, RowsAt.len h.2]
  | [], _ :: _, h => h.elim
  | _ :: _, [], h => h.elim
theorem RowsAt.app {H : Hp} : ∀ {as : List Addr} {rs : List (List Nat)} {bs : List Addr} {ss : List (List Nat)}, RowsAt H as rs → RowsAt H bs ss → RowsAt H (as ++ bs) (rs ++ ss)
  | [], [], _, _, _, h => h
  | a :: as, r :: rs, _, _, h, h2 => ⟨h.1, RowsAt.app h.2 h2⟩
  | [], _ :: _, _, _, h, _ => h.elim
  | _ :: _, [], _, _, h, _ => h.elim
theorem RowsAt.get {H : Hp} : ∀ {as : List Addr} {rs : List (List Nat)} {i : Nat} {a : Addr}, RowsAt H as rs → as[i]? = some a → ∃ r, rs[i]? = some r ∧ H a = some (.tup (vN r))
  | [], _, _, _, _, e => by simp at e
  | a :: as, r :: rs, 0, b, h, e => by
    have z : a = b := by simpa using e
    subst z
    exact ⟨r, rfl, h.1⟩
  | a :: as, r :: rs, i + 1, b, h, e => RowsAt.get (i := i) h.2 (by simpa using e)
  | _ :: _, [], _, _, h, _ => h.elim
abbrev vA (as : List Addr) : List V := as.map V.ref
section
variable {P : Program} {w : World} {K : PySem.W.Frag} {mg : Str → Option Value} {base : Heap}
/-! ### the script's numbers -/
def sp_can (K : PySem.W.Frag) : Sp := fun vs H Q _ => ∃ (a : Addr) (ns : List Int), vs = [.ref a] ∧ SqL K H a (ns.map V.int) ∧ ns.length ≤ 1000 ∧ ∀ H' q c cells, Same H H' → QA H' q c cells 0 → Q (.ref q) H'
theorem cut_ints (ns : List Int) (lo hi : Option Int) : ∃ ms : List Int, cutV (ns.map V.int) lo hi = ms.map V.int ∧ ms.length ≤ ns.length := by
  unfold cutV
  rw [← List.map_drop, ← List.map_take]
  exact ⟨_, rfl, by rw [List.length_take, List.length_drop]; omega⟩
theorem ok_l_can (T : Txt K mg) : FnOk P w K mg base CX0 1 T.a_l_can T.fd_l_can ["_law_script"] (sp_can K) := by
  refine T.F_l_can.ok sc_l_can (fun vs H Q E h => ?_) (fun cdv A outer s0 H vs Q E hr h => ?_)
  · obtain ⟨a, ns, rfl, _⟩ := h
    rfl
  · obtain ⟨a, ns, rfl, hS, hl, q⟩ := h
    refine ⟨_, (pss_one (ps_ret (pe_lst (pa_cons (pe_lc (own := [("_law_cell", 1)]) (g := gName 1) (by rfl) sc_l_can.nd (pi_list (pe_slice sl_list (pv 0) po_none (po_some pe_int)))
    (blkOk_by (N := ["_law_script", "_law_cell"]) (sc := defScope s_l_can) (own := [("_law_cell", 1)]) (by decide +kernel)) (fun _ _ _ _ _ => pg_name (i := 1) sc_l_can.nd
    rfl (Or.inl rfl)) (fun _ _ _ _ _ => pts_nil) (fun _ _ _ _ _ => (pe_callTy call_int1 (by rfl) T.z_int (by decide +kernel) (pa_cons (pv 1) pa_nil)))) (pa_cons pe_int
    (pa_cons pe_int pa_nil)))))), ?_⟩
    refine ⟨_, rfl, _, rfl, a, _, rfl, hS, fun p np => ?_⟩
    obtain ⟨ms, em, lm⟩ := cut_ints ns none (some 63)
    rw [em]
    have s1 := same_new (o := .lst (ms.map V.int)) np
    refine ⟨p, rfl, ⟨_, seqL upd_same⟩, ?_⟩
    refine lcL (xs := ms.map V.int) upd_same (fun i => (ms.take i).map V.int) rfl
      (fun i hi => small_of (by rw [List.length_map, List.length_take]; omega)) (fun i x H Kt Kf hx s kt kf => ?_) (fun D H2 s2 nD e => ?_)
    · rw [List.getElem?_map] at hx
      obtain ⟨z, hz, rfl⟩ := Option.map_eq_some_iff.mp hx
      refine ⟨rfl, tyes ?_⟩
      refine iteT ⟨_, rfl, .inl ⟨z, rfl, kt _ _ (Same.refl _) ?_⟩⟩
      rw [List.take_add_one, hz, List.map_append]
      rfl
    · rw [List.length_map, List.take_length] at e
      refine ⟨by show 3 ≤ sizeLine; decide, fun z nz => ?_⟩
      exact q _ z D ms (s1.trans (s2.trans (same_new nz))) ⟨0, 0, upd_same, same_new nz _ _ e, by omega, by omega, by omega⟩
theorem QA.ne {H : Hp} {q c : Addr} {cells : List Int} {k : Nat} (h : QA H q c cells k) : ∀ p, H p = none → p ≠ q := fun p np e => by
  obtain ⟨_, _, eq, _⟩ := h
  rw [← e, np] at eq
  cases eq
theorem QA.cne {H : Hp} {q c : Addr} {cells : List Int} {k : Nat} (h : QA H q c cells k) : ∀ p, H p = none → c ≠ p := fun p np e => by
  obtain ⟨_, _, _, ec, _⟩ := h
  rw [e, np] at ec
  cases ec
theorem QA.mono {H H' : Hp} {q c : Addr} {cells : List Int} {k : Nat} (h : QA H q c cells k) (s : Same H H') : QA H' q c cells k := by
  obtain ⟨t, r, e1, e2, z⟩ := h
  exact ⟨t, r, s _ _ e1, s _ _ e2, z⟩
theorem QA.upd {H : Hp} {q c p : Addr} {cells : List Int} {k : Nat} {o : HO} (h : QA H q c cells k) (n : p ≠ q) (m : c ≠ p) : QA (upd H p o) q c cells k := by
  obtain ⟨t, r, e1, e2, z⟩ := h
  exact ⟨t, r, by rw [upd_ne n.symm]; exact e1, by rw [upd_ne m]; exact e2, z⟩
/-! ### a wiring drawn -/
def sp_row : Sp := fun vs H Q _ => ∃ (q c : Addr) (cells : List Int) (n k : Nat), vs = [.ref q, .int (n : Int)] ∧ QA H q c cells k ∧ k ≤ 9000 ∧ 1 ≤ n ∧ n ≤ 6 ∧
  ∀ H' p r, IsW r → r.length = n → Mv q H H' → QA H' q c cells (k + n) → H' p = some (.lst (vN r)) → H p = none → Q (.ref p) H'
theorem ok_l_row (T : Txt K mg) : FnOk P w K mg base CX0 2 T.a_l_row T.fd_l_row ["_law_can_here", "_law_wires"] sp_row := by
  refine T.F_l_row.ok sc_l_row (fun vs H Q E h => ?_) (fun cdv A outer s0 H vs Q E hr h => ?_)
  · obtain ⟨q, c, cells, n, k, rfl, _⟩ := h
    rfl
  · obtain ⟨q, c, cells, n, k, rfl, hq, hk, n1, n6, want⟩ := h
    refine ⟨_, (pss_cons (ps_par (i := 2) (j := 3) (by rfl) sc_l_row.nd rfl rfl (by decide) rfl rfl (pa_cons (pe_listRg rfl (by rfl) T.z_list (prg_1 (by rfl) T.z_range (pv 1))) (pa_cons
    (pe_lst pa_nil) pa_nil)) (by rfl)) (pss_cons (ps_for PassesOwn.never rfl (pi_range1 (by rfl) T.z_range (pa_cons (pv 1) pa_nil)) (pg_name (i := 4) sc_l_row.nd rfl
    (.inl rfl)) (pss_one (ps_expr (pe_bm PySem.F.plainAttrs_list PySem.F.slot_list_append PySem.F.type_list_append mt_append (pv 3) (pa_cons (pe_bm
    PySem.F.plainAttrs_list PySem.F.slot_list_pop PySem.F.type_list_pop mt_popAt (pv 2) (pa_cons (pe_call (ok_l_tip T) (hr.mono (by decide)) (by rfl) T.g_l_tip
    T.F_l_tip.kp T.b_l_tip .nil pass0 (pa_cons (pv 0) (pa_cons (pe_callB call_len_seq (by rfl) T.z_len PySem.boot_len (pa_cons (pv 2) pa_nil)) pa_nil))) pa_nil))
    pa_nil))))) (pss_one (ps_ret (pv 3))))), ?_⟩
    refine ⟨_, rfl, _, rfl, RgOk.of_le (by omega) (by omega) (by omega) (by omega), fun l nl => ?_⟩
    rw [rg_vN]
    have s1 := same_new (o := .lst (vN (List.range n))) nl
    refine ⟨Nat.zero_le _, fun f nf => ?_⟩
    have s2 := s1.trans (same_new (o := .lst []) nf)
    have qne : ∀ p, H p = none → p ≠ q := hq.ne
    have cne : ∀ p, H p = none → c ≠ p := hq.cne
    have lf : l ≠ f := fun e => by
      rw [← e, upd_same] at nf
      cases nf
    have nf0 : H f = none := s1.free nf
    refine ⟨_, _, rfl, ?_⟩
    refine ⟨_, rfl, _, rfl, by omega, by omega, ?_⟩
    rw [Int.toNat_natCast]
    refine for_range (lo := 0) (n := n) (fun i σ H' => ∃ (left found : List Nat) (v4 : Option V), σ = [some (.ref q), some (.int (n : Int)), some (.ref l), some (.ref f), v4] ∧
      Mv q H H' ∧ QA H' q c cells (k + i) ∧ H' l = some (.lst (vN left)) ∧ H' f = some (.lst (vN found)) ∧ (found ++ left).Perm (List.range n) ∧ found.length = i)
      ⟨List.range n, [], none, rfl, Same.mv s2, hq.mono s2, ?_, upd_same, .refl _, rfl⟩ (fun i σ H' hi hp => ?_) (fun σ H' hp => ?_)
    · rw [upd_ne lf, upd_same]
    · obtain ⟨left, found, v4, rfl, mv, qa, hl, hf, pm, lf2⟩ := hp
      have lenl : left.length = n - i := by
        have := pm.length_eq
        rw [List.length_append, List.length_range] at this
        omega
      refine ⟨_, rfl, .inl ⟨rfl, _, seqL hf⟩, ?_⟩
      refine ⟨_, rfl, .inl ⟨rfl, _, seqL hl⟩, ?_⟩
      refine ⟨_, rfl, _, rfl, l, _, rfl, .inl (seqL hl), q, c, cells, left.length, k + i, ?_, qa, by omega, by omega, by omega, fun H2 j hj mv2 qa2 => ?_⟩
      · rw [vN_len]
        rfl
      have lq := qne l nl
      have fq := qne f nf0
      have hl2 := mv2 _ _ lq hl
      have hf2 := mv2 _ _ fq hf
      obtain ⟨x, hx⟩ : ∃ x, left[j]? = some x := ⟨_, List.getElem?_eq_getElem hj⟩
      refine ⟨l, _, _, j, .int (x : Int), rfl, rfl, hl2, by omega, by omega, seqIx (by rw [vN_len]; exact hj), vN_get hx, ?_⟩
      refine ⟨f, vN found, _, rfl, rfl, ?_, small_of (by rw [vN_len]; omega), ?_⟩
      · rw [upd_ne (Ne.symm lf)]
        exact hf2
      refine ⟨left.eraseIdx j, found ++ [x], _, rfl, fun b o nb e => ?_, ?_, ?_, ?_, ?_, ?_⟩
      · rw [upd_ne (ne_of_none e nf0), upd_ne (ne_of_none e nl)]
        exact mv2 _ _ nb (mv _ _ nb e)
      · exact (qa2.upd (qne l nl) (cne l nl)).upd (qne f nf0) (cne f nf0)
      · rw [upd_ne lf, upd_same, vN_erase]
      · rw [upd_same, vN_snoc]
      · refine List.Perm.trans ?_ pm
        rw [List.append_assoc]
        exact (erase_perm left j x hx).append_left found
      · rw [List.length_append, lf2]
        rfl
    · obtain ⟨left, found, v4, rfl, mv, qa, hl, hf, pm, lf2⟩ := hp
      have e0 : left = [] := by
        have := pm.length_eq
        rw [List.length_append, List.length_range] at this
        exact List.eq_nil_of_length_eq_zero (by omega)
      subst e0
      rw [List.append_nil] at pm
      exact ⟨_, rfl, want _ f found ⟨by rw [lf2]; exact pm, by omega, by omega⟩ lf2 mv qa hf nf0⟩
end
end My

namespace My
open PySem PySem.Spec PyProof.Rows L2
def nextP (r : List Nat) (i : Nat) : List (List Nat) := ((List.range i).filter fun b => !r.contains b).map fun b => r ++ [b]
theorem nextP_yes {r : List Nat} {i : Nat} (h : i ∉ r) : nextP r (i + 1) = nextP r i ++ [r ++ [i]] := by
  unfold nextP
  have e : ([i].filter fun b => !r.contains b) = [i] := List.filter_cons_of_pos (p := fun b => !r.contains b) (by simp [h])
  rw [List.range_succ, List.filter_append, List.map_append, e]
  rfl
theorem nextP_no {r : List Nat} {i : Nat} (h : i ∈ r) : nextP r (i + 1) = nextP r i := by
  unfold nextP
  have e : ([i].filter fun b => !r.contains b) = [] := List.filter_cons_of_neg (p := fun b => !r.contains b) (by simp [h])
  rw [List.range_succ, List.filter_append, List.map_append, e, List.map_nil, List.append_nil]
theorem nextP_len (r : List Nat) (i : Nat) : (nextP r i).length ≤ i := by
  unfold nextP
  rw [List.length_map]
  have := List.length_filter_le (fun b => !r.contains b) (List.range i)
  rw [List.length_range] at this
  exact this
theorem vA_app (as bs : List Addr) : vA (as ++ bs) = vA as ++ vA bs := List.map_append
theorem vA_snoc (as : List Addr) (a : Addr) : vA (as ++ [a]) = vA as ++ [V.ref a] := List.map_append
theorem in_vN (i : Nat) (r : List Nat) : inV (.int (i : Int)) (vN r) = r.contains i := by
  unfold inV vN zz
  rw [List.map_map, List.any_map]
  rw [Bool.eq_iff_iff, List.any_eq_true]
  constructor
  · rintro ⟨x, hx, e⟩
    have e' : ((x : Int) == (i : Int)) = true := e
    have : (x : Int) = (i : Int) := by simpa using e'
    have : x = i := by omega
    subst this
    simpa using hx
  · intro h
    refine ⟨i, by simpa using h, ?_⟩
    show ((i : Int) == (i : Int)) = true
    simp
theorem flat_vN (r : List Nat) : (vN r).all flatV = true := by
  rw [List.all_eq_true]
  intro x hx
  obtain ⟨z, _, rfl⟩ := List.mem_map.mp hx
  rfl
section
variable {P : Program} {w : World} {K : PySem.W.Frag} {mg : Str → Option Value} {base : Heap}
/-! ### all wirings -/
def sp_all : Sp := fun vs H Q _ => ∃ n : Nat, vs = [.int (n : Int)] ∧ 1 ≤ n ∧ n ≤ 6 ∧
  ∀ H' p as, Same H H' → H' p = some (.lst (vA as)) → RowsAt H' as (allW n) → Q (.ref p) H'
theorem rows_snoc {H : Hp} {as : List Addr} {rs : List (List Nat)} {a : Addr} {r : List Nat} (h : RowsAt H as rs) (e : H a = some (.tup (vN r))) : RowsAt H (as ++ [a]) (rs ++ [r]) :=
  RowsAt.app h ⟨e, True.intro⟩
theorem ok_l_all (T : Txt K mg) : FnOk P w K mg base CX0 1 T.a_l_all T.fd_l_all ["_law_wires"] sp_all := by
  refine T.F_l_all.ok sc_l_all (fun vs H Q E h => ?_) (fun cdv A outer s0 H vs Q E hr h => ?_)
  · obtain ⟨n, rfl, _⟩ := h
    rfl
  · obtain ⟨n, rfl, n1, n6, want⟩ := h
    refine ⟨_, (pss_cons (ps_set (i := 1) sc_l_all.nd rfl (.inl rfl) (pe_lst (pa_cons (pe_tup pa_nil) pa_nil))) (pss_cons (ps_for PassesOwn.never rfl (pi_range1 (by rfl) T.z_range
    (pa_cons (pv 0) pa_nil)) (pg_name (i := 2) sc_l_all.nd rfl (.inl rfl)) (pss_cons (ps_set (i := 3) sc_l_all.nd rfl (.inl rfl) (pe_lst pa_nil)) (pss_cons (ps_for
    PassesOwn.never rfl (pi_list (pv 1)) (pg_name (i := 4) sc_l_all.nd rfl (.inr rfl)) (pss_one (ps_expr (pe_bm PySem.F.plainAttrs_list PySem.F.slot_list_extend
    PySem.F.type_list_extend mt_extend (pv 3) (pa_cons (pe_lc (own := [("_law_bottom", 5)]) (g := gName 5) (by rfl) sc_l_all.nd (pi_range1 (by rfl) T.z_range (pa_cons (pv
    0) pa_nil)) (blkOk_by (N := ["_law_wires", "_law_found", "_law_top", "_law_longer", "_law_row_here", "_law_bottom"]) (sc := defScope s_l_all) (own := [("_law_bottom",
    5)]) (by decide +kernel)) (fun _ _ _ _ _ => pg_name (i := 5) sc_l_all.nd rfl (Or.inl rfl)) (fun _ _ _ _ _ => pts_one (pt_cmpR (r := rIn K true) op_notIn_seq (pv 5)
    (pv 4) (by rfl))) (fun _ _ _ _ _ => (pe_op (r := rCatA K) op_catA (pv 4) (pe_tup (pa_cons (pv 5) pa_nil))))) pa_nil))))) (pss_one (ps_set (i := 1) sc_l_all.nd rfl
    (.inl rfl) (pv 3)))))) (pss_one (ps_ret (pv 1))))), ?_⟩
    refine ⟨by show 0 ≤ sizeLine; decide, fun t0 nt0 => ?_⟩
    have s1 := same_new (o := .tup []) nt0
    refine ⟨by show 1 ≤ sizeLine; decide, fun p0 np0 => ?_⟩
    have s2 := same_new (o := .lst [V.ref t0]) np0
    refine ⟨_, rfl, _, rfl, by omega, by omega, ?_⟩
    rw [Int.toNat_natCast]
    refine for_range (lo := 0) (n := n) (fun i σ H' => ∃ (p : Addr) (as : List Addr) (v2 v3 v4 v5 : Option V), σ = [some (.int (n : Int)), some (.ref p), v2, v3, v4, v5] ∧
      Same H H' ∧ H' p = some (.lst (vA as)) ∧ RowsAt H' as (allUp n i))
      ⟨p0, [t0], none, none, none, none, rfl, s1.trans s2, upd_same, s2 _ _ upd_same, True.intro⟩ (fun i σ H' hi hp => ?_) (fun σ H' hp => ?_)
    · obtain ⟨p, as, v2, v3, v4, v5, rfl, sm, ep, ra⟩ := hp
      have small := up_small n (by omega) (i + 1) (by omega)
      refine ⟨Nat.zero_le _, fun L nL => ?_⟩
      have s3 := same_new (o := .lst []) nL
      refine ⟨_, rfl, p, rfl, ⟨_, seqL (s3 _ _ ep)⟩, ?_⟩
      refine for_list (K := K) (a := p) (xs := vA as) (fun j σ H2 => ∃ (bs : List Addr) (v2 v4 v5 : Option V), σ = [some (.int (n : Int)), some (.ref p), v2, some (.ref L), v4, v5] ∧
        Same H' H2 ∧ H2 L = some (.lst (vA bs)) ∧ RowsAt H2 bs (((allUp n i).take j).flatMap (nexts n)))
        ⟨[], _, _, _, rfl, s3, upd_same, True.intro⟩ (fun j σ H2 _ ⟨_, _, _, _, _, s, _⟩ => seqL (s _ _ ep)) (fun j x σ H2 hx hp2 => ?_) (fun σ H2 hp2 => ?_)
      · obtain ⟨bs, w2, w4, w5, rfl, sm2, eL, rb⟩ := hp2
        rw [List.getElem?_map] at hx
        obtain ⟨a, ha, rfl⟩ := Option.map_eq_some_iff.mp hx
        obtain ⟨r, hr, er⟩ := RowsAt.get (ra.mono sm2) ha
        have lr : r.length ≤ 6 := by
          have := (mem_allUp.mp (List.mem_of_getElem? hr)).1
          omega
        refine ⟨_, rfl, .inl ⟨rfl, _, seqL eL⟩, ?_⟩
        -- the rows behind r
        refine ⟨_, rfl, _, rfl, by omega, by omega, ?_⟩
        rw [Int.toNat_natCast]
        intro D nD
        refine lc_range (lo := 0) (n := n) (fun b H3 => Same H2 H3 ∧ ∃ cs, H3 D = some (.lst (vA cs)) ∧ RowsAt H3 cs (nextP r b))
          ⟨same_new nD, [], upd_same, True.intro⟩ (fun b H3 hb ⟨s4, cs, eD, rc⟩ => ?_) (fun H3 ⟨s4, cs, eD, rc⟩ => ?_)
        · have e0 : (0 : Int) + (b : Int) = ((b : Nat) : Int) := by omega
          rw [e0]
          refine ⟨rfl, ?_⟩
          refine ⟨_, rfl, _, rfl, a, _, rfl, .inr (seqT (s4 _ _ er)), rfl, flat_vN r, _, rfl, ?_⟩
          rw [if_pos rfl, in_vN]
          by_cases hc : b ∈ r
          · have e1 : (!r.contains b) = false := by simp [hc]
            rw [e1]
            exact iteF ⟨s4, cs, eD, by rw [nextP_no hc]; exact rc⟩
          · have e1 : (!r.contains b) = true := by simp [hc]
            rw [e1]
            refine iteT ⟨_, rfl, _, rfl, by show 1 ≤ sizeLine; decide, fun t nt => ?_⟩
            have s5 := same_new (o := .tup [V.int (b : Int)]) nt
            have fin : ∀ (H4 : Hp) (y : Addr), Same H3 H4 → H4 y = some (.tup (vN (r ++ [b]))) → ∃ acc, H4 D = some (.lst acc) ∧ acc.length < sizeLine ∧
                (Same H2 (upd H4 D (.lst (acc ++ [V.ref y]))) ∧ ∃ cs, (upd H4 D (.lst (acc ++ [V.ref y]))) D = some (.lst (vA cs)) ∧ RowsAt (upd H4 D (.lst (acc ++ [V.ref y]))) cs (nextP r (b + 1))) := by
              intro H4 y s6 ey
              have eD4 := s6 _ _ eD
              have lc := rc.len
              have := nextP_len r b
              refine ⟨_, eD4, small_of (by rw [List.length_map]; omega), keepD (xs := []) nD s4 s6, cs ++ [y], by rw [upd_same, vA_snoc], ?_⟩
              have sD : ∀ as rs, RowsAt H4 as rs → RowsAt (upd H4 D (.lst (vA cs ++ [V.ref y]))) as rs := by
                intro as
                induction as with
                | nil => intro rs h; cases rs <;> exact h
                | cons a as ih =>
                  intro rs h
                  cases rs with
                  | nil => exact h
                  | cons r rs => exact ⟨by rw [upd_ne (ne_of h.1 eD4 (by intro z; cases z))]; exact h.1, ih rs h.2⟩
              rw [nextP_yes hc]
              exact sD _ _ (rows_snoc (rc.mono s6) ey)
            refine ⟨a, t, _, _, rfl, rfl, seqT (s5 _ _ (s4 _ _ er)), seqT upd_same, ?_, fun z => ?_, fun _ z => ?_, fun z _ z2 nz2 => ?_⟩
            · have := small_of (n := (vN r).length + 1) (by rw [vN_len]; omega)
              exact Nat.le_of_lt this
            · have z' : r = [] := by
                cases r with
                | nil => rfl
                | cons _ _ => cases z
              subst z'
              exact fin _ t s5 upd_same
            · cases z
            · refine fin _ z2 (s5.trans (same_new nz2)) ?_
              rw [upd_same, ← vN_snoc]
        · have enx : nextP r n = nexts n r := rfl
          have lc := rc.len
          have lb := rb.len
          have hj : (allUp n i).take (j + 1) = (allUp n i).take j ++ [r] := by
            rw [List.take_add_one, hr]
            rfl
          have tot : (((allUp n i).take j).flatMap (nexts n)).length ≤ 720 := by
            have h1 : ((allUp n i).flatMap (nexts n)).length ≤ 720 := small
            conv at h1 => rw [← List.take_append_drop j (allUp n i)]
            rw [List.flatMap_append, List.length_append] at h1
            omega
          have nl := nextP_len r n
          have eL3 := s4 _ _ eL
          have nDL : D ≠ L := fun e => by
            rw [e, eL] at nD
            cases nD
          refine ⟨L, D, _, _, rfl, rfl, eL3, eD, ?_, ?_⟩
          · have := small_of (n := (vA bs).length + (vA cs).length) (by rw [List.length_map, List.length_map]; omega)
            exact Nat.le_of_lt this
          · refine ⟨bs ++ cs, _, _, _, rfl, fun b o e => ?_, by rw [upd_same, vA_app], ?_⟩
            · have nb : b ≠ L := ne_of_none e nL
              rw [upd_ne nb]
              exact s4 _ _ (sm2 _ _ e)
            · have sL : ∀ as rs, RowsAt H3 as rs → RowsAt (upd H3 L (.lst (vA bs ++ vA cs))) as rs := by
                intro as
                induction as with
                | nil => intro rs h; cases rs <;> exact h
                | cons a as ih =>
                  intro rs h
                  cases rs with
                  | nil => exact h
                  | cons r rs => exact ⟨by rw [upd_ne (ne_of h.1 eL3 (by intro z; cases z))]; exact h.1, ih rs h.2⟩
              rw [hj, List.flatMap_append]
              refine sL _ _ (RowsAt.app (rb.mono s4) ?_)
              rw [List.flatMap_cons, List.flatMap_nil, List.append_nil, ← enx]
              exact rc
      · obtain ⟨bs, w2, w4, w5, rfl, sm2, eL, rb⟩ := hp2
        refine ⟨_, rfl, L, bs, _, _, _, _, rfl, sm.trans sm2, eL, ?_⟩
        have e9 : (vA as).length = (allUp n i).length := by rw [List.length_map, ra.len]
        rw [e9, List.take_length] at rb
        exact rb
    · obtain ⟨p, as, v2, v3, v4, v5, rfl, sm, ep, ra⟩ := hp
      exact ⟨_, rfl, want _ p as sm ep ra⟩
/-! ### does it lead -/
def sp_does : Sp := fun vs H Q _ => ∃ (e t b : Addr) (r ts bs : List Nat), vs = [.ref e, .ref t, .ref b] ∧ SqV H e (vN r) ∧ SqV H t (vN ts) ∧ SqV H b (vN bs) ∧ IsW r ∧
  ts.length = r.length ∧ bs.length = r.length ∧ ∀ H', Same H H' → Q (.bl (leads r ts bs)) H'
def partL (r ts bs : List Nat) (i : Nat) : List Nat := (List.range i).filter fun j => !decide (bs.getD (r.getD j 0) 0 = ts.getD j 0)
theorem partL_len (r ts bs : List Nat) (i : Nat) : (partL r ts bs i).length ≤ i := by
  unfold partL
  have := List.length_filter_le (fun j => !decide (bs.getD (r.getD j 0) 0 = ts.getD j 0)) (List.range i)
  rw [List.length_range] at this
  exact this
theorem partL_succ (r ts bs : List Nat) (i : Nat) : partL r ts bs (i + 1) = partL r ts bs i ++ (if bs.getD (r.getD i 0) 0 = ts.getD i 0 then [] else [i]) := by
  unfold partL
  rw [List.range_succ, List.filter_append]
  congr 1
  by_cases h : bs.getD (r.getD i 0) 0 = ts.getD i 0
  · rw [if_pos h]
    exact List.filter_cons_of_neg (p := fun j => !decide (bs.getD (r.getD j 0) 0 = ts.getD j 0)) (by rw [decide_eq_true h]; exact Bool.false_ne_true)
  · rw [if_neg h]
    exact List.filter_cons_of_pos (p := fun j => !decide (bs.getD (r.getD j 0) 0 = ts.getD j 0)) (by rw [decide_eq_false h]; rfl)
theorem leads_part (r ts bs : List Nat) : leads r ts bs = decide (partL r ts bs r.length = []) := by
  rw [Bool.eq_iff_iff, leads_iff, decide_eq_true_eq]
  unfold partL
  rw [List.filter_eq_nil_iff]
  constructor
  · intro h i hi
    rw [decide_eq_true (h i (List.mem_range.mp hi))]
    exact Bool.false_ne_true
  · intro h i hi
    have := h i (List.mem_range.mpr hi)
    by_cases c : bs.getD (r.getD i 0) 0 = ts.getD i 0
    · exact c
    · rw [decide_eq_false c] at this
      exact absurd rfl this
theorem bl_eq {i j : Nat} : decide (V.int (i : Int) = V.int (j : Int)) = decide (i = j) := by
  rw [Bool.eq_iff_iff, decide_eq_true_eq, decide_eq_true_eq]
  constructor
  · intro h
    have := V.int.inj h
    omega
  · rintro rfl
    rfl
theorem ok_l_does_lead (T : Txt K mg) : FnOk P w K mg base CX0 1 T.a_l_does_lead T.fd_l_does_lead ["_law_row_here", "_law_tops", "_law_bottoms"] sp_does := by
  refine T.F_l_does_lead.ok sc_l_does_lead (fun vs H Q E h => ?_) (fun cdv A outer s0 H vs Q E hr h => ?_)
  · obtain ⟨e, t, b, r, ts, bs, rfl, _⟩ := h
    rfl
  · obtain ⟨e, t, b, r, ts, bs, rfl, he, ht, hb, hw, lt, lb, want⟩ := h
    have l6 := hw.2.2
    refine ⟨_, (pss_one (ps_ret (pe_cmpR (op_eqD hr.units) (pe_lc (own := [("_law_top", 3)]) (g := gName 3) (by rfl) sc_l_does_lead.nd (pi_range1 (by rfl) T.z_range (pa_cons (pe_callB
    call_len_seq (by rfl) T.z_len PySem.boot_len (pa_cons (pv 0) pa_nil)) pa_nil)) (blkOk_by (N := ["_law_row_here", "_law_tops", "_law_bottoms", "_law_top"]) (sc :=
    defScope s_l_does_lead) (own := [("_law_top", 3)]) (by decide +kernel)) (fun _ _ _ _ _ => pg_name (i := 3) sc_l_does_lead.nd rfl (Or.inl rfl)) (fun _ _ _ _ _ =>
    pts_one (pt_cmpR op_ne (pe_ix (r := rIx K) ix_seq (pv 2) (pe_ix (r := rIx K) ix_seq (pv 0) (pv 3) (fun _ _ => rfl)) (fun _ _ => rfl)) (pe_ix (r := rIx K) ix_seq (pv
    1) (pv 3) (fun _ _ => rfl)) (nomark _))) (fun _ _ _ _ _ => (pv 3))) (pe_lst pa_nil) (nomark _)))), ?_⟩
    unfold tRet tOp
    refine lcr (n := r.length) (H1 := H) (fun R h => ⟨_, rfl, e, _, rfl, he.or, by rw [vN_len]; exact h⟩) (by omega) (fun i => vN (partL r ts bs i)) rfl
      (fun i hi => small_of (by have := partL_len r ts bs i; rw [vN_len]; omega)) (fun i H2 Kt Kf hi s kt kf => ?_) (fun D H2 s nD eD => ?_)
    · have e0 : (0 : Int) + (i : Int) = ((i : Nat) : Int) := by omega
      rw [e0]
      have gi : r.getD i 0 < r.length := hw.lt (getD_at hi)
      refine ⟨rfl, ?_⟩
      refine ⟨_, rfl, _, rfl, _, rfl, ixQ (he.mono s) (vN_at hi) (ixQ (hb.mono s) (vN_at (by omega)) ?_)⟩
      refine ⟨_, rfl, _, rfl, ixQ (ht.mono s) (vN_at (by omega)) ⟨rfl, _, rfl, ?_⟩⟩
      rw [bl_eq]
      by_cases c : bs.getD (r.getD i 0) 0 = ts.getD i 0
      · rw [decide_eq_true c]
        refine iteF (kf _ (Same.refl _) ?_)
        rw [partL_succ, if_pos c, List.append_nil]
      · rw [decide_eq_false c]
        refine iteT ⟨_, rfl, kt _ _ (Same.refl _) ?_⟩
        rw [partL_succ, if_neg c, vN_snoc]
    · refine ⟨Nat.zero_le _, fun z nz => ?_⟩
      have s3 := same_new (o := .lst []) nz
      refine ⟨.list ((zz (partL r ts bs r.length)).map PyData.int), .list (([] : List Int).map PyData.int), .lst (seqL (s3 _ _ eD)) (dp_ints _), .lst (seqL upd_same) .nil, shaped_lst _, shaped_lst [], ?_⟩
      have e1 : PyData.eqv (.list ((zz (partL r ts bs r.length)).map PyData.int)) (.list (([] : List Int).map PyData.int)) = leads r ts bs := by
        show PyData.eqvAll _ _ = _
        rw [eqv_ints, leads_part, Bool.eq_iff_iff, decide_eq_true_eq, decide_eq_true_eq]
        unfold zz
        exact List.map_eq_nil_iff
      rw [e1]
      exact want _ (s.trans s3)
end
end My

namespace My
open PySem PySem.Spec PyProof.Rows L2
theorem ordUp_le (s : List Nat) : ∀ i, i ≤ 6 → ordUp s i ≤ 7 ^ i
  | 0, _ => Nat.le_refl _
  | i + 1, h => by
    have ih := ordUp_le s i (by omega)
    have h1 : 1 + ((s.take i).filter fun x => decide (x = s.getD i 0)).length ≤ 7 := by
      have := List.length_filter_le (fun x => decide (x = s.getD i 0)) (s.take i)
      rw [List.length_take] at this
      omega
    show ordUp s i * _ ≤ 7 ^ i * 7
    exact Nat.mul_le_mul ih h1
theorem ordUp_small (s : List Nat) {i : Nat} (h : i ≤ 6) : ordUp s i ≤ 117649 := by
  have h1 := ordUp_le s i h
  have h2 : 7 ^ i ≤ 7 ^ 6 := Nat.pow_le_pow_right (by decide) h
  have h3 : (7 : Nat) ^ 6 = 117649 := by decide
  omega
theorem cut_take (s : List Nat) {i : Nat} (h : i ≤ s.length) : cutV (vN s) none (some (i : Int)) = vN (s.take i) := by
  unfold cutV
  rw [HT.sIx_none, HT.sIx_nat, vN_len, List.drop_zero, Nat.sub_zero, Nat.min_eq_left h]
  unfold vN zz
  rw [← List.map_take, ← List.map_take]
def cntP (l : List Nat) (v j : Nat) : Nat := ((l.take j).filter fun x => decide (x = v)).length
theorem cntP_yes {l : List Nat} {v j x : Nat} (h : l[j]? = some x) (e : x = v) : cntP l v (j + 1) = cntP l v j + 1 := by
  unfold cntP
  rw [List.take_add_one, h, List.filter_append, List.length_append]
  congr 1
  show ([x].filter _).length = 1
  rw [List.filter_cons_of_pos (p := fun y => decide (y = v)) (decide_eq_true e)]
  rfl
theorem cntP_no {l : List Nat} {v j x : Nat} (h : l[j]? = some x) (e : ¬ x = v) : cntP l v (j + 1) = cntP l v j := by
  unfold cntP
  rw [List.take_add_one, h, List.filter_append, List.length_append]
  show _ + ([x].filter _).length = _
  rw [List.filter_cons_of_neg (p := fun y => decide (y = v)) (by rw [decide_eq_false e]; exact Bool.false_ne_true)]
  rfl
theorem cntP_le (l : List Nat) (v j : Nat) : cntP l v j ≤ j := by
  unfold cntP
  have := List.length_filter_le (fun x => decide (x = v)) (l.take j)
  rw [List.length_take] at this
  omega
section
variable {P : Program} {w : World} {K : PySem.W.Frag} {mg : Str → Option Value} {base : Heap}
/-! ### in how many orders -/
def sp_orders : Sp := fun vs H Q _ => ∃ (a : Addr) (s : List Nat), vs = [.ref a] ∧ SqV H a (vN s) ∧ s.length ≤ 6 ∧ ∀ H', Same H H' → Q (.int ((orders s : Nat) : Int)) H'
theorem ok_l_orders (T : Txt K mg) : FnOk P w K mg base CX0 1 T.a_l_orders T.fd_l_orders ["_law_setting"] sp_orders := by
  refine T.F_l_orders.ok sc_l_orders (fun vs H Q E h => ?_) (fun cdv A outer s0 H vs Q E hr h => ?_)
  · obtain ⟨a, s, rfl, _⟩ := h
    rfl
  · obtain ⟨a, s, rfl, hs, l6, want⟩ := h
    refine ⟨_, (pss_cons (ps_set (i := 1) sc_l_orders.nd rfl (.inl rfl) pe_int) (pss_cons (ps_for PassesOwn.never rfl (pi_enumS (by rfl) T.z_enumerate (pa_cons (pv 0) pa_nil)) (pg_tup
    (by rfl) (pgs_cons (pg_name (i := 2) sc_l_orders.nd rfl (.inl rfl)) (pgs_cons (pg_name (i := 3) sc_l_orders.nd rfl (.inr rfl)) pgs_nil))) (pss_one (ps_set (i := 1)
    sc_l_orders.nd rfl (.inl rfl) (pe_op op_mul (pv 1) (pe_op op_add pe_int (pe_callB call_len_seq (by rfl) T.z_len PySem.boot_len (pa_cons (pe_lc (own := [("_law_ahead",
    4)]) (g := gName 4) (by rfl) sc_l_orders.nd (pi_seq (pe_slice (SlR.or sl_list sl_tupA) (pv 0) po_none (po_some (pv 2)))) (blkOk_by (N := ["_law_setting",
    "_law_found", "_law_at", "_law_number", "_law_ahead"]) (sc := defScope s_l_orders) (own := [("_law_ahead", 4)]) (by decide +kernel)) (fun _ _ _ _ _ => pg_name (i :=
    4) sc_l_orders.nd rfl (Or.inl rfl)) (fun _ _ _ _ _ => pts_one (pt_cmpR op_eq (pv 4) (pv 3) (nomark _))) (fun _ _ _ _ _ => pe_int)) pa_nil))))))) (pss_one (ps_ret (pv
    1))))), ?_⟩
    have fin : ∀ (σ : L2.St) (H' : Hp), (∃ v2 v3 v4, σ = [some (.ref a), some (.int ((ordUp s (vN s).length : Nat) : Int)), v2, v3, v4] ∧ Same H H') → tRet (tVar 1) { nx := fun _ H' => Q .non H', rt := Q } σ H' := by
      rintro σ H' ⟨v2, v3, v4, rfl, sm⟩
      refine ⟨_, rfl, ?_⟩
      rw [vN_len]
      exact want _ sm
    have mulq : ∀ {i : Nat}, i ≤ 6 → (-(2 ^ 64) < ((ordUp s i : Nat) : Int) ∧ ((ordUp s i : Nat) : Int) < 2 ^ 64) := fun {i} hi => by
      have := ordUp_small s hi
      omega
    have val : ∀ (i : Nat) (ys : List V), ys.length = cntP (s.take i) (s.getD i 0) i → V.int (((ordUp s i : Nat) : Int) * (1 + (ys.length : Int))) = V.int ((ordUp s (i + 1) : Nat) : Int) := fun i ys e => by
      rw [e]
      unfold cntP
      rw [List.take_take, Nat.min_self]
      show _ = V.int ((ordUp s i * (1 + _) : Nat) : Int)
      rw [Int.natCast_mul]
      rfl
    rcases hs with hs | hs
    · refine .inl ⟨_, rfl, a, _, rfl, seqL hs, ?_⟩
      refine for_enumL (xs := vN s) (fun i σ H' => ∃ v2 v3 v4, σ = [some (.ref a), some (.int ((ordUp s i : Nat) : Int)), v2, v3, v4] ∧ Same H H')
        ⟨none, none, none, rfl, Same.refl _⟩ (fun i σ H' ⟨_, _, _, _, sm⟩ => seqL (sm _ _ hs)) (fun i x t σ H' hx hp nt => ?_) fin
      obtain ⟨v2, v3, v4, rfl, sm⟩ := hp
      obtain ⟨n, hn, rfl⟩ := vN_some hx
      have li : i < s.length := (List.getElem?_eq_some_iff.mp hn).1
      have hd : s.getD i 0 = n := getD_of hn
      have s1 := sm.trans (same_new (o := .tup [.int (i : Nat), .int (n : Int)]) nt)
      refine ⟨t, _, rfl, seqT upd_same, rfl, _, [.int (n : Int)], rfl, _, [], rfl, rfl, ?_⟩
      refine ⟨_, rfl, .inl ⟨_, rfl, _, rfl, _, rfl, .inl ⟨a, _, rfl, seqL (s1 _ _ hs), fun p np => ⟨p, rfl, ⟨_, seqL upd_same⟩, ?_⟩⟩⟩⟩
      rw [cut_take s (by omega)]
      refine lcL (xs := vN (s.take i)) upd_same (fun j => List.replicate (cntP (s.take i) n j) (V.int 1)) rfl
        (fun j hj => small_of (by have := cntP_le (s.take i) n j; rw [List.length_replicate]; rw [vN_len, List.length_take] at hj; omega)) (fun j x H2 Kt Kf hx s2 kt kf => ?_) (fun D H2 s2 nD eD => ?_)
      · obtain ⟨m, hm, rfl⟩ := vN_some hx
        refine ⟨rfl, ?_⟩
        refine ⟨_, rfl, _, rfl, rfl, _, rfl, ?_⟩
        rw [bl_eq]
        by_cases c : m = n
        · rw [decide_eq_true c]
          exact iteT (kt _ _ (Same.refl _) (by rw [cntP_yes hm c, List.replicate_succ']))
        · rw [decide_eq_false c]
          exact iteF (kf _ (Same.refl _) (by rw [cntP_no hm c]))
      · rw [vN_len, List.length_take, Nat.min_eq_left (by omega)] at eD
        refine ⟨D, _, rfl, .inl (seqL eD), _, _, rfl, rfl, _, _, rfl, rfl, .inl (mulq (by omega)), ?_⟩
        have ev := val i (List.replicate (cntP (s.take i) n i) (V.int 1)) (by rw [List.length_replicate, hd])
        exact ⟨_, _, _, by rw [← ev]; rfl, s1.trans ((same_new np).trans s2)⟩
    · refine .inr ⟨_, rfl, a, _, rfl, seqT hs, ?_⟩
      refine for_enumT (xs := vN s) (fun i σ H' => ∃ v2 v3 v4, σ = [some (.ref a), some (.int ((ordUp s i : Nat) : Int)), v2, v3, v4] ∧ Same H H')
        ⟨none, none, none, rfl, Same.refl _⟩ (fun i σ H' ⟨_, _, _, _, sm⟩ => seqT (sm _ _ hs)) (fun i x t σ H' hx hp nt => ?_) fin
      obtain ⟨v2, v3, v4, rfl, sm⟩ := hp
      obtain ⟨n, hn, rfl⟩ := vN_some hx
      have li : i < s.length := (List.getElem?_eq_some_iff.mp hn).1
      have hd : s.getD i 0 = n := getD_of hn
      have s1 := sm.trans (same_new (o := .tup [.int (i : Nat), .int (n : Int)]) nt)
      refine ⟨t, _, rfl, seqT upd_same, rfl, _, [.int (n : Int)], rfl, _, [], rfl, rfl, ?_⟩
      have notw : ¬ (HT.sIx (vN s).length 0 none = 0 ∧ HT.sIx (vN s).length (vN s).length (some (i : Int)) = (vN s).length) := by
        rw [HT.sIx_nat, vN_len]
        omega
      refine ⟨_, rfl, .inr ⟨_, rfl, _, rfl, _, rfl, .inr ⟨a, _, rfl, seqT (s1 _ _ hs), fun z => absurd z notw, fun _ p np => ⟨p, rfl, ⟨_, seqT upd_same⟩, ?_⟩⟩⟩⟩
      rw [cut_take s (by omega)]
      refine lcT (xs := vN (s.take i)) upd_same (fun j => List.replicate (cntP (s.take i) n j) (V.int 1)) rfl
        (fun j hj => small_of (by have := cntP_le (s.take i) n j; rw [List.length_replicate]; rw [vN_len, List.length_take] at hj; omega)) (fun j x H2 Kt Kf hx s2 kt kf => ?_) (fun D H2 s2 nD eD => ?_)
      · obtain ⟨m, hm, rfl⟩ := vN_some hx
        refine ⟨rfl, ?_⟩
        refine ⟨_, rfl, _, rfl, rfl, _, rfl, ?_⟩
        rw [bl_eq]
        by_cases c : m = n
        · rw [decide_eq_true c]
          exact iteT (kt _ _ (Same.refl _) (by rw [cntP_yes hm c, List.replicate_succ']))
        · rw [decide_eq_false c]
          exact iteF (kf _ (Same.refl _) (by rw [cntP_no hm c]))
      · rw [vN_len, List.length_take, Nat.min_eq_left (by omega)] at eD
        refine ⟨D, _, rfl, .inl (seqL eD), _, _, rfl, rfl, _, _, rfl, rfl, .inl (mulq (by omega)), ?_⟩
        have ev := val i (List.replicate (cntP (s.take i) n i) (V.int 1)) (by rw [List.length_replicate, hd])
        exact ⟨_, _, _, by rw [← ev]; rfl, s1.trans ((same_new np).trans s2)⟩
end
end My

namespace My
open PySem PySem.Spec PyProof.Rows L2
abbrev dI (r : List Nat) : PyData := .tuple ((zz r).map PyData.int)
def dTs (L : List (List Nat)) : List PyData := L.map dI
theorem eqv_dI (r s : List Nat) : PyData.eqv (dI r) (dI s) = decide (r = s) := by
  show PyData.eqvAll _ _ = _
  rw [eqv_ints, Bool.eq_iff_iff, decide_eq_true_eq, decide_eq_true_eq]
  exact ⟨zz_inj, fun h => by rw [h]⟩
theorem can_dTs : ∀ L : List (List Nat), PyData.canLayAll0 (dTs L) = true
  | [] => rfl
  | r :: L => by
    show (PyData.canLayAll0 ((zz r).map PyData.int) && PyData.canLayAll0 (dTs L)) = true
    rw [can_dTs L, can_ints]
    rfl
theorem depth_dTs : ∀ L : List (List Nat), PyData.depthAll (dTs L) ≤ 2
  | [] => by
    show 0 ≤ 2
    omega
  | r :: L => by
    have ih := depth_dTs L
    have h1 := depth_ints (zz r)
    show max (PyData.depthAll ((zz r).map PyData.int) + 1) (PyData.depthAll (dTs L)) ≤ 2
    omega
theorem shaped_dTs (L : List (List Nat)) : SeqAt.shaped (.list (dTs L)) = true := by
  have h := depth_dTs L
  show (PyData.canLayAll0 (dTs L) && decide (PyData.depthAll (dTs L) + 1 ≤ 64)) = true
  rw [can_dTs, decide_eq_true (by omega)]
  rfl
theorem shaped_pair (L : List (List Nat)) : SeqAt.shaped (.tuple (dTs L)) = true := by
  have h := depth_dTs L
  show (PyData.canLayAll0 (dTs L) && decide (PyData.depthAll (dTs L) + 1 ≤ 64)) = true
  rw [can_dTs, decide_eq_true (by omega)]
  rfl
theorem eqv_dTs : ∀ L M : List (List Nat), PyData.eqvAll (dTs L) (dTs M) = decide (L = M)
  | [], [] => by
    rw [decide_eq_true rfl]
    rfl
  | [], m :: M => by
    rw [decide_eq_false (fun h => nomatch h)]
    rfl
  | r :: L, [] => by
    rw [decide_eq_false (fun h => nomatch h)]
    rfl
  | r :: L, m :: M => by
    show (PyData.eqv (dI r) (dI m) && PyData.eqvAll (dTs L) (dTs M)) = _
    rw [eqv_dTs L M, eqv_dI]
    by_cases e : r = m
    · subst e
      by_cases e2 : L = M
      · subst e2
        simp
      · simp [e2]
    · simp [e]
theorem any_dTs (L : List (List Nat)) (e : List Nat) : ((dTs L).any fun z => PyData.eqv z (dI e)) = decide (e ∈ L) := by
  unfold dTs
  rw [List.any_map, Bool.eq_iff_iff, List.any_eq_true, decide_eq_true_eq]
  constructor
  · rintro ⟨x, hx, h⟩
    have h' : PyData.eqv (dI x) (dI e) = true := h
    rw [eqv_dI] at h'
    rw [← of_decide_eq_true h']
    exact hx
  · intro h
    refine ⟨e, h, ?_⟩
    show PyData.eqv (dI e) (dI e) = true
    rw [eqv_dI, decide_eq_true rfl]
theorem dp_tup {K : PySem.W.Frag} {H : Hp} {a : Addr} {r : List Nat} (h : H a = some (.tup (vN r))) : Dp K H (.ref a) (dI r) := .tup (seqT h) (dp_ints _)
theorem dp_rows {K : PySem.W.Frag} {H : Hp} : ∀ {as : List Addr} {rs : List (List Nat)}, RowsAt H as rs → DpAll K H (vA as) (dTs rs)
  | [], [], _ => .nil
  | a :: as, r :: rs, h => .cons (dp_tup h.1) (dp_rows h.2)
  | [], _ :: _, h => h.elim
  | _ :: _, [], h => h.elim
theorem QA.tup {H H' : Hp} {q c a : Addr} {cells : List Int} {k : Nat} {xs : List V} (h : QA H q c cells k) (m : Mv q H H') (e : H a = some (.tup xs)) : H' a = some (.tup xs) := by
  obtain ⟨t, r, eq, _⟩ := h
  exact m _ _ (ne_of e eq (by intro z; cases z)) e
theorem QA.rows {H H' : Hp} {q c : Addr} {cells : List Int} {k : Nat} (h : QA H q c cells k) (m : Mv q H H') : ∀ {as : List Addr} {rs : List (List Nat)}, RowsAt H as rs → RowsAt H' as rs
  | [], [], z => z
  | a :: as, r :: rs, z => ⟨h.tup m z.1, QA.rows h m z.2⟩
  | [], _ :: _, z => z.elim
  | _ :: _, [], z => z.elim
theorem QA.refs {H : Hp} {q c p : Addr} {cells : List Int} {k : Nat} {as : List Addr} (h : QA H q c cells k) (e : H p = some (.lst (vA as))) : p ≠ q := by
  rintro rfl
  obtain ⟨t, r, eq, _⟩ := h
  rw [e] at eq
  have z := HO.lst.inj (Option.some.inj eq)
  cases as with
  | nil => cases z
  | cons a as =>
    cases as with
    | nil => cases z
    | cons b as => cases z
theorem QA.ints {H : Hp} {q c p : Addr} {cells : List Int} {k : Nat} {s : List Nat} (h : QA H q c cells k) (e : H p = some (.lst (vN s))) : p ≠ q := by
  rintro rfl
  obtain ⟨t, r, eq, _⟩ := h
  rw [e] at eq
  have z := HO.lst.inj (Option.some.inj eq)
  cases s with
  | nil => cases z
  | cons a as => cases z
theorem QA.le {H : Hp} {q c : Addr} {cells : List Int} {k l : Nat} (h : QA H q c cells k) (m : k ≤ l) : QA H q c cells l := by
  obtain ⟨t, r, e1, e2, z1, z2, z3⟩ := h
  exact ⟨t, r, e1, e2, z1, by omega, z3⟩
def pick (f : List Nat → Bool) : List Addr → List (List Nat) → List Addr
  | a :: as, r :: rs => if f r = true then a :: pick f as rs else pick f as rs
  | _, _ => []
theorem pick_rows {f : List Nat → Bool} {H : Hp} : ∀ {as : List Addr} {rs : List (List Nat)}, RowsAt H as rs → RowsAt H (pick f as rs) (rs.filter f)
  | [], [], _ => True.intro
  | a :: as, r :: rs, h => by
    show RowsAt H (if f r = true then _ else _) _
    by_cases c : f r = true
    · rw [if_pos c, List.filter_cons_of_pos c]
      exact ⟨h.1, pick_rows h.2⟩
    · rw [if_neg c, List.filter_cons_of_neg c]
      exact pick_rows h.2
  | [], _ :: _, h => h.elim
  | _ :: _, [], h => h.elim
theorem pick_snoc {f : List Nat → Bool} {a : Addr} {r : List Nat} : ∀ {as : List Addr} {rs : List (List Nat)}, as.length = rs.length → pick f (as ++ [a]) (rs ++ [r]) = pick f as rs ++ (if f r = true then [a] else [])
  | [], [], _ => by
    show (if f r = true then a :: [] else []) = [] ++ _
    rw [List.nil_append]
  | x :: as, y :: rs, h => by
    have ih := pick_snoc (f := f) (a := a) (r := r) (as := as) (rs := rs) (by simpa using h)
    show (if f y = true then x :: pick f (as ++ [a]) (rs ++ [r]) else pick f (as ++ [a]) (rs ++ [r])) = (if f y = true then x :: pick f as rs else pick f as rs) ++ _
    rw [ih]
    by_cases c : f y = true
    · rw [if_pos c, if_pos c]
      rfl
    · rw [if_neg c, if_neg c]
  | [], _ :: _, h => by simp at h
  | _ :: _, [], h => by simp at h
theorem pick_len (f : List Nat → Bool) : ∀ (as : List Addr) (rs : List (List Nat)), (pick f as rs).length ≤ as.length
  | [], rs => by
    cases rs <;> exact Nat.le_refl 0
  | a :: as, [] => Nat.zero_le _
  | a :: as, r :: rs => by
    have ih := pick_len f as rs
    show (if f r = true then a :: pick f as rs else pick f as rs).length ≤ as.length + 1
    by_cases c : f r = true
    · rw [if_pos c, List.length_cons]
      omega
    · rw [if_neg c]
      omega
theorem pick_at {f : List Nat → Bool} {as : List Addr} {rs : List (List Nat)} (hl : as.length = rs.length) {i : Nat} {a : Addr} {r : List Nat} (h1 : as[i]? = some a) (h2 : rs[i]? = some r) :
    vA (pick f (as.take (i + 1)) (rs.take (i + 1))) = vA (pick f (as.take i) (rs.take i)) ++ (if f r = true then [V.ref a] else []) := by
  rw [List.take_add_one, List.take_add_one, h1, h2]
  show vA (pick f (as.take i ++ [a]) (rs.take i ++ [r])) = _
  rw [pick_snoc (by rw [List.length_take, List.length_take, hl]), vA_app]
  congr 1
  by_cases c : f r = true
  · rw [if_pos c, if_pos c]
    rfl
  · rw [if_neg c, if_neg c]
    rfl
section
variable {P : Program} {w : World} {K : PySem.W.Frag} {mg : Str → Option Value} {base : Heap}
/-! ### one row -/
def sp_rr : Sp := fun vs H Q _ => ∃ (q c : Addr) (cells : List Int) (n k : Nat) (p : Addr) (as : List Addr), vs = [.ref q, .int (n : Int), .ref p] ∧ QA H q c cells k ∧ k ≤ 8000 ∧ 1 ≤ n ∧ n ≤ 6 ∧
  H p = some (.lst (vA as)) ∧ RowsAt H as (allW n) ∧ ∀ H', Mv q H H' → QA H' q c cells (k + 20) → Q (.bl true) H'
theorem ok_l_row_right (T : Txt K mg) : FnOk P w K mg base CX0 6 T.a_l_row_right T.fd_l_row_right ["_law_can_here", "_law_wires", "_law_rows"] sp_rr := by
  refine T.F_l_row_right.ok sc_l_row_right (fun vs H Q E h => ?_) (fun cdv A outer s0 H vs Q E hr h => ?_)
  · obtain ⟨q, c, cells, n, k, p, as, rfl, _⟩ := h
    rfl
  · obtain ⟨q, c, cells, n, k, p, as, rfl, hq, hk, n1, n6, ep, ra, want⟩ := h
    have len720 : (allW n).length ≤ 720 := up_small n (by omega) n (by omega)
    have lenas := ra.len
    refine ⟨_, (pss_cons (ps_set (i := 3) sc_l_row_right.nd rfl (.inl rfl) (pe_callTy call_tuple_of (by rfl) T.z_tuple (by decide +kernel) (pa_cons (pe_call (ok_l_row T) (hr.mono
    (by decide)) (by rfl) T.g_l_row T.F_l_row.kp T.b_l_row .nil pass0 (pa_cons (pv 0) (pa_cons (pv 1) pa_nil))) pa_nil))) (pss_cons (ps_set (i := 4) sc_l_row_right.nd rfl
    (.inl rfl) (pe_call (ok_settings_of T) (hr.mono (by decide)) (by rfl) T.g_settings_of T.F_settings_of.kp T.b_settings_of .nil pass0 (pa_cons (pe_callTy call_list_of
    (by rfl) T.z_list (by decide +kernel) (pa_cons (pv 3) pa_nil)) pa_nil))) (pss_cons (ps_asg (pv 4) (pg_tup (by rfl) (pgs_cons (pg_name (i := 5) sc_l_row_right.nd rfl
    (.inr rfl)) (pgs_cons (pg_name (i := 6) sc_l_row_right.nd rfl (.inr rfl)) pgs_nil)))) (pss_cons (ps_set (i := 7) sc_l_row_right.nd rfl (.inr rfl) (pe_lc (own :=
    [("_law_each", 9)]) (g := gName 9) (by rfl) sc_l_row_right.nd (pi_list (pv 2)) (blkOk_by (N := ["_law_can_here", "_law_wires", "_law_rows", "_law_row_here",
    "_law_pair", "_law_tops", "_law_bottoms", "_law_leaders", "_law_some", "_law_each"]) (sc := defScope s_l_row_right) (own := [("_law_each", 9)]) (by decide +kernel))
    (fun _ _ _ _ _ => pg_name (i := 9) sc_l_row_right.nd rfl (Or.inl rfl)) (fun _ _ _ _ _ => pts_one (pt_val (pe_call (ok_l_does_lead T) (hr.mono (by decide)) (by rfl)
    T.g_l_does_lead T.F_l_does_lead.kp T.b_l_does_lead .nil pass0 (pa_cons (pv 9) (pa_cons (pv 5) (pa_cons (pv 6) pa_nil)))))) (fun _ _ _ _ _ => (pv 9)))) (pss_cons
    (ps_if (PW.pt (pw_or (pt_cmpR (op_eqD hr.units) (pv 7) (pe_lst pa_nil) (nomark _)) (pw_or (pt_cmpR (op_neD hr.units) (pe_ix ix_list (pv 7) pe_int (fun _ _ => rfl))
    (pv 3) (nomark _)) (pw_or1 (pt_cmpR op_ne (pe_callB call_len_seq (by rfl) T.z_len PySem.boot_len (pa_cons (pv 7) pa_nil)) (pe_call (ok_l_orders T) (hr.mono
    (by decide)) (by rfl) T.g_l_orders T.F_l_orders.kp T.b_l_orders .nil pass0 (pa_cons (pv 5) pa_nil)) (nomark _)))))) (pss_one (ps_ret pe_bl)) pss_nil) (pss_cons
    (ps_set (i := 8) sc_l_row_right.nd rfl (.inl rfl) (pe_lst (pa_cons (pe_ix ix_list (pv 7) (pe_call (ok_l_tip T) (hr.mono (by decide)) (by rfl) T.g_l_tip T.F_l_tip.kp
    T.b_l_tip .nil pass0 (pa_cons (pv 0) (pa_cons (pe_callB call_len_seq (by rfl) T.z_len PySem.boot_len (pa_cons (pv 7) pa_nil)) pa_nil))) (fun _ _ => rfl)) (pa_cons
    (pe_ix ix_list (pv 7) (pe_un un_neg pe_int) (fun _ _ => rfl)) (pa_cons (pe_ix ix_list (pv 2) (pe_call (ok_l_tip T) (hr.mono (by decide)) (by rfl) T.g_l_tip
    T.F_l_tip.kp T.b_l_tip .nil pass0 (pa_cons (pv 0) (pa_cons (pe_callB call_len_seq (by rfl) T.z_len PySem.boot_len (pa_cons (pv 2) pa_nil)) pa_nil))) (fun _ _ => rfl))
    (pa_cons (pe_ix ix_list (pv 2) (pe_call (ok_l_tip T) (hr.mono (by decide)) (by rfl) T.g_l_tip T.F_l_tip.kp T.b_l_tip .nil pass0 (pa_cons (pv 0) (pa_cons (pe_callB
    call_len_seq (by rfl) T.z_len PySem.boot_len (pa_cons (pv 2) pa_nil)) pa_nil))) (fun _ _ => rfl)) pa_nil)))))) (pss_cons (ps_if (pt_cmpR (op_neD hr.units) (pe_lc (own
    := [("_law_each", 9)]) (g := gName 9) (by rfl) sc_l_row_right.nd (pi_list (pv 8)) (blkOk_by (N := ["_law_can_here", "_law_wires", "_law_rows", "_law_row_here",
    "_law_pair", "_law_tops", "_law_bottoms", "_law_leaders", "_law_some", "_law_each"]) (sc := defScope s_l_row_right) (own := [("_law_each", 9)]) (by decide +kernel))
    (fun _ _ _ _ _ => pg_name (i := 9) sc_l_row_right.nd rfl (Or.inl rfl)) (fun _ _ _ _ _ => pts_one (pt_cmpR op_ne (pe_cmpR (r := rEqD K) (op_eqD hr.units) (pe_call
    (ok_led T) (hr.mono (by decide)) (by rfl) T.g_led T.F_led.kp T.b_led .nil pass0 (pa_cons (pv 9) (pa_cons (pv 5) pa_nil))) (pv 6) (nomark _)) (pe_cmpR (r := rInD K)
    (op_inD (units1 hr)) (pv 9) (pv 7) (by rfl)) (nomark _))) (fun _ _ _ _ _ => (pv 9))) (pe_lst pa_nil) (nomark _)) (pss_one (ps_ret pe_bl)) pss_nil) (pss_one (ps_ret
    (pe_cmpR (op_eqD hr.units) (pe_callK0 (ok_settings_of T) (hr.mono (by decide)) (by rfl) T.g_settings_of T.F_settings_of.kp T.k_settings_of pass0 (pk_cons (pv 3)
    pk_nil)) (pv 4) (nomark _))))))))))), ?_⟩
    -- the row
    refine ⟨_, rfl, _, rfl, q, c, cells, n, k, rfl, hq, by omega, n1, n6, fun H1 p1 r hw lr mv1 qa1 e1 np1 => ?_⟩
    refine ⟨p1, _, rfl, .inl ⟨seqL e1, fun l nl => ?_⟩⟩
    have s1 := same_new (o := .tup (vN r)) nl
    -- its two settings
    refine ⟨_, rfl, l, _, rfl, .inr (seqT upd_same), fun l2 nl2 => ?_⟩
    have s2 := same_new (o := .lst (vN r)) nl2
    refine ⟨l2, r, rfl, .inl upd_same, hw, fun H2 pp t b s3 epp et eb => ?_⟩
    have sA := s1.trans (s2.trans s3)
    have qa2 := qa1.mono sA
    have mv2 : Mv q H H2 := mv1.trans (Same.mv sA)
    have el : H2 l = some (.tup (vN r)) := s3 _ _ (s2 _ _ upd_same)
    have ep2 : H2 p = some (.lst (vA as)) := mv2 _ _ (hq.refs ep) ep
    have ra2 : RowsAt H2 as (allW n) := hq.rows mv2 ra
    refine ⟨_, rfl, pp, _, rfl, seqT epp, rfl, _, [.ref b], rfl, _, [], rfl, rfl, ?_⟩
    have lt : (coloursOf r).length = r.length := coloursOf_len r
    have lb : (ledTo r (coloursOf r)).length = r.length := ledTo_len r _
    generalize hts : coloursOf r = ts at *
    generalize hbs : ledTo r ts = bs at *
    have hL : leaders n ts bs = leaders r.length (coloursOf r) (ledTo r (coloursOf r)) := by rw [hts, hbs, lr]
    have first : (leaders n ts bs).head? = some r := by rw [hL]; exact first_leads hw
    have many : (leaders n ts bs).length = orders ts := by
      rw [hL, ← hts]
      exact leaders_orders hw (coloursOf_len r)
    -- who leads
    unfold tSeq tAsg
    refine ⟨_, rfl, p, rfl, ⟨_, seqL ep2⟩, ?_⟩
    refine lcL (xs := vA as) ep2 (fun i => vA (pick (fun e => leads e ts bs) (as.take i) ((allW n).take i))) rfl
      (fun i hi => small_of (by have := pick_len (fun e => leads e ts bs) (as.take i) ((allW n).take i); rw [List.length_map]; rw [List.length_take] at this; omega))
      (fun i x H3 Kt Kf hx s kt kf => ?_) (fun D H3 s4 nD eD => ?_)
    · rw [List.getElem?_map] at hx
      obtain ⟨a, ha, rfl⟩ := Option.map_eq_some_iff.mp hx
      obtain ⟨e, he, ea⟩ := RowsAt.get (ra2.mono s) ha
      obtain ⟨we, le⟩ := (mem_allW n1 n6).mp (List.mem_of_getElem? he)
      refine ⟨rfl, ?_⟩
      refine ⟨_, rfl, _, rfl, _, rfl, a, t, b, e, ts, bs, rfl, .inr ea, .inr (s _ _ et), .inr (s _ _ eb), we, by omega, by omega, fun H4 s5 => ⟨_, rfl, ?_⟩⟩
      have stp := pick_at (f := fun e => leads e ts bs) lenas ha he
      by_cases hc : leads e ts bs = true
      · rw [hc]
        exact iteT ⟨_, rfl, kt _ _ s5 (by rw [stp, if_pos hc])⟩
      · rw [Bool.not_eq_true] at hc
        rw [hc]
        exact iteF (kf _ s5 (by rw [stp, if_neg (by rw [hc]; exact Bool.false_ne_true), List.append_nil]))
    rw [show (vA as).length = as.length from List.length_map _, List.take_length, lenas, List.take_length] at eD
    have rl : RowsAt H3 (pick (fun e => leads e ts bs) as (allW n)) (leaders n ts bs) := pick_rows (ra2.mono s4)
    generalize hls : pick (fun e => leads e ts bs) as (allW n) = ls at *
    generalize hLL : leaders n ts bs = L at *
    have ll := rl.len
    obtain ⟨L', rfl⟩ : ∃ L', L = r :: L' := by
      cases L with
      | nil => cases first
      | cons x L' =>
        have : x = r := Option.some.inj first
        exact ⟨L', by rw [this]⟩
    obtain ⟨a0, ls', rfl⟩ : ∃ a0 ls', ls = a0 :: ls' := by
      cases ls with
      | nil => exact rl.elim
      | cons a ls' => exact ⟨a, ls', rfl⟩
    have ea0 : H3 a0 = some (.tup (vN r)) := rl.1
    -- none? another first? another number?
    refine ⟨_, rfl, Nat.zero_le _, fun z nz => ?_⟩
    have s5 := same_new (o := .lst []) nz
    refine ⟨.list (dTs (r :: L')), .list (dTs []), .lst (seqL (s5 _ _ eD)) (dp_rows (rl.mono s5)), .lst (seqL upd_same) .nil, shaped_dTs _, shaped_dTs _, _, rfl, ?_⟩
    have c1 : PyData.eqv (.list (dTs (r :: L'))) (.list (dTs [])) = false := rfl
    rw [c1]
    refine iteF ⟨_, rfl, D, _, 0, .ref a0, rfl, rfl, seqL (s5 _ _ eD), atI_nat (j := 0) rfl, ?_⟩
    refine ⟨_, rfl, dI r, dI r, dp_tup (s5 _ _ ea0), dp_tup (s5 _ _ (s4 _ _ el)), shaped_tup _, shaped_tup _, _, rfl, ?_⟩
    rw [eqv_dI, decide_eq_true rfl]
    refine iteF ⟨_, rfl, D, _, rfl, .inl (seqL (s5 _ _ eD)), _, rfl, t, ts, rfl, .inr (s5 _ _ (s4 _ _ et)), by omega, fun H5 s6 => ⟨rfl, _, rfl, ?_⟩⟩
    have c3 : decide (V.int (((vA (a0 :: ls')).length : Nat) : Int) = V.int ((orders ts : Nat) : Int)) = true := by
      rw [show (vA (a0 :: ls')).length = (a0 :: ls').length from List.length_map _, ll, many, decide_eq_true rfl]
    rw [c3]
    refine iteF ?_
    have sB := s4.trans (s5.trans s6)
    have qa5 := qa2.mono sB
    have eD5 : H5 D = some (.lst (vA (a0 :: ls'))) := s6 _ _ (s5 _ _ eD)
    have rl5 := rl.mono (s5.trans s6)
    have ep5 := sB _ _ ep2
    have ra5 := ra2.mono sB
    have el5 := sB _ _ el
    have et5 := sB _ _ et
    have eb5 := sB _ _ eb
    have epp5 := sB _ _ epp
    have lnl : 1 ≤ (a0 :: ls').length := Nat.le_add_left 1 _
    have lsub : ∀ e ∈ r :: L', e ∈ allW n := fun e he => by
      rw [← hLL] at he
      exact (List.mem_filter.mp he).1
    have ll720 : (r :: L').length ≤ 720 := by
      rw [← hLL]
      exact Nat.le_trans (List.length_filter_le _ _) len720
    have vAat : ∀ {xs : List Addr} {j : Nat} {a : Addr}, xs[j]? = some a → atI (vA xs) (j : Int) = some (.ref a) := fun {xs j a} h => atI_nat (by rw [List.getElem?_map, h]; rfl)
    -- one of the leaders
    refine ⟨_, rfl, _, rfl, _, rfl, D, _, rfl, .inl (seqL eD5), q, c, cells, (a0 :: ls').length, k + n, by rw [List.length_map]; rfl, qa5, by omega, lnl, by omega, fun H6 j1 hj1 mv6 qa6 => ?_⟩
    have Dq := qa5.refs eD5
    have eD6 := mv6 _ _ Dq eD5
    obtain ⟨a1, ha1⟩ : ∃ a, (a0 :: ls')[j1]? = some a := ⟨_, List.getElem?_eq_getElem hj1⟩
    refine ⟨D, _, _, _, rfl, rfl, seqL eD6, vAat ha1, ?_⟩
    -- the last one
    obtain ⟨a2, j2, ha2, at2⟩ : ∃ (a : Addr) (j : Nat), (a0 :: ls')[j]? = some a ∧ atI (vA (a0 :: ls')) (-1) = some (.ref a) := by
      have e := List.dropLast_concat_getLast (List.cons_ne_nil a0 ls')
      refine ⟨(a0 :: ls').getLast (List.cons_ne_nil a0 ls'), (a0 :: ls').length - 1, ?_, ?_⟩
      · rw [← List.getLast?_eq_getElem?]
        exact List.getLast?_eq_getLast (List.cons_ne_nil a0 ls')
      · conv => lhs; rw [← e, vA_snoc]
        exact atI_last _ _
    refine ⟨_, rfl, 1, rfl, D, _, _, _, rfl, rfl, seqL eD6, at2, ?_⟩
    -- two of all rows
    have ep6 := mv6 _ _ (qa5.refs ep5) ep5
    have lna : 1 ≤ as.length := by
      rw [lenas]
      exact List.length_pos_of_mem (lsub r List.mem_cons_self)
    refine ⟨_, rfl, _, rfl, _, rfl, p, _, rfl, .inl (seqL ep6), q, c, cells, as.length, k + n + 1, by rw [List.length_map]; rfl, qa6, by omega, lna, by omega, fun H7 j3 hj3 mv7 qa7 => ?_⟩
    have ep7 := mv7 _ _ (qa6.refs ep6) ep6
    obtain ⟨a3, ha3⟩ : ∃ a, as[j3]? = some a := ⟨_, List.getElem?_eq_getElem hj3⟩
    refine ⟨p, _, _, _, rfl, rfl, seqL ep7, vAat ha3, ?_⟩
    refine ⟨_, rfl, _, rfl, _, rfl, p, _, rfl, .inl (seqL ep7), q, c, cells, as.length, k + n + 1 + 1, by rw [List.length_map]; rfl, qa7, by omega, lna, by omega, fun H8 j4 hj4 mv8 qa8 => ?_⟩
    have ep8 := mv8 _ _ (qa7.refs ep7) ep7
    obtain ⟨a4, ha4⟩ : ∃ a, as[j4]? = some a := ⟨_, List.getElem?_eq_getElem hj4⟩
    refine ⟨p, _, _, _, rfl, rfl, seqL ep8, vAat ha4, ?_⟩
    refine ⟨by show 4 ≤ sizeLine; decide, fun S nS => ?_⟩
    have sS := same_new (o := .lst [V.ref a1, V.ref a2, V.ref a3, V.ref a4]) nS
    have mvC : Mv q H5 H8 := mv6.trans (mv7.trans mv8)
    have rl8 := (qa5.rows mvC rl5).mono sS
    have ra8 := (qa5.rows mvC ra5).mono sS
    have el8 := sS _ _ (qa5.tup mvC el5)
    have et8 := sS _ _ (qa5.tup mvC et5)
    have eb8 := sS _ _ (qa5.tup mvC eb5)
    have epp8 := sS _ _ (qa5.tup mvC epp5)
    have eD8 := sS _ _ (mvC _ _ Dq eD5)
    have qa9 := qa8.mono sS
    have hall : ∀ a ∈ [a1, a2, a3, a4], ∃ e, e ∈ allW n ∧ (upd H8 S (.lst [V.ref a1, V.ref a2, V.ref a3, V.ref a4])) a = some (.tup (vN e)) := by
      intro a ha
      have fromL : ∀ j, (a0 :: ls')[j]? = some a → ∃ e, e ∈ allW n ∧ (upd H8 S (.lst [V.ref a1, V.ref a2, V.ref a3, V.ref a4])) a = some (.tup (vN e)) := fun j h => by
        obtain ⟨e, he, ea⟩ := RowsAt.get rl8 h
        exact ⟨e, lsub e (List.mem_of_getElem? he), ea⟩
      have fromA : ∀ j, as[j]? = some a → ∃ e, e ∈ allW n ∧ (upd H8 S (.lst [V.ref a1, V.ref a2, V.ref a3, V.ref a4])) a = some (.tup (vN e)) := fun j h => by
        obtain ⟨e, he, ea⟩ := RowsAt.get ra8 h
        exact ⟨e, List.mem_of_getElem? he, ea⟩
      have ha' : a = a1 ∨ a = a2 ∨ a = a3 ∨ a = a4 := by simpa using ha
      rcases ha' with rfl | rfl | rfl | rfl
      · exact fromL _ ha1
      · exact fromL _ ha2
      · exact fromA _ ha3
      · exact fromA _ ha4
    generalize hH9 : upd H8 S (.lst [V.ref a1, V.ref a2, V.ref a3, V.ref a4]) = H9 at *
    have eS : H9 S = some (.lst (vA [a1, a2, a3, a4])) := by
      rw [← hH9]
      exact upd_same
    have mvD : Mv q H5 H9 := mvC.trans (Same.mv sS)
    -- each leads exactly if it is among them
    refine ⟨_, rfl, S, rfl, ⟨_, seqL eS⟩, ?_⟩
    refine lcL (xs := vA [a1, a2, a3, a4]) eS (fun _ => []) rfl (fun _ _ => small_of (Nat.zero_le _)) (fun i x H3 Kt Kf hx s kt kf => ?_) (fun D2 H3 s7 nD2 eD2 => ?_)
    · rw [List.getElem?_map] at hx
      obtain ⟨a, ha, rfl⟩ := Option.map_eq_some_iff.mp hx
      obtain ⟨e, he, ea⟩ := hall a (List.mem_of_getElem? ha)
      obtain ⟨we, le⟩ := (mem_allW n1 n6).mp he
      refine ⟨rfl, ?_⟩
      refine ⟨_, rfl, _, rfl, a, t, e, ts, rfl, .inr (s _ _ ea), .inr (s _ _ et8), we, by omega, fun H4 p4 s8 e4 => ?_⟩
      have sE := s.trans s8
      refine ⟨_, rfl, dI (ledTo e ts), dI bs, dp_tup e4, dp_tup (sE _ _ eb8), shaped_tup _, shaped_tup _, ?_⟩
      refine ⟨_, rfl, _, rfl, dI e, dTs (r :: L'), dp_tup (sE _ _ ea), .lst (seqL (sE _ _ eD8)) (dp_rows (rl8.mono sE)), shaped_tup _, shaped_dTs _, rfl, _, rfl, ?_⟩
      have both : (PyData.eqv (dI (ledTo e ts)) (dI bs)) = ((dTs (r :: L')).any fun z => PyData.eqv z (dI e)) := by
        rw [eqv_dI, any_dTs, Bool.eq_iff_iff, decide_eq_true_eq, decide_eq_true_eq, ← hLL]
        unfold leaders
        rw [List.mem_filter, led_leads we (by omega) (by omega)]
        exact ⟨fun h => ⟨he, h⟩, fun h => h.2⟩
      rw [both]
      have nt : (!decide (V.bl ((dTs (r :: L')).any fun z => PyData.eqv z (dI e)) = V.bl ((dTs (r :: L')).any fun z => PyData.eqv z (dI e)))) = false := by
        rw [decide_eq_true rfl]
        rfl
      rw [nt]
      exact iteF (kf _ s8 rfl)
    refine ⟨Nat.zero_le _, fun z2 nz2 => ?_⟩
    have s9 := same_new (o := .lst []) nz2
    refine ⟨.list (dTs []), .list (dTs []), .lst (seqL (s9 _ _ eD2)) .nil, .lst (seqL upd_same) .nil, shaped_dTs _, shaped_dTs _, _, rfl, ?_⟩
    have c9 : PyData.eqv (.list (dTs [])) (.list (dTs [])) = true := rfl
    rw [c9]
    have sF := s7.trans s9
    refine iteF ⟨_, rfl, l, r, rfl, .inr (sF _ _ el8), hw, fun H4 p4 t4 b4 sG e41 e42 e43 => ?_⟩
    rw [hts] at e42
    rw [hts, hbs] at e43
    have sH := sF.trans sG
    refine ⟨_, rfl, .tuple (dTs [ts, bs]), .tuple (dTs [ts, bs]), .tup (seqT e41) (.cons (dp_tup e42) (.cons (dp_tup e43) .nil)),
      .tup (seqT (sH _ _ epp8)) (.cons (dp_tup (sH _ _ et8)) (.cons (dp_tup (sH _ _ eb8)) .nil)), shaped_pair _, shaped_pair _, ?_⟩
    have c10 : PyData.eqv (.tuple (dTs [ts, bs])) (.tuple (dTs [ts, bs])) = true := by
      show PyData.eqvAll _ _ = true
      rw [eqv_dTs, decide_eq_true rfl]
    rw [c10]
    exact want _ (mv2.trans ((Same.mv sB).trans (mvD.trans (Same.mv sH)))) ((qa9.mono sH).le (by omega))
end
end My

namespace My
open PySem PySem.Spec PyProof.Rows L2
section
variable {P : Program} {w : World} {K : PySem.W.Frag} {mg : Str → Option Value} {base : Heap}
/-! ### a setting -/
theorem ok_l_setting_right (T : Txt K mg) : FnOk P w K mg base CX0 6 T.a_l_setting_right T.fd_l_setting_right ["_law_can_here", "_law_wires", "_law_rows"] sp_rr := by
  refine T.F_l_setting_right.ok sc_l_setting_right (fun vs H Q E h => ?_) (fun cdv A outer s0 H vs Q E hr h => ?_)
  · obtain ⟨q, c, cells, n, k, p, as, rfl, _⟩ := h
    rfl
  · obtain ⟨q, c, cells, n, k, p, as, rfl, hq, hk, n1, n6, ep, ra, want⟩ := h
    have len720 : (allW n).length ≤ 720 := up_small n (by omega) n (by omega)
    have lenas := ra.len
    refine ⟨_, (pss_cons (ps_asg (pe_tup (pa_cons (pe_call (ok_l_row T) (hr.mono (by decide)) (by rfl) T.g_l_row T.F_l_row.kp T.b_l_row .nil pass0 (pa_cons (pv 0) (pa_cons (pv 1)
    pa_nil))) (pa_cons (pe_op op_add pe_int (pe_call (ok_l_tip T) (hr.mono (by decide)) (by rfl) T.g_l_tip T.F_l_tip.kp T.b_l_tip .nil pass0 (pa_cons (pv 0) (pa_cons
    pe_int pa_nil)))) pa_nil))) (pg_tup (by rfl) (pgs_cons (pg_name (i := 3) sc_l_setting_right.nd rfl (.inl rfl)) (pgs_cons (pg_name (i := 4) sc_l_setting_right.nd rfl
    (.inr rfl)) pgs_nil)))) (pss_cons (ps_set (i := 5) sc_l_setting_right.nd rfl (.inr rfl) (pe_lc (own := [("_law_top", 8)]) (g := gName 8) (by rfl)
    sc_l_setting_right.nd (pi_range1 (by rfl) T.z_range (pa_cons (pv 1) pa_nil)) (blkOk_by (N := ["_law_can_here", "_law_wires", "_law_rows", "_law_row_here",
    "_law_wide", "_law_tops", "_law_bottoms", "_law_leaders", "_law_top", "_law_each"]) (sc := defScope s_l_setting_right) (own := [("_law_top", 8)]) (by decide +kernel))
    (fun _ _ _ _ _ => pg_name (i := 8) sc_l_setting_right.nd rfl (Or.inl rfl)) (fun _ _ _ _ _ => pts_nil) (fun _ _ _ _ _ => (pe_call (ok_l_tip T) (hr.mono (by decide))
    (by rfl) T.g_l_tip T.F_l_tip.kp T.b_l_tip .nil pass0 (pa_cons (pv 0) (pa_cons (pv 4) pa_nil)))))) (pss_cons (ps_set (i := 6) sc_l_setting_right.nd rfl (.inr rfl)
    (pe_call (ok_led T) (hr.mono (by decide)) (by rfl) T.g_led T.F_led.kp T.b_led .nil pass0 (pa_cons (pv 3) (pa_cons (pv 5) pa_nil)))) (pss_cons (ps_setLc (i := 7) (own
    := [("_law_each", 9)]) (g := gName 9) (by rfl) sc_l_setting_right.nd rfl rfl (sw_true rfl rfl rfl (by decide +kernel)) (pi_list (pv 2)) (blkOk_by (N :=
    ["_law_can_here", "_law_wires", "_law_rows", "_law_row_here", "_law_wide", "_law_tops", "_law_bottoms", "_law_leaders", "_law_top", "_law_each"]) (sc := defScope
    s_l_setting_right) (own := [("_law_each", 9)]) (by decide +kernel)) (fun _ _ _ _ _ => pg_name (i := 9) sc_l_setting_right.nd rfl (Or.inl rfl)) (fun _ _ _ _ _ =>
    pts_one (pt_val (pe_call (ok_l_does_lead T) (hr.mono (by decide)) (by rfl) T.g_l_does_lead T.F_l_does_lead.kp T.b_l_does_lead .nil pass0 (pa_cons (pv 9) (pa_cons (pv
    5) (pa_cons (pv 6) pa_nil)))))) (fun _ _ _ _ _ => (pv 9))) (pss_one (ps_ret (pe_and (pe_cmpR (op_inD (units1 hr)) (pe_callTy call_tuple_of (by rfl) T.z_tuple
    (by decide +kernel) (pa_cons (pv 3) pa_nil)) (pv 7) (by rfl)) (pe_and (pe_cmpR op_eq (pe_callB call_len_seq (by rfl) T.z_len PySem.boot_len (pa_cons (pv 7) pa_nil))
    (pe_call (ok_l_orders T) (hr.mono (by decide)) (by rfl) T.g_l_orders T.F_l_orders.kp T.b_l_orders .nil pass0 (pa_cons (pv 5) pa_nil)) (nomark _)) (pe_one (pe_cmpR
    (op_eqD hr.units) (pe_call (ok_led T) (hr.mono (by decide)) (by rfl) T.g_led T.F_led.kp T.b_led .nil pass0 (pa_cons (pe_ix ix_list (pv 7) pe_int (fun _ _ => rfl))
    (pa_cons (pv 5) pa_nil))) (pv 6) (nomark _))))))))))), ?_⟩
    -- the row, how wide
    refine ⟨_, rfl, _, rfl, q, c, cells, n, k, rfl, hq, by omega, n1, n6, fun H1 p1 r hw lr mv1 qa1 e1 np1 => ?_⟩
    refine ⟨_, rfl, q, c, cells, 4, k + n, rfl, qa1, by omega, by omega, by omega, fun H2 j hj mv2 qa2 => ?_⟩
    refine ⟨_, _, rfl, rfl, ?_⟩
    have ew : (1 : Int) + (j : Int) = ((1 + j : Nat) : Int) := by omega
    dsimp only
    rw [ew]
    refine ⟨by show 2 ≤ sizeLine; decide, fun t nt => ?_⟩
    have s3 := same_new (o := .tup [V.ref p1, V.int ((1 + j : Nat) : Int)]) nt
    refine ⟨t, _, rfl, seqT upd_same, rfl, _, [.int ((1 + j : Nat) : Int)], rfl, _, [], rfl, rfl, ?_⟩
    have qa3 := qa2.mono s3
    have e13 : (upd H2 t (.tup [V.ref p1, V.int ((1 + j : Nat) : Int)])) p1 = some (.lst (vN r)) := s3 _ _ (mv2 _ _ (qa1.ints e1) e1)
    have mv3 : Mv q H (upd H2 t (.tup [V.ref p1, V.int ((1 + j : Nat) : Int)])) := mv1.trans (mv2.trans (Same.mv s3))
    generalize hH3 : upd H2 t (.tup [V.ref p1, V.int ((1 + j : Nat) : Int)]) = H3 at *
    have ep3 : H3 p = some (.lst (vA as)) := mv3 _ _ (hq.refs ep) ep
    have ra3 : RowsAt H3 as (allW n) := hq.rows mv3 ra
    -- the tops
    unfold tSeq tAsg
    refine ⟨_, rfl, _, rfl, by omega, by omega, ?_⟩
    rw [Int.toNat_natCast]
    intro D nD
    have Dq := qa3.ne D nD
    have cD := qa3.cne D nD
    refine lc_range (lo := 0) (n := n) (fun i H4 => Mv q H3 H4 ∧ QA H4 q c cells (k + n + 1 + i) ∧ ∃ ts, H4 D = some (.lst (vN ts)) ∧ ts.length = i)
      ⟨Same.mv (same_new nD), qa3.upd Dq cD, [], upd_same, rfl⟩ (fun i H4 hi hp => ?_) (fun H4 hp => ?_)
    · obtain ⟨mv4, qa4, ts, eD, lts⟩ := hp
      refine ⟨rfl, tyes ?_⟩
      refine iteT ⟨_, rfl, _, rfl, q, c, cells, 1 + j, k + n + 1 + i, rfl, qa4, by omega, by omega, by omega, fun H5 z hz mv5 qa5 => ?_⟩
      have eD5 := mv5 _ _ Dq eD
      refine ⟨_, eD5, small_of (by rw [vN_len]; omega), fun b o nb e => ?_, qa5.upd Dq cD, ts ++ [z], by rw [upd_same, vN_snoc], by rw [List.length_append, lts]; rfl⟩
      rw [upd_ne (ne_of_none e nD)]
      exact mv5 _ _ nb (mv4 _ _ nb e)
    obtain ⟨mv4, qa4, ts, eD, lts⟩ := hp
    have e14 : H4 p1 = some (.lst (vN r)) := mv4 _ _ (qa3.ints e13) e13
    have ep4 : H4 p = some (.lst (vA as)) := mv4 _ _ (qa3.refs ep3) ep3
    have ra4 : RowsAt H4 as (allW n) := qa3.rows mv4 ra3
    have lt : ts.length = r.length := by omega
    -- what they are led to
    refine ⟨_, rfl, _, rfl, p1, D, r, ts, rfl, .inl e14, .inl eD, hw, lt, fun H5 b s5 eb => ?_⟩
    have ep5 := s5 _ _ ep4
    have ra5 := ra4.mono s5
    have eD5 := s5 _ _ eD
    have e15 := s5 _ _ e14
    have lb : (ledTo r ts).length = r.length := ledTo_len r _
    have inL : r ∈ leaders n ts (ledTo r ts) := by
      have := in_leaders hw lt
      rw [lr] at this
      exact this
    have many : (leaders n ts (ledTo r ts)).length = orders ts := by
      have := leaders_orders hw lt
      rw [lr] at this
      exact this
    generalize hbs : ledTo r ts = bs at *
    refine ⟨_, rfl, p, rfl, ⟨_, seqL ep5⟩, ?_⟩
    refine lcL (xs := vA as) ep5 (fun i => vA (pick (fun e => leads e ts bs) (as.take i) ((allW n).take i))) rfl
      (fun i hi => small_of (by have := pick_len (fun e => leads e ts bs) (as.take i) ((allW n).take i); rw [List.length_map]; rw [List.length_take] at this; omega))
      (fun i x H6 Kt Kf hx s kt kf => ?_) (fun D2 H6 s6 nD2 eD2 => ?_)
    · rw [List.getElem?_map] at hx
      obtain ⟨a, ha, rfl⟩ := Option.map_eq_some_iff.mp hx
      obtain ⟨e, he, ea⟩ := RowsAt.get (ra5.mono s) ha
      obtain ⟨we, le⟩ := (mem_allW n1 n6).mp (List.mem_of_getElem? he)
      refine ⟨rfl, ?_⟩
      refine ⟨_, rfl, _, rfl, _, rfl, a, D, b, e, ts, bs, rfl, .inr ea, .inl (s _ _ eD5), .inr (s _ _ eb), we, by omega, by omega, fun H7 s7 => ⟨_, rfl, ?_⟩⟩
      have stp := pick_at (f := fun e => leads e ts bs) lenas ha he
      by_cases hc : leads e ts bs = true
      · rw [hc]
        exact iteT ⟨_, rfl, kt _ _ s7 (by rw [stp, if_pos hc])⟩
      · rw [Bool.not_eq_true] at hc
        rw [hc]
        exact iteF (kf _ s7 (by rw [stp, if_neg (by rw [hc]; exact Bool.false_ne_true), List.append_nil]))
    rw [show (vA as).length = as.length from List.length_map _, List.take_length, lenas, List.take_length] at eD2
    have rl : RowsAt H6 (pick (fun e => leads e ts bs) as (allW n)) (leaders n ts bs) := pick_rows (ra5.mono s6)
    generalize hls : pick (fun e => leads e ts bs) as (allW n) = ls at *
    generalize hLL : leaders n ts bs = L at *
    have ll := rl.len
    obtain ⟨x0, L', rfl⟩ : ∃ x0 L', L = x0 :: L' := by
      cases L with
      | nil => cases inL
      | cons x L' => exact ⟨x, L', rfl⟩
    obtain ⟨a0, ls', rfl⟩ : ∃ a0 ls', ls = a0 :: ls' := by
      cases ls with
      | nil => exact rl.elim
      | cons a ls' => exact ⟨a, ls', rfl⟩
    have x0L : x0 ∈ leaders n ts bs := by
      rw [hLL]
      exact List.mem_cons_self
    obtain ⟨w0, l0⟩ := (mem_allW n1 n6).mp (List.mem_filter.mp x0L).1
    have led0 : ledTo x0 ts = bs := (led_leads w0 (by omega) (by omega)).mp (List.mem_filter.mp x0L).2
    -- tuple(row) in leaders
    refine ⟨_, rfl, p1, _, rfl, .inl ⟨seqL (s6 _ _ e15), fun l nl => ?_⟩⟩
    have s7 := same_new (o := .tup (vN r)) nl
    refine ⟨_, rfl, dI r, dTs (x0 :: L'), dp_tup upd_same, .lst (seqL (s7 _ _ eD2)) (dp_rows (rl.mono s7)), shaped_tup _, shaped_dTs _, ?_⟩
    rw [any_dTs, decide_eq_true inL]
    refine ⟨true, rfl, iteT ?_⟩
    -- as many as there are orders
    refine ⟨_, rfl, D2, _, rfl, .inl (seqL (s7 _ _ eD2)), ?_⟩
    have sX := s6.trans s7
    refine ⟨_, rfl, D, ts, rfl, .inl (sX _ _ eD5), by omega, fun H8 s8 => ⟨rfl, true, ?_, iteT ?_⟩⟩
    · rw [show (vA (a0 :: ls')).length = (a0 :: ls').length from List.length_map _, ll, many]
      exact bl_true rfl
    have sY := sX.trans s8
    have eD28 := s8 _ _ (s7 _ _ eD2)
    have rl8 := rl.mono (s7.trans s8)
    refine ⟨_, rfl, D2, _, 0, .ref a0, rfl, rfl, seqL eD28, atI_nat (j := 0) rfl, ?_⟩
    refine ⟨_, rfl, a0, D, x0, ts, rfl, .inr rl8.1, .inl (sY _ _ eD5), w0, by omega, fun H9 p9 s9 e9 => ?_⟩
    have sZ := sY.trans s9
    rw [led0] at e9
    refine ⟨_, rfl, dI bs, dI bs, dp_tup e9, dp_tup (sZ _ _ eb), shaped_tup _, shaped_tup _, ?_⟩
    rw [eqv_dI, decide_eq_true rfl]
    exact want _ (mv3.trans (mv4.trans (Same.mv (s5.trans sZ)))) (((qa4.mono s5).mono sZ).le (by omega))
/-! ### the law -/
def sp_law (K : PySem.W.Frag) : Sp := fun vs H Q _ => ∃ (a : Addr) (ns : List Int), vs = [.ref a] ∧ SqL K H a (ns.map V.int) ∧ ns.length ≤ 63 ∧ ∀ H', Q (.bl true) H'
theorem wires_of : ∀ j, j < 6 → 1 ≤ ([4, 3, 5, 2, 6, 1] : List Nat).getD j 0 ∧ ([4, 3, 5, 2, 6, 1] : List Nat).getD j 0 ≤ 6 := by decide
theorem ok_law (T : Txt K mg) : FnOk P w K mg base CX0 7 T.a_law T.fd_law ["_law_script"] (sp_law K) := by
  refine T.F_law.ok sc_law (fun vs H Q E h => ?_) (fun cdv A outer s0 H vs Q E hr h => ?_)
  · obtain ⟨a, ns, rfl, _⟩ := h
    rfl
  · obtain ⟨a, ns, rfl, hS, hl, want⟩ := h
    refine ⟨_, (pss_cons (ps_set (i := 1) sc_law.nd rfl (.inl rfl) (pe_call (ok_l_can T) (hr.mono (by decide)) (by rfl) T.g_l_can T.F_l_can.kp T.b_l_can .nil pass0 (pa_cons (pv 0)
    pa_nil))) (pss_cons (ps_for PassesOwn.never rfl (pi_range1 (by rfl) T.z_range (pa_cons pe_int pa_nil)) (pg_name (i := 2) sc_law.nd rfl (.inl rfl)) (pss_cons (ps_set
    (i := 3) sc_law.nd rfl (.inl rfl) (pe_ix ix_list (pe_lst (pa_cons pe_int (pa_cons pe_int (pa_cons pe_int (pa_cons pe_int (pa_cons pe_int (pa_cons pe_int pa_nil)))))))
    (pe_call (ok_l_tip T) (hr.mono (by decide)) (by rfl) T.g_l_tip T.F_l_tip.kp T.b_l_tip .nil pass0 (pa_cons (pv 1) (pa_cons pe_int pa_nil))) (fun _ _ => rfl)))
    (pss_cons (ps_set (i := 4) sc_law.nd rfl (.inl rfl) (pe_call (ok_l_all T) (hr.mono (by decide)) (by rfl) T.g_l_all T.F_l_all.kp T.b_l_all .nil pass0 (pa_cons (pv 3)
    pa_nil))) (pss_one (ps_if (PW.pt (pw_or (pt_not (pt_val (pe_call (ok_l_row_right T) (hr.mono (by decide)) (by rfl) T.g_l_row_right T.F_l_row_right.kp T.b_l_row_right
    .nil pass0 (pa_cons (pv 1) (pa_cons (pv 3) (pa_cons (pv 4) pa_nil)))))) (pw_or (pt_not (pt_val (pe_call (ok_l_row_right T) (hr.mono (by decide)) (by rfl)
    T.g_l_row_right T.F_l_row_right.kp T.b_l_row_right .nil pass0 (pa_cons (pv 1) (pa_cons (pv 3) (pa_cons (pv 4) pa_nil)))))) (pw_or1 (pt_not (pt_val (pe_call
    (ok_l_setting_right T) (hr.mono (by decide)) (by rfl) T.g_l_setting_right T.F_l_setting_right.kp T.b_l_setting_right .nil pass0 (pa_cons (pv 1) (pa_cons (pv 3)
    (pa_cons (pv 4) pa_nil)))))))))) (pss_one (ps_ret pe_bl)) pss_nil))))) (pss_one (ps_ret pe_bl)))), ?_⟩
    refine ⟨_, rfl, a, ns, rfl, hS, by omega, fun H1 q c cells s1 qa1 => ?_⟩
    refine ⟨2, rfl, by decide, by decide, ?_⟩
    refine for_range (lo := 0) (n := 2) (fun i σ H' => ∃ v2 v3 v4, σ = [some (.ref a), some (.ref q), v2, v3, v4] ∧ QA H' q c cells (100 * i))
      ⟨none, none, none, rfl, qa1⟩ (fun i σ H2 hi hp => ?_) (fun σ H' hp => ?_)
    · obtain ⟨v2, v3, v4, rfl, qa2⟩ := hp
      refine ⟨by show 6 ≤ sizeLine; decide, fun l nl => ?_⟩
      have s3 := same_new (o := .lst [V.int 4, V.int 3, V.int 5, V.int 2, V.int 6, V.int 1]) nl
      have qa3 := qa2.mono s3
      refine ⟨_, rfl, q, c, cells, 6, 100 * i, rfl, qa3, by omega, by omega, by omega, fun H3 j hj mv3 qa4 => ?_⟩
      have el : H3 l = some (.lst (vN [4, 3, 5, 2, 6, 1])) := mv3 _ _ (qa2.ne l nl) upd_same
      obtain ⟨w1, w6⟩ := wires_of j hj
      have at0 := vN_at (l := [4, 3, 5, 2, 6, 1]) (i := j) hj
      generalize ([4, 3, 5, 2, 6, 1] : List Nat).getD j 0 = n at *
      refine ⟨l, _, _, _, rfl, rfl, seqL el, at0, ?_⟩
      refine ⟨_, rfl, n, rfl, w1, w6, fun H4 p as s4 ep ra => ?_⟩
      have qa5 := qa4.mono s4
      refine ⟨_, rfl, _, rfl, _, rfl, q, c, cells, n, 100 * i + 1, p, as, rfl, qa5, by omega, w1, w6, ep, ra, fun H5 mv5 qa6 => ⟨true, rfl, iteF ?_⟩⟩
      have ep5 := mv5 _ _ (qa5.refs ep) ep
      have ra5 := qa5.rows mv5 ra
      refine ⟨_, rfl, _, rfl, _, rfl, q, c, cells, n, 100 * i + 1 + 20, p, as, rfl, qa6, by omega, w1, w6, ep5, ra5, fun H6 mv6 qa7 => ⟨true, rfl, iteF ?_⟩⟩
      have ep6 := mv6 _ _ (qa6.refs ep5) ep5
      have ra6 := qa6.rows mv6 ra5
      refine ⟨_, rfl, _, rfl, _, rfl, q, c, cells, n, 100 * i + 1 + 20 + 20, p, as, rfl, qa7, by omega, w1, w6, ep6, ra6, fun H7 mv7 qa8 => ⟨true, rfl, iteF ?_⟩⟩
      exact ⟨_, _, _, rfl, qa8.le (by omega)⟩
    · exact want _
end
end My

namespace My
open PySem PySem.Spec PyProof.Rows L2
theorem all_mk {l : PySem.W.OpenLaw} {w : World} {K : PySem.W.Frag} {h : Heap} {mg : Str → Option Value} {fa f0 f1 f2 f3 f4 f5 f6 f7 f8 f9 f10 f11 f12 f13 f14 f15 f16 f17 f18 f19 : Addr} (X : K.In h) (G : h.Ns mainGlobals mg) (hfa : mg "law" = some (.ref fa))
    {od0 an0 : Option Addr} {sl0 : Array (Option Value)} {oc0 kV0 dc0 pm0 cd0 ct0 : Value}
    (a0 : PySem.W.nsIn K mainGlobals "is_integer" = some (some (.ref f0))) (l0 : K.lookup f0 = some ⟨oc0, od0, .func (PySem.W.fnOf "is_integer" "is_integer" (defArgs s_is_integer) (defBody s_is_integer) (defScope s_is_integer) .none kV0 dc0 pm0 an0 cd0 ct0), sl0⟩)
    (c0 : PySem.W.codeIn K cd0 "is_integer" = true) (k0 : PySem.W.keepIn K (.ref f0) = true)
    {od1 an1 : Option Addr} {sl1 : Array (Option Value)} {oc1 kV1 dc1 pm1 cd1 ct1 : Value}
    (a1 : PySem.W.nsIn K mainGlobals "is_list" = some (some (.ref f1))) (l1 : K.lookup f1 = some ⟨oc1, od1, .func (PySem.W.fnOf "is_list" "is_list" (defArgs s_is_list) (defBody s_is_list) (defScope s_is_list) .none kV1 dc1 pm1 an1 cd1 ct1), sl1⟩)
    (c1 : PySem.W.codeIn K cd1 "is_list" = true) (k1 : PySem.W.keepIn K (.ref f1) = true)
    {od2 an2 : Option Addr} {sl2 : Array (Option Value)} {oc2 kV2 dc2 pm2 cd2 ct2 : Value}
    (a2 : PySem.W.nsIn K mainGlobals "is_numbers" = some (some (.ref f2))) (l2 : K.lookup f2 = some ⟨oc2, od2, .func (PySem.W.fnOf "is_numbers" "is_numbers" (defArgs s_is_numbers) (defBody s_is_numbers) (defScope s_is_numbers) .none kV2 dc2 pm2 an2 cd2 ct2), sl2⟩)
    (c2 : PySem.W.codeIn K cd2 "is_numbers" = true) (k2 : PySem.W.keepIn K (.ref f2) = true)
    {od3 an3 : Option Addr} {sl3 : Array (Option Value)} {oc3 kV3 dc3 pm3 cd3 ct3 : Value}
    (a3 : PySem.W.nsIn K mainGlobals "is_setting" = some (some (.ref f3))) (l3 : K.lookup f3 = some ⟨oc3, od3, .func (PySem.W.fnOf "is_setting" "is_setting" (defArgs s_is_setting) (defBody s_is_setting) (defScope s_is_setting) .none kV3 dc3 pm3 an3 cd3 ct3), sl3⟩)
    (c3 : PySem.W.codeIn K cd3 "is_setting" = true) (k3 : PySem.W.keepIn K (.ref f3) = true)
    {od4 an4 : Option Addr} {sl4 : Array (Option Value)} {oc4 kV4 dc4 pm4 cd4 ct4 : Value}
    (a4 : PySem.W.nsIn K mainGlobals "is_wiring" = some (some (.ref f4))) (l4 : K.lookup f4 = some ⟨oc4, od4, .func (PySem.W.fnOf "is_wiring" "is_wiring" (defArgs s_is_wiring) (defBody s_is_wiring) (defScope s_is_wiring) .none kV4 dc4 pm4 an4 cd4 ct4), sl4⟩)
    (c4 : PySem.W.codeIn K cd4 "is_wiring" = true) (k4 : PySem.W.keepIn K (.ref f4) = true)
    {od5 an5 : Option Addr} {sl5 : Array (Option Value)} {oc5 kV5 dc5 pm5 cd5 ct5 : Value}
    (a5 : PySem.W.nsIn K mainGlobals "led" = some (some (.ref f5))) (l5 : K.lookup f5 = some ⟨oc5, od5, .func (PySem.W.fnOf "led" "led" (defArgs s_led) (defBody s_led) (defScope s_led) .none kV5 dc5 pm5 an5 cd5 ct5), sl5⟩)
    (c5 : PySem.W.codeIn K cd5 "led" = true) (k5 : PySem.W.keepIn K (.ref f5) = true)
    {od6 an6 : Option Addr} {sl6 : Array (Option Value)} {oc6 kV6 dc6 pm6 cd6 ct6 : Value}
    (a6 : PySem.W.nsIn K mainGlobals "need_wiring" = some (some (.ref f6))) (l6 : K.lookup f6 = some ⟨oc6, od6, .func (PySem.W.fnOf "need_wiring" "need_wiring" (defArgs s_need_wiring) (defBody s_need_wiring) (defScope s_need_wiring) .none kV6 dc6 pm6 an6 cd6 ct6), sl6⟩)
    (c6 : PySem.W.codeIn K cd6 "need_wiring" = true) (k6 : PySem.W.keepIn K (.ref f6) = true)
    {od7 an7 : Option Addr} {sl7 : Array (Option Value)} {oc7 kV7 dc7 pm7 cd7 ct7 : Value}
    (a7 : PySem.W.nsIn K mainGlobals "led_to" = some (some (.ref f7))) (l7 : K.lookup f7 = some ⟨oc7, od7, .func (PySem.W.fnOf "led_to" "led_to" (defArgs s_led_to) (defBody s_led_to) (defScope s_led_to) .none kV7 dc7 pm7 an7 cd7 ct7), sl7⟩)
    (c7 : PySem.W.codeIn K cd7 "led_to" = true) (k7 : PySem.W.keepIn K (.ref f7) = true)
    {od8 an8 : Option Addr} {sl8 : Array (Option Value)} {oc8 kV8 dc8 pm8 cd8 ct8 : Value}
    (a8 : PySem.W.nsIn K mainGlobals "settings_of" = some (some (.ref f8))) (l8 : K.lookup f8 = some ⟨oc8, od8, .func (PySem.W.fnOf "settings_of" "settings_of" (defArgs s_settings_of) (defBody s_settings_of) (defScope s_settings_of) .none kV8 dc8 pm8 an8 cd8 ct8), sl8⟩)
    (c8 : PySem.W.codeIn K cd8 "settings_of" = true) (k8 : PySem.W.keepIn K (.ref f8) = true)
    {od9 an9 : Option Addr} {sl9 : Array (Option Value)} {oc9 kV9 dc9 pm9 cd9 ct9 : Value}
    (a9 : PySem.W.nsIn K mainGlobals "colours_of" = some (some (.ref f9))) (l9 : K.lookup f9 = some ⟨oc9, od9, .func (PySem.W.fnOf "colours_of" "colours_of" (defArgs s_colours_of) (defBody s_colours_of) (defScope s_colours_of) .none kV9 dc9 pm9 an9 cd9 ct9), sl9⟩)
    (c9 : PySem.W.codeIn K cd9 "colours_of" = true) (k9 : PySem.W.keepIn K (.ref f9) = true)
    {od10 an10 : Option Addr} {sl10 : Array (Option Value)} {oc10 kV10 dc10 pm10 cd10 ct10 : Value}
    (a10 : PySem.W.nsIn K mainGlobals "both_settings" = some (some (.ref f10))) (l10 : K.lookup f10 = some ⟨oc10, od10, .func (PySem.W.fnOf "both_settings" "both_settings" (defArgs s_both_settings) (defBody s_both_settings) (defScope s_both_settings) .none kV10 dc10 pm10 an10 cd10 ct10), sl10⟩)
    (c10 : PySem.W.codeIn K cd10 "both_settings" = true) (k10 : PySem.W.keepIn K (.ref f10) = true)
    {od11 an11 : Option Addr} {sl11 : Array (Option Value)} {oc11 kV11 dc11 pm11 cd11 ct11 : Value}
    (a11 : PySem.W.nsIn K mainGlobals "_law_can" = some (some (.ref f11))) (l11 : K.lookup f11 = some ⟨oc11, od11, .func (PySem.W.fnOf "_law_can" "_law_can" (defArgs s_l_can) (defBody s_l_can) (defScope s_l_can) .none kV11 dc11 pm11 an11 cd11 ct11), sl11⟩)
    (c11 : PySem.W.codeIn K cd11 "_law_can" = true) (k11 : PySem.W.keepIn K (.ref f11) = true)
    {od12 an12 : Option Addr} {sl12 : Array (Option Value)} {oc12 kV12 dc12 pm12 cd12 ct12 : Value}
    (a12 : PySem.W.nsIn K mainGlobals "_law_tip" = some (some (.ref f12))) (l12 : K.lookup f12 = some ⟨oc12, od12, .func (PySem.W.fnOf "_law_tip" "_law_tip" (defArgs s_l_tip) (defBody s_l_tip) (defScope s_l_tip) .none kV12 dc12 pm12 an12 cd12 ct12), sl12⟩)
    (c12 : PySem.W.codeIn K cd12 "_law_tip" = true) (k12 : PySem.W.keepIn K (.ref f12) = true)
    {od13 an13 : Option Addr} {sl13 : Array (Option Value)} {oc13 kV13 dc13 pm13 cd13 ct13 : Value}
    (a13 : PySem.W.nsIn K mainGlobals "_law_row" = some (some (.ref f13))) (l13 : K.lookup f13 = some ⟨oc13, od13, .func (PySem.W.fnOf "_law_row" "_law_row" (defArgs s_l_row) (defBody s_l_row) (defScope s_l_row) .none kV13 dc13 pm13 an13 cd13 ct13), sl13⟩)
    (c13 : PySem.W.codeIn K cd13 "_law_row" = true) (k13 : PySem.W.keepIn K (.ref f13) = true)
    {od14 an14 : Option Addr} {sl14 : Array (Option Value)} {oc14 kV14 dc14 pm14 cd14 ct14 : Value}
    (a14 : PySem.W.nsIn K mainGlobals "_law_all" = some (some (.ref f14))) (l14 : K.lookup f14 = some ⟨oc14, od14, .func (PySem.W.fnOf "_law_all" "_law_all" (defArgs s_l_all) (defBody s_l_all) (defScope s_l_all) .none kV14 dc14 pm14 an14 cd14 ct14), sl14⟩)
    (c14 : PySem.W.codeIn K cd14 "_law_all" = true) (k14 : PySem.W.keepIn K (.ref f14) = true)
    {od15 an15 : Option Addr} {sl15 : Array (Option Value)} {oc15 kV15 dc15 pm15 cd15 ct15 : Value}
    (a15 : PySem.W.nsIn K mainGlobals "_law_does_lead" = some (some (.ref f15))) (l15 : K.lookup f15 = some ⟨oc15, od15, .func (PySem.W.fnOf "_law_does_lead" "_law_does_lead" (defArgs s_l_does_lead) (defBody s_l_does_lead) (defScope s_l_does_lead) .none kV15 dc15 pm15 an15 cd15 ct15), sl15⟩)
    (c15 : PySem.W.codeIn K cd15 "_law_does_lead" = true) (k15 : PySem.W.keepIn K (.ref f15) = true)
    {od16 an16 : Option Addr} {sl16 : Array (Option Value)} {oc16 kV16 dc16 pm16 cd16 ct16 : Value}
    (a16 : PySem.W.nsIn K mainGlobals "_law_orders" = some (some (.ref f16))) (l16 : K.lookup f16 = some ⟨oc16, od16, .func (PySem.W.fnOf "_law_orders" "_law_orders" (defArgs s_l_orders) (defBody s_l_orders) (defScope s_l_orders) .none kV16 dc16 pm16 an16 cd16 ct16), sl16⟩)
    (c16 : PySem.W.codeIn K cd16 "_law_orders" = true) (k16 : PySem.W.keepIn K (.ref f16) = true)
    {od17 an17 : Option Addr} {sl17 : Array (Option Value)} {oc17 kV17 dc17 pm17 cd17 ct17 : Value}
    (a17 : PySem.W.nsIn K mainGlobals "_law_row_right" = some (some (.ref f17))) (l17 : K.lookup f17 = some ⟨oc17, od17, .func (PySem.W.fnOf "_law_row_right" "_law_row_right" (defArgs s_l_row_right) (defBody s_l_row_right) (defScope s_l_row_right) .none kV17 dc17 pm17 an17 cd17 ct17), sl17⟩)
    (c17 : PySem.W.codeIn K cd17 "_law_row_right" = true) (k17 : PySem.W.keepIn K (.ref f17) = true)
    {od18 an18 : Option Addr} {sl18 : Array (Option Value)} {oc18 kV18 dc18 pm18 cd18 ct18 : Value}
    (a18 : PySem.W.nsIn K mainGlobals "_law_setting_right" = some (some (.ref f18))) (l18 : K.lookup f18 = some ⟨oc18, od18, .func (PySem.W.fnOf "_law_setting_right" "_law_setting_right" (defArgs s_l_setting_right) (defBody s_l_setting_right) (defScope s_l_setting_right) .none kV18 dc18 pm18 an18 cd18 ct18), sl18⟩)
    (c18 : PySem.W.codeIn K cd18 "_law_setting_right" = true) (k18 : PySem.W.keepIn K (.ref f18) = true)
    {od19 an19 : Option Addr} {sl19 : Array (Option Value)} {oc19 kV19 dc19 pm19 cd19 ct19 : Value}
    (a19 : PySem.W.nsIn K mainGlobals "law" = some (some (.ref f19))) (l19 : K.lookup f19 = some ⟨oc19, od19, .func (PySem.W.fnOf "law" "law" (defArgs s_law) (defBody s_law) (defScope s_law) .none kV19 dc19 pm19 an19 cd19 ct19), sl19⟩)
    (c19 : PySem.W.codeIn K cd19 "law" = true) (k19 : PySem.W.keepIn K (.ref f19) = true)
    {tc_MOST_WIRES : Tok} (ac_MOST_WIRES : PySem.W.nsIn K mainGlobals "MOST_WIRES" = some (some (.int 6 tc_MOST_WIRES)))
    (z_isinstance : PySem.W.nsIn K mainGlobals "isinstance" = some none)
    (z_type : PySem.W.nsIn K mainGlobals "type" = some none)
    (z_int : PySem.W.nsIn K mainGlobals "int" = some none)
    (z_bool : PySem.W.nsIn K mainGlobals "bool" = some none)
    (z_list : PySem.W.nsIn K mainGlobals "list" = some none)
    (z_tuple : PySem.W.nsIn K mainGlobals "tuple" = some none)
    (z_all : PySem.W.nsIn K mainGlobals "all" = some none)
    (z_len : PySem.W.nsIn K mainGlobals "len" = some none)
    (z_sorted : PySem.W.nsIn K mainGlobals "sorted" = some none)
    (z_range : PySem.W.nsIn K mainGlobals "range" = some none)
    (z_zip : PySem.W.nsIn K mainGlobals "zip" = some none)
    (z_enumerate : PySem.W.nsIn K mainGlobals "enumerate" = some none)
    (z_max : PySem.W.nsIn K mainGlobals "max" = some none)
    (z_abs : PySem.W.nsIn K mainGlobals "abs" = some none)
    : ∃ fd : FuncData, (∀ (s : Shared) (v : Value), BindsTo s fd ⟨[v], []⟩ [("_law_script", v)]) ∧ ∀ base : Heap, K.In base → base.Ns mainGlobals mg → FnOk l.prog w K mg base CX0 7 fa fd ["_law_script"] (sp_law K) := by
  have e := hfa.symm.trans (PySem.W.mg_of X G a19)
  cases e
  have F0 := fun_mk (st := s_is_integer) l0 c0 k0
  have b0 := F0.binds (ps := ["value"]) fun _ _ _ _ _ _ us hl => match us, hl with | [_], _ => rfl
  have F1 := fun_mk (st := s_is_list) l1 c1 k1
  have b1 := F1.binds (ps := ["value"]) fun _ _ _ _ _ _ us hl => match us, hl with | [_], _ => rfl
  have F2 := fun_mk (st := s_is_numbers) l2 c2 k2
  have b2 := F2.binds (ps := ["value"]) fun _ _ _ _ _ _ us hl => match us, hl with | [_], _ => rfl
  have F3 := fun_mk (st := s_is_setting) l3 c3 k3
  have b3 := F3.binds (ps := ["value", "many"]) fun _ _ _ _ _ _ us hl => match us, hl with | [_, _], _ => rfl
  have F4 := fun_mk (st := s_is_wiring) l4 c4 k4
  have b4 := F4.binds (ps := ["value"]) fun _ _ _ _ _ _ us hl => match us, hl with | [_], _ => rfl
  have F5 := fun_mk (st := s_led) l5 c5 k5
  have b5 := F5.binds (ps := ["row", "setting"]) fun _ _ _ _ _ _ us hl => match us, hl with | [_, _], _ => rfl
  have F6 := fun_mk (st := s_need_wiring) l6 c6 k6
  have b6 := F6.binds (ps := ["value", "part"]) fun _ _ _ _ _ _ us hl => match us, hl with | [_, _], _ => rfl
  have F7 := fun_mk (st := s_led_to) l7 c7 k7
  have b7 := F7.binds (ps := ["row", "setting"]) fun _ _ _ _ _ _ us hl => match us, hl with | [_, _], _ => rfl
  have F8 := fun_mk (st := s_settings_of) l8 c8 k8
  have b8 := F8.binds (ps := ["row"]) fun _ _ _ _ _ _ us hl => match us, hl with | [_], _ => rfl
  have F9 := fun_mk (st := s_colours_of) l9 c9 k9
  have b9 := F9.binds (ps := ["row"]) fun _ _ _ _ _ _ us hl => match us, hl with | [_], _ => rfl
  have F10 := fun_mk (st := s_both_settings) l10 c10 k10
  have b10 := F10.binds (ps := ["row"]) fun _ _ _ _ _ _ us hl => match us, hl with | [_], _ => rfl
  have F11 := fun_mk (st := s_l_can) l11 c11 k11
  have b11 := F11.binds (ps := ["_law_script"]) fun _ _ _ _ _ _ us hl => match us, hl with | [_], _ => rfl
  have F12 := fun_mk (st := s_l_tip) l12 c12 k12
  have b12 := F12.binds (ps := ["_law_can_here", "_law_many"]) fun _ _ _ _ _ _ us hl => match us, hl with | [_, _], _ => rfl
  have F13 := fun_mk (st := s_l_row) l13 c13 k13
  have b13 := F13.binds (ps := ["_law_can_here", "_law_wires"]) fun _ _ _ _ _ _ us hl => match us, hl with | [_, _], _ => rfl
  have F14 := fun_mk (st := s_l_all) l14 c14 k14
  have b14 := F14.binds (ps := ["_law_wires"]) fun _ _ _ _ _ _ us hl => match us, hl with | [_], _ => rfl
  have F15 := fun_mk (st := s_l_does_lead) l15 c15 k15
  have b15 := F15.binds (ps := ["_law_row_here", "_law_tops", "_law_bottoms"]) fun _ _ _ _ _ _ us hl => match us, hl with | [_, _, _], _ => rfl
  have F16 := fun_mk (st := s_l_orders) l16 c16 k16
  have b16 := F16.binds (ps := ["_law_setting"]) fun _ _ _ _ _ _ us hl => match us, hl with | [_], _ => rfl
  have F17 := fun_mk (st := s_l_row_right) l17 c17 k17
  have b17 := F17.binds (ps := ["_law_can_here", "_law_wires", "_law_rows"]) fun _ _ _ _ _ _ us hl => match us, hl with | [_, _, _], _ => rfl
  have F18 := fun_mk (st := s_l_setting_right) l18 c18 k18
  have b18 := F18.binds (ps := ["_law_can_here", "_law_wires", "_law_rows"]) fun _ _ _ _ _ _ us hl => match us, hl with | [_, _, _], _ => rfl
  have F19 := fun_mk (st := s_law) l19 c19 k19
  have b19 := F19.binds (ps := ["_law_script"]) fun _ _ _ _ _ _ us hl => match us, hl with | [_], _ => rfl
  have kb8 : KBinds K _ ["row"] ["row"] (fun us ws => us ++ ws) (fun vs zs => vs ++ zs) := {
    to := fun s us ws _ hl => match us, ws, hl with
      | [], [_], _ => .of_eq (fd := PySem.W.fnOf "settings_of" "settings_of" (defArgs s_settings_of) (defBody s_settings_of) (defScope s_settings_of) .none kV8 dc8 pm8 an8 cd8 ct8) rfl
      | [_], [], _ => .of_eq rfl
    rel := fun r z => r.append z }
  let T : Txt K mg := {
    a_is_integer := f0, fd_is_integer := _, F_is_integer := F0, g_is_integer := PySem.W.mg_of X G a0, b_is_integer := b0,
    a_is_list := f1, fd_is_list := _, F_is_list := F1, g_is_list := PySem.W.mg_of X G a1, b_is_list := b1,
    a_is_numbers := f2, fd_is_numbers := _, F_is_numbers := F2, g_is_numbers := PySem.W.mg_of X G a2, b_is_numbers := b2,
    a_is_setting := f3, fd_is_setting := _, F_is_setting := F3, g_is_setting := PySem.W.mg_of X G a3, b_is_setting := b3,
    a_is_wiring := f4, fd_is_wiring := _, F_is_wiring := F4, g_is_wiring := PySem.W.mg_of X G a4, b_is_wiring := b4,
    a_led := f5, fd_led := _, F_led := F5, g_led := PySem.W.mg_of X G a5, b_led := b5,
    a_need_wiring := f6, fd_need_wiring := _, F_need_wiring := F6, g_need_wiring := PySem.W.mg_of X G a6, b_need_wiring := b6,
    a_led_to := f7, fd_led_to := _, F_led_to := F7, g_led_to := PySem.W.mg_of X G a7, b_led_to := b7,
    a_settings_of := f8, fd_settings_of := _, F_settings_of := F8, g_settings_of := PySem.W.mg_of X G a8, b_settings_of := b8,
    a_colours_of := f9, fd_colours_of := _, F_colours_of := F9, g_colours_of := PySem.W.mg_of X G a9, b_colours_of := b9,
    a_both_settings := f10, fd_both_settings := _, F_both_settings := F10, g_both_settings := PySem.W.mg_of X G a10, b_both_settings := b10,
    a_l_can := f11, fd_l_can := _, F_l_can := F11, g_l_can := PySem.W.mg_of X G a11, b_l_can := b11,
    a_l_tip := f12, fd_l_tip := _, F_l_tip := F12, g_l_tip := PySem.W.mg_of X G a12, b_l_tip := b12,
    a_l_row := f13, fd_l_row := _, F_l_row := F13, g_l_row := PySem.W.mg_of X G a13, b_l_row := b13,
    a_l_all := f14, fd_l_all := _, F_l_all := F14, g_l_all := PySem.W.mg_of X G a14, b_l_all := b14,
    a_l_does_lead := f15, fd_l_does_lead := _, F_l_does_lead := F15, g_l_does_lead := PySem.W.mg_of X G a15, b_l_does_lead := b15,
    a_l_orders := f16, fd_l_orders := _, F_l_orders := F16, g_l_orders := PySem.W.mg_of X G a16, b_l_orders := b16,
    a_l_row_right := f17, fd_l_row_right := _, F_l_row_right := F17, g_l_row_right := PySem.W.mg_of X G a17, b_l_row_right := b17,
    a_l_setting_right := f18, fd_l_setting_right := _, F_l_setting_right := F18, g_l_setting_right := PySem.W.mg_of X G a18, b_l_setting_right := b18,
    a_law := fa, fd_law := _, F_law := F19, g_law := PySem.W.mg_of X G a19, b_law := b19,
    t_MOST := tc_MOST_WIRES, c_MOST_WIRES := PySem.W.mg_of X G ac_MOST_WIRES,
    k_settings_of := kb8,
    z_isinstance := PySem.W.mg_none_of X G z_isinstance,
    z_type := PySem.W.mg_none_of X G z_type,
    z_int := PySem.W.mg_none_of X G z_int,
    z_bool := PySem.W.mg_none_of X G z_bool,
    z_list := PySem.W.mg_none_of X G z_list,
    z_tuple := PySem.W.mg_none_of X G z_tuple,
    z_all := PySem.W.mg_none_of X G z_all,
    z_len := PySem.W.mg_none_of X G z_len,
    z_sorted := PySem.W.mg_none_of X G z_sorted,
    z_range := PySem.W.mg_none_of X G z_range,
    z_zip := PySem.W.mg_none_of X G z_zip,
    z_enumerate := PySem.W.mg_none_of X G z_enumerate,
    z_max := PySem.W.mg_none_of X G z_max,
    z_abs := PySem.W.mg_none_of X G z_abs }
  exact ⟨PySem.W.fnOf "law" "law" (defArgs s_law) (defBody s_law) (defScope s_law) .none kV19 dc19 pm19 an19 cd19 ct19, fun s v => .of_eq rfl, fun base _ _ => ok_law T⟩
end My
open PySem PySem.W PyProof.Rows
set_option maxHeartbeats 0 in
theorem PySem.Challenge.cw_fromsize_k07_whole_no_earlier_wiring_lea_holds : PySem.Challenge.rw_fromsize_k07_whole_no_earlier_wiring_lea.Holds := by
  w_on; o_law; k_head; (case hw => w_witness2)
  k_fill
  refine L2.walk_of (l := PySem.Challenge.rw_fromsize_k07_whole_no_earlier_wiring_lea) (n := 63) (k := 7) (x := "_law_script") (CX := fun _ => L2.CX0) (sp := fun w => My.sp_law _) rfl (by decide) rfl ⟨rfl, by decide, by decide⟩ (fun w h Y => PySem.W.kIn_of Y) ?F (fun _ _ a ns hl _ hS => ⟨a, ns, rfl, hS, hl, fun _ => rfl⟩) (fun _ _ _ _ _ h => h)
  case F =>
    intro w mg fa h KX G hmg
    refine' My.all_mk KX G hmg ?a0 ?l0 ?c0 ?k0 ?a1 ?l1 ?c1 ?k1 ?a2 ?l2 ?c2 ?k2 ?a3 ?l3 ?c3 ?k3 ?a4 ?l4 ?c4 ?k4 ?a5 ?l5 ?c5 ?k5 ?a6 ?l6 ?c6 ?k6 ?a7 ?l7 ?c7 ?k7 ?a8 ?l8 ?c8 ?k8 ?a9 ?l9 ?c9 ?k9 ?a10 ?l10 ?c10 ?k10 ?a11 ?l11 ?c11 ?k11 ?a12 ?l12 ?c12 ?k12 ?a13 ?l13 ?c13 ?k13 ?a14 ?l14 ?c14 ?k14 ?a15 ?l15 ?c15 ?k15 ?a16 ?l16 ?c16 ?k16 ?a17 ?l17 ?c17 ?k17 ?a18 ?l18 ?c18 ?k18 ?a19 ?l19 ?c19 ?k19 ?ac_MOST_WIRES ?z_isinstance ?z_type ?z_int ?z_bool ?z_list ?z_tuple ?z_all ?z_len ?z_sorted ?z_range ?z_zip ?z_enumerate ?z_max ?z_abs
    (case a0 => k_is)
    (case l0 => k_is)
    (case c0 => k_is)
    (case k0 => k_is)
    (case a1 => k_is)
    (case l1 => k_is)
    (case c1 => k_is)
    (case k1 => k_is)
    (case a2 => k_is)
    (case l2 => k_is)
    (case c2 => k_is)
    (case k2 => k_is)
    (case a3 => k_is)
    (case l3 => k_is)
    (case c3 => k_is)
    (case k3 => k_is)
    (case a4 => k_is)
    (case l4 => k_is)
    (case c4 => k_is)
    (case k4 => k_is)
    (case a5 => k_is)
    (case l5 => k_is)
    (case c5 => k_is)
    (case k5 => k_is)
    (case a6 => k_is)
    (case l6 => k_is)
    (case c6 => k_is)
    (case k6 => k_is)
    (case a7 => k_is)
    (case l7 => k_is)
    (case c7 => k_is)
    (case k7 => k_is)
    (case a8 => k_is)
    (case l8 => k_is)
    (case c8 => k_is)
    (case k8 => k_is)
    (case a9 => k_is)
    (case l9 => k_is)
    (case c9 => k_is)
    (case k9 => k_is)
    (case a10 => k_is)
    (case l10 => k_is)
    (case c10 => k_is)
    (case k10 => k_is)
    (case a11 => k_is)
    (case l11 => k_is)
    (case c11 => k_is)
    (case k11 => k_is)
    (case a12 => k_is)
    (case l12 => k_is)
    (case c12 => k_is)
    (case k12 => k_is)
    (case a13 => k_is)
    (case l13 => k_is)
    (case c13 => k_is)
    (case k13 => k_is)
    (case a14 => k_is)
    (case l14 => k_is)
    (case c14 => k_is)
    (case k14 => k_is)
    (case a15 => k_is)
    (case l15 => k_is)
    (case c15 => k_is)
    (case k15 => k_is)
    (case a16 => k_is)
    (case l16 => k_is)
    (case c16 => k_is)
    (case k16 => k_is)
    (case a17 => k_is)
    (case l17 => k_is)
    (case c17 => k_is)
    (case k17 => k_is)
    (case a18 => k_is)
    (case l18 => k_is)
    (case c18 => k_is)
    (case k18 => k_is)
    (case a19 => k_is)
    (case l19 => k_is)
    (case c19 => k_is)
    (case k19 => k_is)
    (case ac_MOST_WIRES => k_is)
    (case z_isinstance => k_is)
    (case z_type => k_is)
    (case z_int => k_is)
    (case z_bool => k_is)
    (case z_list => k_is)
    (case z_tuple => k_is)
    (case z_all => k_is)
    (case z_len => k_is)
    (case z_sorted => k_is)
    (case z_range => k_is)
    (case z_zip => k_is)
    (case z_enumerate => k_is)
    (case z_max => k_is)
    (case z_abs => k_is)

