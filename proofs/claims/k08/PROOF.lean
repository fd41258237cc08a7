import PyProof.Rows.All
import Wide.All
import OpenK.AllK
import Wide.FinOn
import KE.GoesEnum
import KE.DataMinMax
import HandS.ForMost
import HandS.SortKw
import HandS.Set
import HandS.IsInst
import HandS.Conv
import HandS.Deep
import HandS.TupAny
import HandS.Wide
import HandS.Zip
import KE.KIndexOf
import HandS.TupLe
import HandS.RaiseMore
import KE.KSort
import HandS.Evl
import HandS.Codes
import HandS.More
import HandS.List
import PySem.Challenge.RW_fromsize_k08_whole_kept_ones_are_the_ear
set_option Elab.async false
set_option linter.all false
set_option maxRecDepth 100000
set_option maxHeartbeats 4000000
namespace My
open PySem PySem.Spec PyProof.Rows L2

/-! sorted of a list or a tuple of ints -/
section
variable {P : Program} {w : World} {A : Around} {E : Value → Shared → Prop} {s : Shared}
theorem sorted_two {l : Addr} {T : String} {o : Obj} {vs : List Value} {ns : List Int} {m : Nat} {Q : Value → Shared → Prop}
    (hT : T = "list" ∨ T = "tuple") (ho : s.heap.get? l = some o) (hc : o.cls = .type T) (hd : o.data = .seq vs.toArray m)
    (hI : IntsAre vs ns) (h64 : vs.length < 64)
    (hQ : ∀ (h1 h' : Heap) (out : Array Value) (c : Nat) (ns' : List Int), (∀ b u, s.heap.get? b = some u → h1.get? b = some u) →
      (∀ b u, h1.get? b = some u → h'.get? b = some u) → h'.get? h1.objs.size = some (seqObj "list" out c) → IntsAre out.toList ns' → ns'.Perm ns → ns'.Pairwise (· ≤ ·) →
      Q (.ref h1.objs.size) { s with heap := h' }) :
    wpAny (model P w) A (call (.builtin "sorted") [.ref l]) Q E s := by
  have small : vs.length ≤ sizeLine := by
    rw [sizeLine_eq]
    omega
  refine Calls.call_function_entry kind_sorted plain_sorted entry_sorted
    (args_sorted1 _) ?_
  unfold Builtin.«sorted»
  refine wpAny_bind (m := checkCount "sorted" 1 1 _)
    (wpAny_pure ?_)
  refine wpAny_bind (wpAny_collect_seq (A := A.in1) l hT ho hc hd
    (fun h1 k1 => ?_) (by simpa using small))
  refine wpAny_bind (wpAny_newList ?_ (by simpa using small))
  have at1 : (h1.push (seqObj "list" vs.toArray 0)).get? h1.objs.size
      = some (seqObj "list" vs.toArray 0) := Heap.get?_push_size _ rfl
  refine wpAny_bind (wpAny_holding (wpAny_call_entry slot_list_sort
    ⟨_, at1, rfl⟩ entry_list_sort
    (list_sort_tree at1 hI h64 fun out ns' a1 a2 a3 => ⟨_, rfl, ?_⟩)
    (args_list_sort _)))
  obtain ⟨c, hcc⟩ := sortedHeap_at (vs := vs) (out := out) at1
  refine wpAny_pure ⟨_, rfl, hQ h1 _ out c ns' k1
    (fun b u q => ?_) hcc a1 a2 a3⟩
  have lt := Heap.lt_size q
  rw [sortedHeap_old (Nat.ne_of_lt lt)
    (by rw [size_push']; exact Nat.lt_succ_of_lt lt)]
  exact Heap.get?_push_of_some _ q
end
/-- a list or a tuple at a -/
def Sq (K : PySem.W.Frag) (H : Hp) (a : Addr) (xs : List V) : Prop := SqL K H a xs ∨ SqT K H a xs
section
variable {X : Cx}
def rSort2 (K : PySem.W.Frag) : List V → Hp → VK → Prop := fun vs H Q => ∃ (a : Addr) (ns : List Int), vs = [V.ref a] ∧
  Sq K H a (ns.map V.int) ∧ ns.length < 64 ∧ ∀ (ns' : List Int) (p : Addr), ns'.Perm ns → ns'.Pairwise (· ≤ ·) → H p = none →
    Q (.ref p) (upd H p (.lst (ns'.map V.int)))
theorem cr_sort2 : CallR X (.builtin "sorted") (rSort2 X.K) := by
  intro pins s σ H vs us Q I r h
  obtain ⟨a, ns, rfl, hs, h64, q⟩ := h
  have main : ∀ (T : String) (o : Obj) (its : List Value) (m : Nat), (T = "list" ∨ T = "tuple") → Vals (ns.map V.int) its →
      s.heap.get? a = some o → o.cls = .type T → o.data = .seq its.toArray m →
      wpAny (model X.prog X.w) X.A (call (.builtin "sorted") us) (EP X pins σ Q) X.xe s := by
    intro T o its m hT rv ho hc hd
    have hi := rv.ints
    have hl : its.length < 64 := by
      rw [hi.length]
      exact h64
    have e1 := Vals.ref1 r
    subst e1
    refine sorted_two hT ho hc hd hi hl
      fun h1 h' out c ns' k1 k2 at1 b1 b2 b3 => ?_
    have I1 : Inv X pins σ H { s with heap := h1 } :=
      I.kept (t' := s.toks) k1
    have len1 : (ns'.map V.int).length ≤ sizeLine := by
      rw [List.length_map, b2.length_eq, sizeLine_eq]
      omega
    have I2 : Inv X pins σ (upd H h1.objs.size (.lst (ns'.map V.int)))
        { s with heap := h' } :=
      I1.laid (t' := s.toks) k2 (Nat.le_refl _)
        ⟨len1, out.toList, c, vals_of_ints b1, at1⟩
    exact ⟨.ref h1.objs.size, _, I2, rfl,
      q ns' _ b2 b3 (I1.hok.fresh (Nat.le_refl _))⟩
  rcases hs with hs | hs
  · obtain ⟨its, rv, ⟨o, n, e1, e2, e3, e4⟩, _⟩ := I.list hs
    exact main "list" o its n (.inl rfl) rv e1 e2 e4
  · obtain ⟨its, rv, ⟨o, e1, e2, n, e3⟩, _⟩ := I.tuple hs
    exact main "tuple" o its n (.inr rfl) rv e1 e2 e3

/-! max of a list of ints, default= an int -/
def mx (d : Int) : List Int → Int
  | [] => d
  | y :: ys => ys.foldl max y
theorem alikes (ns : List Int) : PySem.W.AlikeAll (ns.map PyData.int) := by
  refine ⟨fun x hx y hy => ?_, fun x hx => ?_⟩
  · obtain ⟨i, _, rfl⟩ := List.mem_map.mp hx
    obtain ⟨j, _, rfl⟩ := List.mem_map.mp hy
    rfl
  · obtain ⟨i, _, rfl⟩ := List.mem_map.mp hx
    intro z
    cases z
theorem depth_ints : ∀ ns : List Int, PyData.depthAll (ns.map PyData.int) ≤ 1
  | [] => by
    show 0 ≤ 1
    omega
  | n :: ns => by
    have ih := depth_ints ns
    show max (PyData.depth (.int n)) (PyData.depthAll (ns.map PyData.int)) ≤ 1
    have h1 : PyData.depth (.int n) ≤ 1 := by
      show _ ≤ 1
      simp [PyData.depth]
    omega
def rMaxDf (K : PySem.W.Frag) : List V → List V → Hp → VK → Prop := fun vs zs H Q => ∃ (a : Addr) (ns : List Int) (d : Int),
  vs = [V.ref a] ∧ zs = [V.int d] ∧ SqL K H a (ns.map V.int) ∧ Q (.int (mx d ns)) H
theorem cr_maxDf (hc : X.calm = true) (hu : X.A.units + 64 < cLine) : CallRK X (.builtin "max") ["default"] (rMaxDf X.K) := by
  intro pins s σ H vs zs us ws Q I r r2 h
  obtain ⟨a, ns, d, rfl, rfl, hs, q⟩ := h
  have e1 := Vals.ref1 r
  subst e1
  obtain ⟨u, rfl, ru⟩ := r2.one
  obtain ⟨tk0, rfl⟩ := ru
  obtain ⟨its, rv, hl, _⟩ := I.list hs
  have hi := rv.ints
  have hr : ReadsAll s.heap its.toArray.toList (ns.map PyData.int) [] := by
    have := hi.reads s.heap
    simpa using this
  refine PySem.W.max_list_default (d := .int d tk0) (I.ok.hd hc) hl.isList hr (alikes ns)
    (by have := depth_ints ns; omega) (fun e h' tk k => ?_) fun y ys i v h' tk bs e hv rd k => ?_
  · cases ns with
    | nil => exact ⟨.int d, H, I.kept k, ⟨_, rfl⟩, q⟩
    | cons n ns => cases e
  · cases ns with
    | nil => cases e
    | cons n ns =>
      rw [List.map_cons] at e
      injection e with e2 e3
      subst e2 e3
      rw [PySem.W.maxD_ints] at rd
      cases rd with
      | int _ t => exact ⟨.int _, H, I.kept k, ⟨_, rfl⟩, q⟩
end
/-! enumerate of a tuple -/
set_option maxHeartbeats 2000000 in
theorem enum_new1 {v : Value} {o : Obj} {G : Heap → Prop} (B : Begins v o G) :
    Meets (Builtin.«enumerate.__new__» ⟨[.type "enumerate", v], []⟩) (fun _ R s => G s.heap ∧
      R (.ok (.ret (.ref (s.heap.push o).objs.size)))
        { s with heap := (s.heap.push o).push { cls := .type "enumerate", data := .fields #[.none, .bool false, .ref s.heap.objs.size, rawInt 0, .none, .none] } }) :=
  .of_wp fun prog w A R s h => by
    obtain ⟨hp, g, d, tk, os⟩ := s
    obtain ⟨h1, h⟩ := h
    have sub0 := sub_enumerate
    have goes : ∀ {A' : Around} {E : Value → Shared → Prop} {Q : Value → Shared → Prop},
        Q (.ref hp.objs.size) ⟨hp.push o, g, d, tk, os⟩ →
        wpAny (model prog w) A' (pyIter v) Q E ⟨hp, g, d, tk, os⟩ :=
      fun q => B.iter prog w _ _ ⟨hp, g, d, tk, os⟩ _ h1 q
    wp_walk using goes
    refine wpAny_stack_any fun st =>
      wpAny_pure ?_
    split
    · rename_i c _ _ _ _ _
      cases (c == Value.type "enumerate") <;>
        (wp_walk using goes
         exact ⟨_, rfl, h⟩)
    · wp_walk using goes
      exact ⟨_, rfl, h⟩
section
variable {prog : Program} {w : World} {A : Around} {E : Value → Shared → Prop} {s : Shared}
theorem call_enum1 {v : Value} {o : Obj} {G : Heap → Prop} {Q : Value → Shared → Prop} (B : Begins v o G) (h1 : G s.heap)
    (h : ∀ h', IsEnum h' (s.heap.objs.size + 1) s.heap.objs.size 0 .none → h'.get? s.heap.objs.size = some o →
      (∀ b o, s.heap.get? b = some o → h'.get? b = some o) → Q (.ref (s.heap.objs.size + 1)) { s with heap := h' }) :
    wpAny (model prog w) A (call (.type "enumerate") [v]) Q E s := by
  refine callType_new F.called_enumerate (by decide) (F.typeCall_enumerate_1 _)
    (F.newCall_enumerate_1 _) (fun obj => F.args_object_init_2 obj _)
    F.entry_enumerate_new (enum_new1 B) ⟨h1, ?_⟩
  have hz : (s.heap.push o).objs.size = s.heap.objs.size + 1 := Heap.size_push ..
  show _ ∧ _
  rw [hz]
  have he : IsEnum ((s.heap.push o).push { cls := .type "enumerate", data := .fields #[.none, .bool false, .ref s.heap.objs.size, rawInt 0, .none, .none] })
      (s.heap.objs.size + 1) s.heap.objs.size 0 .none := by
    have t := Heap.get?_push_size (s.heap.push o)
      (o := { cls := .type "enumerate", data := .fields #[.none, .bool false, .ref s.heap.objs.size, rawInt 0, .none, .none] }) rfl
    rw [hz] at t
    exact t
  refine ⟨⟨_, he, rfl⟩, h _ he (Heap.get?_push_of_some _
    (Heap.get?_push_size _ B.free)) fun b o x => ?_⟩
  exact Heap.get?_push_of_some _ (Heap.get?_push_of_some _ x)
end
/-- the tuple at a, each item in a new pair with its number -/
def IteT (K : PySem.W.Frag) (a : Addr) : It :=
  ⟨fun i H => ∃ (xs : List V) (x : V), SqT K H a xs ∧ xs[i]? = some x,
   fun i H v H' => ∃ T x, v = .ref T ∧ H T = none ∧ H' = upd H T (.tup [.int (i : Nat), x]) ∧
     ∀ xs, SqT K H a xs → xs[i]? = some x,
   fun i H => ∃ xs : List V, SqT K H a xs ∧ xs.length = i⟩
theorem turn_enumT {P : Program} {w : World} {K : PySem.W.Frag} {elts : List Expr} {kk : Nat} {tpos : Pos} {a e it : Addr} (hei : e ≠ it) (hai : a ≠ it) (hea : e ≠ a) :
    Turn P w K (.Tuple elts kk tpos) (IteT K a) [e, it] e
      (fun i h => (∃ old, IsEnum h e it ((i : Nat) : Int) old) ∧ h.IsTupleIter it a i) where
  mem := by simp
  obj := fun i h st b hb => by
    obtain ⟨⟨old, he⟩, ⟨o, ho, hc, hd⟩⟩ := st
    have e' : b = e ∨ b = it := by simpa using hb
    rcases e' with rfl | rfl
    · exact ⟨_, he, fun v q => nomatch q⟩
    · exact ⟨o, ho, fun v q => by
        rw [hd] at q
        cases q⟩
  keep := fun i h h' st k => by
    obtain ⟨⟨old, he⟩, hi⟩ := st
    exact ⟨⟨old, k e (by simp) _ he⟩,
      hi.at fun o q => k it (by simp) o q⟩
  item := by
    intro X hP hw hK hc i pins s σ H E I hf st hg
    subst hP hw hK
    obtain ⟨⟨old, he⟩, hit⟩ := st
    obtain ⟨xs, x, hq, hx⟩ := hg
    obtain ⟨its, rv, p, hz⟩ := I.tuple hq
    obtain ⟨u, hu, ru⟩ := rv.get hx
    have lte : e < s.heap.objs.size := Heap.lt_size he
    have lti : it < s.heap.objs.size := by
      obtain ⟨_, q, _⟩ := hit
      exact Heap.lt_size q
    have D := Draws.tuple (prog := X.prog) (w := X.w) (A := X.A.in1)
      (I.ok.hd hc) it a hai its.toArray
    have lx : i < its.toArray.size := by
      have := (List.getElem?_eq_some_iff.mp hu).1
      simpa using this
    refine wpAny_pyNext_enum_itemC D he
      ⟨hit, (show s.heap.IsTuple a its.toArray from p)⟩ lx hei
      (by simp [hei, hea])
      fun y h' tk hy ho st' hT hsz hk => ?_
    have ey : y = u := by
      have h2 : its.toArray[i]? = some y := hy
      have h3 : its.toArray[i]? = some u := by simpa using hu
      rw [h2] at h3
      exact Option.some.inj h3
    subst ey
    refine ⟨_, rfl, wpAny_letOwnedTupleGo_enum (s := { s with heap := h', toks := tk + 1 })
      ho fun h'' he' sb => ?_⟩
    have hT2 : h''.get? s.heap.objs.size = some { cls := .type "tuple", data := .seq #[.int i tk, y] } :=
      (sb.2 _ (Nat.ne_of_gt lte)).trans hT
    have new : ObjOk X.prog X.w (upd H s.heap.objs.size (.tup [.int (i : Nat), x])) h''
        s.heap.objs.size (.tup [.int (i : Nat), x]) :=
      ⟨by show 2 ≤ sizeLine; decide, [.int i tk, y],
        .cons ⟨_, rfl⟩ (.cons ru .nil), ⟨_, hT2, rfl, _, rfl⟩⟩
    have I1 : Inv X pins σ (upd H s.heap.objs.size (.tup [.int (i : Nat), x]))
        { s with heap := h'', toks := tk + 1 } :=
      I.turnedNew (ch := [e, it]) (fun b ob hb q =>
        (sb.2 b (fun z => hb (by simp [z]))).trans
          (hk b ob (fun z => hb (by simp [z])) (fun z => hb (by simp [z])) q))
        hf (Nat.le_refl _) new
    refine ⟨.ref s.heap.objs.size, _, I1, rfl, ⟨_, x, rfl,
      I.hok.fresh (Nat.le_refl _), rfl, fun ys hy => ?_⟩,
      ⟨⟨y, ?_⟩, st'.1.at fun o q => (sb.2 it (Ne.symm hei)).trans q⟩,
      fun b hb => ?_⟩
    · rw [I.tuple_inj hy hq]
      exact hx
    · have e1 : ((i + 1 : Nat) : Int) = (i : Int) + 1 := by omega
      rw [e1]
      exact he'
    · have hb' : b < s.heap.objs.size := by
        have e' : b = e ∨ b = it := by simpa using hb
        rcases e' with rfl | rfl
        · exact lte
        · exact lti
      rw [upd_ne (Nat.ne_of_lt hb')]
      exact (hf b hb).1
  done := by
    intro X hP hw hK hc i pins s σ H E I hf st hg
    subst hP hw hK
    obtain ⟨⟨old, he⟩, hit⟩ := st
    obtain ⟨xs, hq, hx⟩ := hg
    obtain ⟨its, rv, p, hz⟩ := I.tuple hq
    have hl := rv.length
    have D := Draws.tuple (prog := X.prog) (w := X.w) (A := X.A.in1)
      (I.ok.hd hc) it a hai its.toArray
    have e2 : its.toArray.size = i := by
      simp
      omega
    refine wpAny_pyNext_enum_endD D he (by
      rw [e2]
      exact ⟨hit, (show s.heap.IsTuple a its.toArray from p)⟩) fun h' eb => ⟨rfl, ?_⟩
    exact I.turnedL (t' := s.toks) (ch := [e, it])
      (fun b o hb q => eb b o (fun z => hb (by simp [z])) q) hf
  self := fun A i s Q E st h => by
    obtain ⟨⟨_, he⟩, _⟩ := st
    exact wpAny_pyIter_enum he h
def iEnumT (K : PySem.W.Frag) (ta : TA) : TI := fun σ H R => ta σ H fun vs H1 => ∃ a xs, vs = [.ref a] ∧ SqT K H1 a xs ∧ R (IteT K a) H1
theorem pi_enumT {X : Cx} {e : Expr} {ta : TA} {p pos tpos : Pos} {elts : List Expr} {kk : Nat} (hg : Gl X "enumerate") (hm : X.mg "enumerate" = none)
    (ha : PA X [e] ta) (hs : starEach [e] X.env = [(false, eval e X.env)] := by rfl) :
    PI X (.Tuple elts kk tpos) (.Call (.Name "enumerate" p) [e] [] pos) (iEnumT X.K ta) := by
  refine ⟨fun pins s σ H R I h => ?_⟩
  refine Call_ (ld_blt I hg hm boot_enumerate (PyProof.Rows.callWith_type1
    (thn (ha.run pos pins s σ H _ I h) fun us s1 ⟨vs, H1, I1, r1, q1⟩ => ?_) hs rfl))
  obtain ⟨a, xs, ex, hq, q⟩ := q1
  subst ex
  have e1 := Vals.ref1 r1
  subst e1
  obtain ⟨its, rv, p', hz⟩ := I1.tuple hq
  have la : a < s1.heap.objs.size := p'.lt
  refine call_enum1 (begins_tuple a its.toArray)
    (show s1.heap.IsTuple a its.toArray from p')
    fun h' he hit hk => wpAny_pyIter_enum he ?_
  have I2 : Inv X pins σ H1 { s1 with heap := h' } := I1.kept (t' := s1.toks) hk
  refine ⟨s1.heap.objs.size + 1, [s1.heap.objs.size + 1, s1.heap.objs.size], _, _, H1, rfl, I2,
    turn_enumT (a := a) (Nat.succ_ne_self _) (Nat.ne_of_lt la) (Nat.ne_of_gt (Nat.lt_succ_of_lt la)),
    ⟨⟨.none, he⟩, ⟨_, hit, rfl, rfl⟩⟩, fun b hb => ?_, q⟩
  have hle : s1.heap.objs.size ≤ b := by
    have e' : b = s1.heap.objs.size + 1 ∨ b = s1.heap.objs.size := by simpa using hb
    rcases e' with z | z
    · rw [z]
      exact Nat.le_succ _
    · rw [z]
      exact Nat.le_refl _
  exact I1.fpOk hle (I1.hok.fresh hle)
/-- a loop over enumerate of a tuple -/
theorem for_enumT {K : PySem.W.Frag} {a : Addr} {xs : List V} {g : TG} {tb : TS} {D : Ends} {σ : L2.St} {H : Hp} (Pv : Nat → L2.St → Hp → Prop) (h0 : Pv 0 σ H)
    (hq : ∀ i σ H, Pv i σ H → SqT K H a xs)
    (hs : ∀ (i : Nat) (x : V) (T : Addr) (σ : L2.St) (H : Hp), xs[i]? = some x → Pv i σ H → H T = none →
      g (.ref T) σ (upd H T (.tup [.int (i : Nat), x])) fun σ2 H2 => tb { D with nx := Pv (i + 1), ct := Pv (i + 1), bk := D.nx } σ2 H2)
    (hd : ∀ σ H, Pv xs.length σ H → D.nx σ H) :
    ∃ W : Nat → Nat → L2.St → Hp → Prop, (∃ m, W 0 m σ H) ∧ ∀ i m σ H, W i m σ H →
      ((IteT K a).stop i H ∧ D.nx σ H) ∨ ((IteT K a).go i H ∧ ∃ N : L2.St → Hp → Prop, (∀ σ' H', N σ' H' → ∃ m', m' < m ∧ W (i + 1) m' σ' H') ∧
        ∀ v H', (IteT K a).yld i H v H' → g v σ H' fun σ2 H2 => tb { D with nx := N, ct := N, bk := D.nx } σ2 H2) := by
  refine ⟨fun i m σ H => m = xs.length - i ∧ i ≤ xs.length ∧ Pv i σ H,
    ⟨xs.length, rfl, Nat.zero_le _, h0⟩, ?_⟩
  rintro i m σ H ⟨rfl, hi, p⟩
  have qx := hq i σ H p
  by_cases hlt : i < xs.length
  · have hx : xs[i]? = some xs[i] := List.getElem?_eq_getElem hlt
    refine .inr ⟨⟨xs, _, qx, hx⟩, Pv (i + 1),
      fun σ' H' p' => ⟨xs.length - (i + 1), by omega, rfl, hlt, p'⟩, fun v H' y => ?_⟩
    obtain ⟨T, x', rfl, hT, rfl, f1⟩ := y
    exact hs i x' T σ H (f1 xs qx) p hT
  · have e : i = xs.length := by omega
    subst e
    exact .inl ⟨⟨xs, qx, rfl⟩, hd σ H p⟩
/-! zip of a tuple and a list, as long -/
def ItzX (K : PySem.W.Frag) (a b : Addr) : It :=
  ⟨fun i H => ∃ (xs ys : List V) (x y : V), SqT K H a xs ∧ SqL K H b ys ∧ xs[i]? = some x ∧ ys[i]? = some y,
   fun i H v H' => ∃ T x y, v = .ref T ∧ H T = none ∧ H' = upd H T (.tup [x, y]) ∧
     (∀ xs, SqT K H a xs → xs[i]? = some x) ∧ ∀ ys, SqL K H b ys → ys[i]? = some y,
   fun i H => ∃ xs ys : List V, SqT K H a xs ∧ SqL K H b ys ∧ xs.length = i ∧ ys.length = i⟩
theorem turn_zipX {P : Program} {w : World} {K : PySem.W.Frag} {elts : List Expr} {kk : Nat} {tpos : Pos} {a b z TI TO i1 i2 : Addr}
    (S : ZipSep2 z TI TO i1 i2 [i1, a] [i2, b]) (ha1 : a ≠ i1) (hb2 : b ≠ i2) :
    Turn P w K (.Tuple elts kk tpos) (ItzX K a b) [z, TI, TO, i1, i2] z
      (fun i h => IsZip h z TI TO .none ∧ IsTupOf2 h TI (.ref i1) (.ref i2) ∧ (∃ x y, IsTupOf2 h TO x y) ∧
        h.IsTupleIter i1 a i ∧ h.IsListIter i2 b i) where
  mem := by simp
  obj := fun i h st c hc => by
    obtain ⟨hz, hTI, ⟨x, y, hTO⟩, ⟨o1, e1, _, d1⟩, ⟨o2, e2, _, d2⟩⟩ := st
    have e' : c = z ∨ c = TI ∨ c = TO ∨ c = i1 ∨ c = i2 := by simpa using hc
    rcases e' with rfl | rfl | rfl | rfl | rfl
    · exact ⟨_, hz, fun v q => nomatch q⟩
    · exact ⟨_, hTI, fun v q => nomatch q⟩
    · exact ⟨_, hTO, fun v q => nomatch q⟩
    · exact ⟨o1, e1, fun v q => by
        rw [d1] at q
        cases q⟩
    · exact ⟨o2, e2, fun v q => by
        rw [d2] at q
        cases q⟩
  keep := fun i h h' st k => by
    obtain ⟨hz, hTI, ⟨x, y, hTO⟩, h1, h2⟩ := st
    exact ⟨k z (by simp) _ hz, k TI (by simp) _ hTI,
      ⟨x, y, k TO (by simp) _ hTO⟩,
      h1.at fun o q => k i1 (by simp) o q,
      h2.at fun o q => k i2 (by simp) o q⟩
  item := by
    intro X hP hw hK hc i pins s σ H E I hf st hg
    subst hP hw hK
    obtain ⟨hz, hTI, ⟨x0, y0, hTO⟩, h1, h2⟩ := st
    obtain ⟨xs, ys, x, y, hqx, hqy, hx, hy⟩ := hg
    obtain ⟨its, rv, p, _⟩ := I.tuple hqx
    obtain ⟨its2, rv2, p2, _⟩ := I.list hqy
    obtain ⟨u, hu, ru⟩ := rv.get hx
    obtain ⟨u2, hu2, ru2⟩ := rv2.get hy
    have ltz : z < s.heap.objs.size := Heap.lt_size hz
    have D1 := Draws.tuple (prog := X.prog) (w := X.w) (A := X.A.in1)
      (I.ok.hd hc) i1 a ha1 its.toArray
    have D2 := Draws.list (prog := X.prog) (w := X.w) (A := X.A.in1)
      (I.ok.hd hc) i2 b hb2 its2.toArray
    have lx : i < its.toArray.size := by
      have := (List.getElem?_eq_some_iff.mp hu).1
      simpa using this
    have ly : i < its2.toArray.size := by
      have := (List.getElem?_eq_some_iff.mp hu2).1
      simpa using this
    refine wpAny_pyNext_zipD2_item S D1 D2 hz hTI hTO
      ⟨h1, (show s.heap.IsTuple a its.toArray from p)⟩ ⟨h2, p2.isList⟩ lx ly
      fun v1 v2 h' tk hv1 hv2 z' TO' st1 st2 hT hsz hk => ?_
    have e1 : v1 = u := by
      have g1 : its.toArray[i]? = some v1 := hv1
      have g2 : its.toArray[i]? = some u := by simpa using hu
      rw [g1] at g2
      exact Option.some.inj g2
    have e2 : v2 = u2 := by
      have g1 : its2.toArray[i]? = some v2 := hv2
      have g2 : its2.toArray[i]? = some u2 := by simpa using hu2
      rw [g1] at g2
      exact Option.some.inj g2
    subst e1 e2
    refine ⟨_, rfl, wpAny_letOwnedTupleGo_zip (s := { s with heap := h', toks := tk })
      z' fun h'' z'' sb => ?_⟩
    have hT2 : h''.get? s.heap.objs.size = some { cls := .type "tuple", data := .seq #[v1, v2] } :=
      (sb.2 _ (Nat.ne_of_gt ltz)).trans hT
    have new : ObjOk X.prog X.w (upd H s.heap.objs.size (.tup [x, y])) h''
        s.heap.objs.size (.tup [x, y]) :=
      ⟨by show 2 ≤ sizeLine; decide, [v1, v2],
        .cons ru (.cons ru2 .nil), ⟨_, hT2, rfl, _, rfl⟩⟩
    have I1 : Inv X pins σ (upd H s.heap.objs.size (.tup [x, y]))
        { s with heap := h'', toks := tk } :=
      I.turnedNew (ch := [z, TI, TO, i1, i2]) (fun c o hb q =>
        (sb.2 c (fun q' => hb (by simp [q']))).trans
          (hk c o (fun q' => hb (by simp [q'])) (fun q' => hb (by simp [q']))
            (fun q' => hb (by simp [q'])) (fun q' => hb (by simp [q'])) q))
        hf (Nat.le_refl _) new
    refine ⟨.ref s.heap.objs.size, _, I1, rfl, ⟨_, x, y, rfl,
      I.hok.fresh (Nat.le_refl _), rfl, fun l hl => ?_, fun l hl => ?_⟩,
      ⟨z'', ?_, ⟨v1, v2, ?_⟩, ?_, ?_⟩, fun c hcm => ?_⟩
    · rw [I.tuple_inj hl hqx]
      exact hx
    · rw [I.list_inj hl hqy]
      exact hy
    · exact (sb.2 _ S.TIz).trans
        (hk _ _ S.TIz S.TITO S.TIi1 S.TIi2 hTI)
    · exact (sb.2 _ S.TOz).trans TO'
    · exact st1.1.at fun o q => (sb.2 _ S.zi1.symm).trans q
    · exact st2.1.at fun o q => (sb.2 _ S.zi2.symm).trans q
    · have hlt : c < s.heap.objs.size := by
        have e' : c = z ∨ c = TI ∨ c = TO ∨ c = i1 ∨ c = i2 := by simpa using hcm
        rcases e' with q | q | q | q | q
        · rw [q]
          exact ltz
        · rw [q]
          exact Heap.lt_size hTI
        · rw [q]
          exact Heap.lt_size hTO
        · rw [q]
          obtain ⟨_, e1, _⟩ := h1
          exact Heap.lt_size e1
        · rw [q]
          obtain ⟨_, e1, _⟩ := h2
          exact Heap.lt_size e1
      rw [upd_ne (Nat.ne_of_lt hlt)]
      exact (hf c hcm).1
  done := by
    intro X hP hw hK hc i pins s σ H E I hf st hg
    subst hP hw hK
    obtain ⟨hz, hTI, ⟨x0, y0, hTO⟩, h1, h2⟩ := st
    obtain ⟨xs, ys, hqx, hqy, el1, el2⟩ := hg
    obtain ⟨its, rv, p, _⟩ := I.tuple hqx
    obtain ⟨its2, rv2, p2, _⟩ := I.list hqy
    have l1 := rv.length
    have l2 := rv2.length
    have D1 := Draws.tuple (prog := X.prog) (w := X.w) (A := X.A.in1)
      (I.ok.hd hc) i1 a ha1 its.toArray
    have D2 := Draws.list (prog := X.prog) (w := X.w) (A := X.A.in1)
      (I.ok.hd hc) i2 b hb2 its2.toArray
    have s1 : its.toArray.size = i := by
      simp
      omega
    have s2 : its2.toArray.size = i := by
      simp
      omega
    refine wpAny_pyNext_zipD2_end S D1 D2 hz hTI hTO (i := i)
      ⟨h1, (show s.heap.IsTuple a its.toArray from p)⟩ ⟨h2, p2.isList⟩
      (by omega) (by omega) (by omega) fun h' tk hk => ⟨rfl, ?_⟩
    exact I.turnedL (t' := tk) (ch := [z, TI, TO, i1, i2]) (fun c o hb q =>
      hk c o (fun q' => hb (by simp [q'])) (fun q' => hb (by simp [q']))
        (fun q' => hb (by simp [q'])) (fun q' => hb (by simp [q'])) q) hf
  self := fun A i s Q E st h => wpAny_pyIter_zip st.1 h
def iZipX (K : PySem.W.Frag) (ta : TA) : TI := fun σ H R => ta σ H fun vs H1 => ∃ a b xs ys, vs = [.ref a, .ref b] ∧
  ((SqT K H1 a xs ∧ SqL K H1 b ys ∧ R (ItzX K a b) H1) ∨ (SqT K H1 a xs ∧ SqT K H1 b ys ∧ R (RZ.ItzT K a b) H1))
theorem fresh_all {X : Cx} {pins : List (Addr × Obj)} {σ : L2.St} {H : Hp} {s : Shared} (I : Inv X pins σ H s) {fp : List Addr} (h : ∀ c ∈ fp, s.heap.objs.size ≤ c) :
    ∀ c ∈ fp, FpOk X pins H c :=
  fun c hc => I.fpOk (h c hc) (I.hok.fresh (h c hc))
theorem five_up (N : Nat) : ∀ c ∈ [N + 4, N + 2, N + 3, N, N + 1], N ≤ c := fun c hc => by
  have e : c = N + 4 ∨ c = N + 2 ∨ c = N + 3 ∨ c = N ∨ c = N + 1 := by simpa using hc
  rcases e with z | z | z | z | z <;> (rw [z]; omega)
theorem pi_zipX {X : Cx} {e e2 : Expr} {ta : TA} {p pos tpos : Pos} {elts : List Expr} {kk : Nat} (hg : Gl X "zip") (hm : X.mg "zip" = none) (ha : PA X [e, e2] ta)
    (hs : starEach [e, e2] X.env = (false, eval e X.env) :: starEach [e2] X.env := by rfl)
    (hpl : (backTo pos (starEach [e2] X.env)).any (·.1) = false := by rfl) :
    PI X (.Tuple elts kk tpos) (.Call (.Name "zip" p) [e, e2] [] pos) (iZipX X.K ta) := by
  refine ⟨fun pins s σ H R I h => ?_⟩
  refine Call_ (ld_blt I hg hm PyProof.Rows.boot_zip (PyProof.Rows.callWith_type1
    (thn (ha.run pos pins s σ H _ I h) fun us s1 ⟨vs, H1, I1, r1, q1⟩ => ?_) hs hpl))
  obtain ⟨a, b, xs, ys, ex, q1⟩ := q1
  subst ex
  obtain ⟨u1, u2, rfl, ra, rb⟩ := vals2 r1
  cases ra
  cases rb
  rcases q1 with ⟨hqx, hqy, q⟩ | ⟨hqx, hqy, q⟩
  · obtain ⟨its, rv, p1, _⟩ := I1.tuple hqx
    obtain ⟨its2, rv2, p2, _⟩ := I1.list hqy
    have la : a < s1.heap.objs.size := p1.lt
    have lb : b < s1.heap.objs.size := p2.lt
    refine zip_begins2 (begins_tuple a its.toArray) (begins_list b its2.toArray)
      (show s1.heap.IsTuple a its.toArray from p1) p2.isList
      fun h' hz hTI hTO h1 h2 hsz hk => wpAny_pyIter_zip hz ?_
    have I2 : Inv X pins σ H1 { s1 with heap := h' } := I1.kept (t' := s1.toks) hk
    refine ⟨s1.heap.objs.size + 4, [s1.heap.objs.size + 4, s1.heap.objs.size + 2, s1.heap.objs.size + 3, s1.heap.objs.size, s1.heap.objs.size + 1], _, _, H1, rfl, I2,
      turn_zipX (zip_sep2 (fp1 := [a]) (fp2 := [b]) (by simpa using la) (by simpa using lb)) (Nat.ne_of_lt la) (Nat.ne_of_lt (Nat.lt_succ_of_lt lb)),
      ⟨hz, hTI, ⟨_, _, hTO⟩, ⟨_, h1, rfl, rfl⟩, ⟨_, h2, rfl, rfl⟩⟩,
      fresh_all I1 (five_up _), q⟩
  · obtain ⟨its, rv, p1, _⟩ := I1.tuple hqx
    obtain ⟨its2, rv2, p2, _⟩ := I1.tuple hqy
    refine RZ.call_zipT (show s1.heap.IsTuple a its.toArray from p1)
      (show s1.heap.IsTuple b its2.toArray from p2)
      fun h' hz hTI hTO h1 h2 hsz hk => wpAny_pyIter_zip hz ?_
    have I2 : Inv X pins σ H1 { s1 with heap := h' } := I1.kept (t' := s1.toks) hk
    exact ⟨s1.heap.objs.size + 4, [s1.heap.objs.size + 4, s1.heap.objs.size + 2, s1.heap.objs.size + 3, s1.heap.objs.size, s1.heap.objs.size + 1], _, _, H1, rfl, I2,
      RZ.turn_zipT (PySem.W.ktu_apart s1.heap.objs.size a b p1.lt p2.lt),
      ⟨hz, hTI, ⟨_, _, hTO⟩, h1, h2⟩, fresh_all I1 (five_up _), q⟩
/-- a loop over zip of a tuple and a list, as long -/
theorem for_zipX {K : PySem.W.Frag} {a b : Addr} {xs ys : List V} {g : TG} {tb : TS} {D : Ends} {σ : L2.St} {H : Hp} (hl : xs.length = ys.length) (Pv : Nat → L2.St → Hp → Prop) (h0 : Pv 0 σ H)
    (hq : ∀ i σ H, Pv i σ H → SqT K H a xs ∧ SqL K H b ys)
    (hs : ∀ (i : Nat) (x y : V) (T : Addr) (σ : L2.St) (H : Hp), xs[i]? = some x → ys[i]? = some y → Pv i σ H → H T = none →
      g (.ref T) σ (upd H T (.tup [x, y])) fun σ2 H2 => tb { D with nx := Pv (i + 1), ct := Pv (i + 1), bk := D.nx } σ2 H2)
    (hd : ∀ σ H, Pv xs.length σ H → D.nx σ H) :
    ∃ W : Nat → Nat → L2.St → Hp → Prop, (∃ m, W 0 m σ H) ∧ ∀ i m σ H, W i m σ H →
      ((ItzX K a b).stop i H ∧ D.nx σ H) ∨ ((ItzX K a b).go i H ∧ ∃ N : L2.St → Hp → Prop, (∀ σ' H', N σ' H' → ∃ m', m' < m ∧ W (i + 1) m' σ' H') ∧
        ∀ v H', (ItzX K a b).yld i H v H' → g v σ H' fun σ2 H2 => tb { D with nx := N, ct := N, bk := D.nx } σ2 H2) := by
  refine ⟨fun i m σ H => m = xs.length - i ∧ i ≤ xs.length ∧ Pv i σ H,
    ⟨xs.length, rfl, Nat.zero_le _, h0⟩, ?_⟩
  rintro i m σ H ⟨rfl, hi, p⟩
  obtain ⟨qx, qy⟩ := hq i σ H p
  by_cases hlt : i < xs.length
  · have hx : xs[i]? = some xs[i] := List.getElem?_eq_getElem hlt
    have hlt2 : i < ys.length := by omega
    have hy : ys[i]? = some ys[i] := List.getElem?_eq_getElem hlt2
    refine .inr ⟨⟨xs, ys, _, _, qx, qy, hx, hy⟩, Pv (i + 1),
      fun σ' H' p' => ⟨xs.length - (i + 1), by omega, rfl, hlt, p'⟩, fun v H' y => ?_⟩
    obtain ⟨T, x', y', rfl, hT, rfl, f1, f2⟩ := y
    exact hs i x' y' T σ H (f1 xs qx) (f2 ys qy) p hT
  · have e : i = xs.length := by omega
    subst e
    exact .inl ⟨⟨xs, ys, qx, qy, rfl, hl.symm⟩, hd σ H p⟩
end My

set_option maxHeartbeats 2000000
/-! ### xs[a:c] = ys, where c may lie beyond the end -/
namespace L2
open PySem PySem.Spec PyProof.Rows
theorem bounds_cut {a c n : Nat} (ha : a ≤ n) (hac : a ≤ c) : sliceBounds (some (a : Int)) (some (c : Int)) none n = ((a : Int), ((min c n : Nat) : Int), 1) := by
  have n1 : ¬ ((a : Int) < 0) := by omega
  have n2 : ¬ ((c : Int) < 0) := by omega
  have p1 : (1 : Int) > 0 := by decide
  simp only [sliceBounds, Option.getD_none, n1, n2, if_false, p1, if_true]
  refine Prod.ext ?_ (Prod.ext ?_ rfl)
  · show max 0 (min (a : Int) (n : Int)) = a
    omega
  · show max 0 (min (c : Int) (n : Int)) = ((min c n : Nat) : Int)
    omega
section
variable {prog : Program} {w : World} {A : Around} {E : Value → Shared → Prop} {s : Shared}
set_option maxRecDepth 100000 in
theorem setItem_cut {p b k : Addr} {its ws : Array Value} {n m : Nat} {v1 v2 : Value} {a c : Nat} {Q : Unit → Shared → Prop} (ep : s.heap.get? p = some { cls := .type "list", data := .seq its n })
    (eb : s.heap.get? b = some { cls := .type "list", data := .seq ws m }) (hne : p ≠ b) (hk : s.heap.IsSliceOf k v1 v2 .none) (q1 : IsPart v1 (some (a : Int))) (q2 : IsPart v2 (some (c : Int))) (hac : a ≤ c) (ha : a ≤ its.size)
    (sz : its.size + ws.size ≤ sizeLine) (h : Q () { s with heap := s.heap.update p (Obj.mapSeq fun xs => xs.extract 0 a ++ ws ++ xs.extract (min c its.size) xs.size) }) : wpAny (model prog w) A (setItem (.ref p) (.ref k) (.ref b)) Q E s := by
  have lp : s.heap.IsList p its := PySem.IsL.isList ep
  have lb : s.heap.IsList b ws := PySem.IsL.isList eb
  obtain ⟨ok, o1, o2, o3⟩ := id hk
  have tk : s.TypeIs (.ref k) "slice" := ⟨ok, o1, o2⟩
  have z0 : ¬ ((rawPart none == rawInt 0) = true) := fun z => Bool.false_ne_true z
  have other : Builtin.List.listSameRef (.ref p) (.ref b) = false := by unfold Builtin.List.listSameRef; exact beq_eq_false_iff_ne.mpr hne
  have top : (max (a : Int) (((min c its.size : Nat)) : Int)).toNat = min c its.size := by omega
  have few : ((fun xs : Array Value => xs.extract 0 a ++ ws ++ xs.extract (min c its.size) xs.size) its).size ≤ sizeLine + 1 := by simp only [Array.size_append, Array.size_extract]; omega
  unfold setItem
  try with_reducible apply wpAny_holding
  first | apply wpAny_bind (wpAny_pure ?_) | skip
  refine wpAny_bind (wpAny_sequenceKey lp.typeIs (by decide) (wpAny_bind (wpAny_callSpecial?_slot (name := Str.ofString "__setitem__") lp.typeIs slot_list_setitem (wpAny_call_entry slot_list_setitem lp.typeIs entry_list_setitem ?_ (args_list_setitem _ _ _)))))
  show wpAny _ _ (Builtin.List.listSubscript? (.ref k) >>= _) _ _ s
  apply wpAny_bind
  unfold Builtin.List.listSubscript?
  refine wpAny_bind (wpAny_specialOf tk slice_no_index ?_)
  simp only [Option.isNone_none, if_true]
  apply wpAny_pure
  show wpAny _ _ (typeOf (.ref k) >>= _) _ _ s
  refine wpAny_bind (wpAny_typeOf tk ?_)
  first | rw [if_neg (by decide)] | apply PySem.W.KFB.if_not (by decide)
  rw [listSliceParts_eq]
  refine wpAny_bind (wpAny_bind (wpAny_field o1 o3 (x := .none) rfl (wpAny_bind (wpAny_listPart .none ?_))))
  rw [if_neg z0]
  refine wpAny_bind (wpAny_field o1 o3 (x := v1) rfl (wpAny_bind (wpAny_listPart q1 (wpAny_bind (wpAny_field o1 o3 (x := v2) rfl (wpAny_bind (wpAny_listPart q2 (wpAny_pure ?_))))))))
  first | simp only [other, Bool.false_eq_true, if_false] | apply PySem.W.KFB.if_not other | (dsimp only; rw [if_neg (by rw [other]; exact Bool.false_ne_true)])
  apply wpAny_bind (m := Builtin.List.listAllItems (.ref b) "must assign iterable to extended slice")
  unfold Builtin.List.listAllItems
  refine wpAny_bind (wpAny_typeOf lb.typeIs ?_)
  first | apply PySem.W.KFB.if_so (by decide) | rw [if_pos (by decide)] | simp only [beq_self_eq_true, Bool.true_or, if_true]
  unfold Builtin.List.listItems
  refine wpAny_bind (wpAny_seqItems eb rfl (wpAny_pure (wpAny_bind (wpAny_bind (wpAny_seqItems ep rfl (wpAny_pure ?_))))))
  refine wpAny_bind (wpAny_of_eq ((sliceIndices_raw (some (a : Int)) (some (c : Int)) none its.size (by simp)).trans (congrArg (pure : Int × Int × Int → Sem (Int × Int × Int)) (bounds_cut ha hac))) ?_)
  show wpAny _ _ (if ((1 : Int) == 1) = true then _ else _) _ _ s
  rw [if_pos (by decide)]
  apply wpAny_bind (wpAny_rule ?_)
  first | simp only [notLongL sz, Bool.false_eq_true, if_false] | apply PySem.W.KFB.if_not (notLongL sz)
  first | apply wpAny_bind (wpAny_pure ?_) | skip
  show wpAny _ _ (updateSeq p (fun xs => xs.extract 0 ((a : Int)).toNat ++ ws ++ xs.extract (max (a : Int) (((min c its.size : Nat)) : Int)).toNat xs.size) >>= _) _ _ s
  rw [top, Int.toNat_natCast]
  refine wpAny_bind (wpAny_updateSeq (hz := Nat.le_trans (Nat.le_add_right _ _) sz) (_hz' := few) ep rfl (wpAny_bind (wpAny_letGo ?_)))
  first | exact wpAny_bind (wpAny_pure (wpAny_pure ⟨.none, rfl, wpAny_pure h⟩)) | exact wpAny_pure ⟨.none, rfl, wpAny_pure h⟩
end
section
variable {X : Cx} {o : Expr} {lo hi : Option Expr} {to : TE} {tl th : TO} {pos p2 : Pos}
theorem drop_min {α : Type} (xs : List α) (c : Nat) : xs.drop (min c xs.length) = xs.drop c := by
  by_cases h : c ≤ xs.length
  · rw [Nat.min_eq_left h]
  · rw [Nat.min_eq_right (by omega), List.drop_length, List.drop_of_length_le (by omega)]
theorem set_cut {pins : List (Addr × Obj)} {s : Shared} {σ : St} {H : Hp} {l b k : Addr} {xs ys : List V} {a c : Nat} {v1 v2 : Value} {Q : Unit → Shared → Prop} (I : Inv X pins σ H s) (hH : H l = some (.lst xs)) (hB : H b = some (.lst ys)) (hne : l ≠ b)
    (hs : s.heap.IsSliceOf k v1 v2 .none) (r1 : IsPart v1 (some (a : Int))) (r2 : IsPart v2 (some (c : Int))) (ha : a ≤ xs.length) (hac : a ≤ c) (hz : xs.length + ys.length ≤ sizeLine)
    (h : ∀ s', Inv X pins σ (upd H l (.lst (xs.take a ++ ys ++ xs.drop c))) s' → Q () s') : wpAny (model X.prog X.w) X.A (setItem (.ref l) (.ref k) (.ref b)) Q X.xe s := by
  obtain ⟨z, its, n, r, hl, e⟩ := I.lstM hH
  obtain ⟨z2, its2, n2, r2', hl2, e2⟩ := I.lstM hB
  refine setItem_cut e e2 hne hs r1 r2 hac (by rw [List.size_toArray]; omega) (by rw [List.size_toArray, List.size_toArray]; omega) (h _ ?_)
  have dm : its.drop (min c its.length) = its.drop c := drop_min its c
  refine I.lset (its' := its.take a ++ its2 ++ its.drop c) (t' := s.toks) hH e ?_ (Vals.append (Vals.append (r.take _) r2') (r.drop _)) ?_
  · rw [List.size_toArray, ← dm]
    exact splice_eq its its2 a (min c its.length)
  · simp only [List.length_append, List.length_take, List.length_drop]
    omega
def gCut (to : TE) (tl th : TO) : TG := fun v σ H Q => to σ H fun x H1 => tl σ H1 fun l H2 => th σ H2 fun u H3 => ∃ p b xs ys a c, x = .ref p ∧ v = .ref b ∧ l = some ((a : Nat) : Int) ∧ u = some ((c : Nat) : Int) ∧ H3 p = some (.lst xs) ∧ H3 b = some (.lst ys) ∧ p ≠ b ∧
  a ≤ xs.length ∧ a ≤ c ∧ xs.length + ys.length ≤ sizeLine ∧ Q σ (upd H3 p (.lst (xs.take a ++ ys ++ xs.drop c)))
theorem pg_cut (ho : PE X o to) (hl : PO X lo tl) (hh : PO X hi th)
    (ha : ∀ v, assign (.Subscript o (.Slice lo hi none p2) pos) X.env v = (do
      let x ← holding [v] (eval o X.env)
      let k ← holding [v, x] (eval (.Slice lo hi none p2) X.env)
      standAt pos
      holding [v, x, k] (setItem x k v)
      release [k, v, x] []) := by intro _; rfl) : PG X (.Subscript o (.Slice lo hi none p2) pos) (gCut to tl th) := by
  refine ⟨fun pins s σ H v u Q I r h => ?_⟩
  rw [ha]
  refine wpAny_bind (wpAny_holding (thn (ho.run pins s σ H _ I h) fun ov s1 ⟨x, H1, I1, r1, h1⟩ => wpAny_bind (wpAny_holding (wpAny_Slice ?_))))
  refine thn (hl.run pins s1 σ H1 _ I1 h1) fun vl s2 ⟨l, H2, I2, pl, h2⟩ => thn (hh.run pins s2 σ H2 _ I2 h2) fun vu s3 ⟨y, H3, I3, pu, h3⟩ => ?_
  rw [evalPart_none]
  apply wpAny_pure
  have I4 : Inv X pins σ H3 { s3 with heap := s3.heap.push { cls := .type "slice", data := .fields #[vl, vu, .none] } } := I3.kept (t' := s3.toks) fun b' o' q => Heap.get?_push_of_some _ q
  obtain ⟨p, b, xs, ys, a, c, rfl, rfl, rfl, rfl, hp, hb, hne, h4, h5, h6, h7⟩ := h3
  cases (show ov = Value.ref p from r1)
  cases (show u = Value.ref b from r)
  refine wpAny_bind (wpAny_standAt (wpAny_bind (wpAny_holding (set_cut I4 hp hb hne (Heap.IsSliceOf.new ..) pl pu h4 h5 h6 fun s5 I5 => wpAny_release ⟨σ, _, I5, h7⟩))))
end
end L2

namespace My
/-! wirings, as lists of numbers -/
def IsW (r : List Nat) : Prop := r.Perm (List.range r.length) ∧ 1 ≤ r.length ∧ r.length ≤ 6
theorem IsW.lt {r : List Nat} (h : IsW r) {i n : Nat} (e : r[i]? = some n) : n < r.length := by
  have := h.1.mem_iff.mp (List.mem_of_getElem? e)
  exact List.mem_range.mp this
theorem IsW.nodup {r : List Nat} (h : IsW r) : r.Nodup := h.1.nodup_iff.mpr List.nodup_range
/-- the setting led: one number after the other put at its bottom -/
def ledUp (r s : List Nat) (i : Nat) : List Nat :=
  ((r.zip s).take i).foldl (fun b q => b.set q.1 q.2) (List.replicate r.length 0)
def ledTo (r s : List Nat) : List Nat := ledUp r s r.length
theorem foldl_set_len (l : List (Nat × Nat)) : ∀ b : List Nat, (l.foldl (fun b q => b.set q.1 q.2) b).length = b.length := by
  induction l with
  | nil => exact fun b => rfl
  | cons x l ih =>
    intro b
    rw [List.foldl_cons, ih, List.length_set]
theorem ledUp_len (r s : List Nat) (i : Nat) : (ledUp r s i).length = r.length := by
  unfold ledUp
  rw [foldl_set_len, List.length_replicate]
theorem ledTo_len (r s : List Nat) : (ledTo r s).length = r.length := ledUp_len r s _
theorem ledUp_succ {r s : List Nat} {i a b : Nat} (h1 : r[i]? = some a) (h2 : s[i]? = some b) : ledUp r s (i + 1) = (ledUp r s i).set a b := by
  unfold ledUp
  have e : (r.zip s)[i]? = some (a, b) := by
    rw [List.getElem?_zip_eq_some]
    exact ⟨h1, h2⟩
  rw [List.take_add_one, e, List.foldl_append]
  rfl
/-! colours -/
def mxN (l : List Nat) : Nat := l.foldl max 0
def col1 (r found : List Nat) (top : Nat) : List Nat :=
  ((List.range top).filter fun o => decide (r.getD top 0 < r.getD o 0)).map fun o => found.getD o 0 + 1
def colUp (r : List Nat) : Nat → List Nat
  | 0 => []
  | i + 1 => colUp r i ++ [mxN (col1 r (colUp r i) i)]
def coloursOf (r : List Nat) : List Nat := colUp r r.length
theorem colUp_len (r : List Nat) : ∀ i, (colUp r i).length = i
  | 0 => rfl
  | i + 1 => by
    show (colUp r i ++ [_]).length = i + 1
    rw [List.length_append, colUp_len r i]
    rfl
theorem coloursOf_len (r : List Nat) : (coloursOf r).length = r.length := colUp_len r _
end My

namespace My
theorem getD_some {l : List Nat} {i n : Nat} (h : l[i]? = some n) : l.getD i 0 = n := by
  rw [List.getD_eq_getElem?_getD, h]
  rfl
theorem get_getD {l : List Nat} {i : Nat} (h : i < l.length) : l[i]? = some (l.getD i 0) := by
  rw [List.getD_eq_getElem?_getD, List.getElem?_eq_getElem h]
  rfl
/-! what is led -/
theorem ledUp_get {r s : List Nat} (hw : IsW r) (hl : s.length = r.length) : ∀ (k : Nat), k ≤ r.length → ∀ i, i < k → (ledUp r s k)[r.getD i 0]? = some (s.getD i 0)
  | 0, _, i, h => absurd h (Nat.not_lt_zero _)
  | k + 1, hk, i, hi => by
    have hk' : k < r.length := hk
    have e1 := get_getD hk'
    have e2 : s[k]? = some (s.getD k 0) := get_getD (by omega)
    rw [ledUp_succ e1 e2]
    have lk : r.getD k 0 < r.length := hw.lt e1
    by_cases e : i = k
    · subst e
      rw [List.getElem?_set_self (by rw [ledUp_len]; exact lk)]
    · have ih := ledUp_get hw hl k (Nat.le_of_lt hk') i (by omega)
      have ne : r.getD k 0 ≠ r.getD i 0 := by
        intro z
        have hi' : i < r.length := by omega
        have q1 := List.getElem?_eq_getElem hk'
        have q2 := List.getElem?_eq_getElem hi'
        have z1 : r[k] = r[i] := by
          have a1 := getD_some q1
          have a2 := getD_some q2
          rw [a1, a2] at z
          exact z
        have := (List.getElem_inj (h₀ := hk') (h₁ := hi') hw.nodup).mp z1
        omega
      rw [List.getElem?_set_ne ne]
      exact ih
theorem ledTo_get {r s : List Nat} (hw : IsW r) (hl : s.length = r.length) {i : Nat} (hi : i < r.length) : (ledTo r s)[r.getD i 0]? = some (s.getD i 0) :=
  ledUp_get hw hl _ (Nat.le_refl _) i hi
def leads (e t b : List Nat) : Bool := (List.range e.length).all fun i => decide (b.getD (e.getD i 0) 0 = t.getD i 0)
theorem leads_iff {e t b : List Nat} : leads e t b = true ↔ ∀ i, i < e.length → b.getD (e.getD i 0) 0 = t.getD i 0 := by
  unfold leads
  rw [List.all_eq_true]
  constructor
  · intro h i hi
    exact of_decide_eq_true (h i (List.mem_range.mpr hi))
  · intro h i hi
    exact decide_eq_true (h i (List.mem_range.mp hi))
theorem mem_getD {l : List Nat} {x : Nat} (h : x ∈ l) : ∃ i, i < l.length ∧ l.getD i 0 = x := by
  obtain ⟨i, hi, e⟩ := List.getElem_of_mem h
  exact ⟨i, hi, by rw [getD_some (List.getElem?_eq_getElem hi), e]⟩
theorem led_leads {e t b : List Nat} (hw : IsW e) (ht : t.length = e.length) (hb : b.length = e.length) : leads e t b = true ↔ ledTo e t = b := by
  rw [leads_iff]
  constructor
  · intro h
    refine List.ext_getElem? fun j => ?_
    by_cases hj : j < e.length
    · have hm : j ∈ e := hw.1.mem_iff.mpr (List.mem_range.mpr hj)
      obtain ⟨i, hi, q⟩ := mem_getD hm
      have g := ledTo_get hw ht hi
      rw [q] at g
      rw [g, get_getD (by omega), ← h i hi, q]
    · rw [List.getElem?_eq_none (by rw [ledTo_len]; omega), List.getElem?_eq_none (by omega)]
  · intro h i hi
    have g := ledTo_get hw ht hi
    rw [h] at g
    exact getD_some g
/-! all wirings -/
def nexts (n : Nat) (r : List Nat) : List (List Nat) := ((List.range n).filter fun b => !r.contains b).map fun b => r ++ [b]
def allUp (n : Nat) : Nat → List (List Nat)
  | 0 => [[]]
  | k + 1 => (allUp n k).flatMap (nexts n)
def allW (n : Nat) : List (List Nat) := allUp n n
theorem mem_nexts {n : Nat} {r e : List Nat} : e ∈ nexts n r ↔ ∃ x, x < n ∧ x ∉ r ∧ e = r ++ [x] := by
  unfold nexts
  rw [List.mem_map]
  constructor
  · rintro ⟨x, hx, rfl⟩
    rw [List.mem_filter, List.mem_range] at hx
    refine ⟨x, hx.1, fun z => ?_, rfl⟩
    have := hx.2
    simp [z] at this
  · rintro ⟨x, h1, h2, rfl⟩
    refine ⟨x, List.mem_filter.mpr ⟨List.mem_range.mpr h1, ?_⟩, rfl⟩
    simp [h2]
theorem mem_allUp {n : Nat} : ∀ {k : Nat} {e : List Nat}, e ∈ allUp n k ↔ e.length = k ∧ e.Nodup ∧ ∀ x ∈ e, x < n
  | 0, e => by
    show e ∈ [[]] ↔ _
    rw [List.mem_singleton]
    constructor
    · rintro rfl
      exact ⟨rfl, List.nodup_nil, fun x h => nomatch h⟩
    · rintro ⟨h, _⟩
      exact List.eq_nil_of_length_eq_zero h
  | k + 1, e => by
    show e ∈ (allUp n k).flatMap (nexts n) ↔ _
    rw [List.mem_flatMap]
    constructor
    · rintro ⟨r, hr, he⟩
      obtain ⟨h1, h2, h3⟩ := mem_allUp.mp hr
      obtain ⟨x, x1, x2, rfl⟩ := mem_nexts.mp he
      refine ⟨by rw [List.length_append, h1]; rfl, ?_, ?_⟩
      · rw [List.nodup_append]
        refine ⟨h2, by simp, fun a ha b hb => ?_⟩
        rw [List.mem_singleton.mp hb]
        rintro rfl
        exact x2 ha
      · intro y hy
        rcases List.mem_append.mp hy with hy | hy
        · exact h3 y hy
        · rw [List.mem_singleton.mp hy]
          exact x1
    · rintro ⟨h1, h2, h3⟩
      have ne : e ≠ [] := by
        intro z
        rw [z] at h1
        cases h1
      have e1 : e.dropLast ++ [e.getLast ne] = e := List.dropLast_concat_getLast ne
      rw [← e1, List.nodup_append] at h2
      refine ⟨e.dropLast, mem_allUp.mpr ⟨by rw [List.length_dropLast, h1]; rfl, h2.1, fun x hx => h3 x (List.dropLast_subset _ hx)⟩, ?_⟩
      refine mem_nexts.mpr ⟨e.getLast ne, h3 _ (List.getLast_mem ne), fun z => ?_, e1.symm⟩
      exact h2.2.2 _ z _ (List.mem_singleton.mpr rfl) rfl
theorem all_isPerm : ∀ n, n < 7 → ((allW n).all fun e => e.isPerm (List.range n)) = true := by decide +kernel
theorem allW_sub {n : Nat} (h6 : n ≤ 6) {e : List Nat} (h : e ∈ allW n) : e.Perm (List.range n) := by
  have := all_isPerm n (by omega)
  rw [List.all_eq_true] at this
  exact List.isPerm_iff.mp (this e h)
theorem mem_allW {n : Nat} (h1 : 1 ≤ n) (h6 : n ≤ 6) {e : List Nat} : e ∈ allW n ↔ IsW e ∧ e.length = n := by
  constructor
  · intro h
    have p := allW_sub h6 h
    have l : e.length = n := (mem_allUp.mp h).1
    exact ⟨⟨by rw [l]; exact p, by omega, by omega⟩, l⟩
  · rintro ⟨hw, l⟩
    refine mem_allUp.mpr ⟨l, hw.nodup, fun x hx => ?_⟩
    obtain ⟨i, hi, q⟩ := mem_getD hx
    rw [← q, ← l]
    exact hw.lt (get_getD hi)
theorem up_small : ∀ n, n < 7 → ∀ k, k < 7 → (allUp n k).length ≤ 720 := by decide +kernel
/-! in how many orders -/
def F : List Nat → Nat
  | [] => 1
  | x :: t => (1 + t.count x) * F t
theorem F_perm {s t : List Nat} (h : s.Perm t) : F s = F t := by
  induction h with
  | nil => rfl
  | cons x p ih =>
    show (1 + _) * F _ = (1 + _) * F _
    rw [ih, p.count_eq]
  | swap x y l =>
    show (1 + (x :: l).count y) * ((1 + l.count x) * F l) = (1 + (y :: l).count x) * ((1 + l.count y) * F l)
    rw [List.count_cons, List.count_cons]
    by_cases e : x = y
    · subst e
      rfl
    · have e1 : (x == y) = false := by simp [e]
      have e2 : (y == x) = false := by simp [Ne.symm e]
      rw [e1, e2]
      simp only [Bool.false_eq_true, if_false, Nat.add_zero]
      rw [← Nat.mul_assoc, ← Nat.mul_assoc, Nat.mul_comm (1 + l.count y)]
  | trans _ _ a b => exact a.trans b
def ordUp (s : List Nat) : Nat → Nat
  | 0 => 1
  | i + 1 => ordUp s i * (1 + ((s.take i).filter fun x => decide (x = s.getD i 0)).length)
def orders (s : List Nat) : Nat := ordUp s s.length
theorem filter_count (l : List Nat) (v : Nat) : (l.filter fun x => decide (x = v)).length = l.count v := by
  rw [List.count_eq_countP, List.countP_eq_length_filter]
  congr 1
theorem ordUp_F (s : List Nat) : ∀ i, i ≤ s.length → ordUp s i = F (s.take i).reverse
  | 0, _ => rfl
  | i + 1, h => by
    have h' : i < s.length := h
    rw [List.take_add_one, get_getD h']
    show ordUp s i * _ = F (s.take i ++ [s.getD i 0]).reverse
    rw [List.reverse_append, ordUp_F s i (Nat.le_of_lt h'), filter_count]
    show _ = (1 + (s.take i).reverse.count (s.getD i 0)) * F (s.take i).reverse
    rw [List.count_reverse, Nat.mul_comm]
theorem orders_F (s : List Nat) : orders s = F s := by
  unfold orders
  rw [ordUp_F s _ (Nat.le_refl _), List.take_length]
  exact F_perm (List.reverse_perm s)
/-! how many lead -/
def leadsUp (t b e : List Nat) (k : Nat) : Bool := (List.range k).all fun i => decide (b.getD (e.getD i 0) 0 = t.getD i 0)
theorem leadsUp_snoc {t b r : List Nat} {x k : Nat} (h : r.length = k) : leadsUp t b (r ++ [x]) (k + 1) = (leadsUp t b r k && decide (b.getD x 0 = t.getD k 0)) := by
  unfold leadsUp
  rw [List.range_succ, List.all_append]
  congr 1
  · rw [Bool.eq_iff_iff, List.all_eq_true, List.all_eq_true]
    have q : ∀ i, i < k → (r ++ [x]).getD i 0 = r.getD i 0 := fun i hi => by
      rw [List.getD_eq_getElem?_getD, List.getElem?_append_left (by omega), ← List.getD_eq_getElem?_getD]
    constructor
    · intro a i hi
      have := a i hi
      rw [q i (List.mem_range.mp hi)] at this
      exact this
    · intro a i hi
      rw [q i (List.mem_range.mp hi)]
      exact a i hi
  · have q : (r ++ [x]).getD k 0 = x := by
      rw [List.getD_eq_getElem?_getD, List.getElem?_append_right (by omega), h, Nat.sub_self]
      rfl
    rw [List.all_cons, List.all_nil, Bool.and_true, q]
theorem nodup_filter {p : Nat → Bool} {l : List Nat} (h : l.Nodup) : (l.filter p).Nodup := List.Pairwise.filter p h
theorem range_map_getD (b : List Nat) : (List.range b.length).map (fun i => b.getD i 0) = b := by
  refine List.ext_getElem? fun j => ?_
  rw [List.getElem?_map]
  by_cases h : j < b.length
  · rw [List.getElem?_range h, get_getD h]
    rfl
  · rw [List.getElem?_eq_none (by rw [List.length_range]; omega), List.getElem?_eq_none (by omega)]
    rfl
theorem map_of_leads {t b r : List Nat} {k : Nat} (hr : r.length = k) (hk : k ≤ t.length) (h : leadsUp t b r k = true) : r.map (fun x => b.getD x 0) = t.take k := by
  unfold leadsUp at h
  rw [List.all_eq_true] at h
  refine List.ext_getElem? fun j => ?_
  rw [List.getElem?_map]
  by_cases hj : j < k
  · have q := of_decide_eq_true (h j (List.mem_range.mpr hj))
    rw [get_getD (by omega : j < r.length), List.getElem?_take_of_lt hj, get_getD (by omega : j < t.length)]
    show some (b.getD (r.getD j 0) 0) = some (t.getD j 0)
    rw [q]
  · rw [List.getElem?_eq_none (by omega), List.getElem?_eq_none (by rw [List.length_take]; omega)]
    rfl
theorem ways {n k : Nat} {t b r : List Nat} (hn : b.length = n) (ht : t.length = n) (hp : t.Perm b) (hr : r ∈ allUp n k) (hk : k < n) (h : leadsUp t b r k = true) :
    ((nexts n r).filter fun e => leadsUp t b e (k + 1)).length = 1 + (t.drop (k + 1)).count (t.getD k 0) := by
  obtain ⟨l1, nd, lt⟩ := mem_allUp.mp hr
  have step : ((nexts n r).filter fun e => leadsUp t b e (k + 1)) = (((List.range n).filter fun x => decide (b.getD x 0 = t.getD k 0)).filter fun x => !r.contains x).map fun x => r ++ [x] := by
    unfold nexts
    rw [List.filter_map, List.filter_filter, List.filter_filter]
    congr 1
    refine List.filter_congr fun x _ => ?_
    show (leadsUp t b (r ++ [x]) (k + 1) && _) = _
    rw [leadsUp_snoc l1, h, Bool.true_and, Bool.and_comm]
  rw [step, List.length_map]
  -- all with this number, less those that are taken
  have c1 : ((List.range n).filter fun x => decide (b.getD x 0 = t.getD k 0)).length = t.count (t.getD k 0) := by
    rw [hp.count_eq]
    conv => rhs; rw [← range_map_getD b]
    rw [hn, List.count_eq_countP, List.countP_map, List.countP_eq_length_filter]
    congr 1
  have c2 : (((List.range n).filter fun x => decide (b.getD x 0 = t.getD k 0)).filter fun x => r.contains x).length = (t.take k).count (t.getD k 0) := by
    rw [← map_of_leads l1 (by omega) h, List.count_eq_countP, List.countP_map, List.countP_eq_length_filter]
    refine List.Perm.length_eq ?_
    rw [List.perm_ext_iff_of_nodup (nodup_filter (nodup_filter List.nodup_range)) (nodup_filter nd)]
    intro x
    rw [List.mem_filter, List.mem_filter, List.mem_filter, List.mem_range]
    constructor
    · rintro ⟨⟨_, q⟩, q2⟩
      refine ⟨by simpa using q2, ?_⟩
      show (b.getD x 0 == t.getD k 0) = true
      exact beq_iff_eq.mpr (of_decide_eq_true q)
    · rintro ⟨q1, q2⟩
      refine ⟨⟨lt x q1, decide_eq_true ?_⟩, by simpa using q1⟩
      simpa using q2
  have c3 := List.length_eq_countP_add_countP (fun x => r.contains x) (l := (List.range n).filter fun x => decide (b.getD x 0 = t.getD k 0))
  rw [List.countP_eq_length_filter, List.countP_eq_length_filter, c1, c2] at c3
  have c4 : t.count (t.getD k 0) = (t.take k).count (t.getD k 0) + (1 + (t.drop (k + 1)).count (t.getD k 0)) := by
    have q : t[k]'(by omega) = t.getD k 0 := (getD_some (List.getElem?_eq_getElem (by omega : k < t.length))).symm
    have z := congrArg (List.count (t.getD k 0)) (List.take_append_drop k t)
    rw [List.count_append, List.drop_eq_getElem_cons (by omega : k < t.length), List.count_cons, q, beq_self_eq_true, if_pos rfl] at z
    omega
  have c5 : (((List.range n).filter fun x => decide (b.getD x 0 = t.getD k 0)).filter fun x => !r.contains x).length =
      (((List.range n).filter fun x => decide (b.getD x 0 = t.getD k 0)).filter fun a => decide (¬ r.contains a = true)).length := by
    congr 1
    refine List.filter_congr fun x _ => ?_
    cases r.contains x <;> rfl
  rw [c5]
  omega
theorem sum_const {α : Type} {f : α → Nat} {c : Nat} : ∀ l : List α, (∀ x ∈ l, f x = c) → (l.map f).sum = l.length * c
  | [], _ => by simp
  | x :: l, h => by
    rw [List.map_cons, List.sum_cons, sum_const l (fun y hy => h y (List.mem_cons_of_mem _ hy)), h x List.mem_cons_self, List.length_cons, Nat.succ_mul, Nat.add_comm]
theorem leaders_rows {n k : Nat} {t b : List Nat} :
    ((allUp n (k + 1)).filter fun e => leadsUp t b e (k + 1)) = ((allUp n k).filter fun e => leadsUp t b e k).flatMap (fun a => (nexts n a).filter fun e => leadsUp t b e (k + 1)) := by
  show (((allUp n k).flatMap (nexts n)).filter fun e => leadsUp t b e (k + 1)) = _
  rw [List.filter_flatMap]
  have gen : ∀ l : List (List Nat), (∀ r ∈ l, r ∈ allUp n k) → l.flatMap (fun a => (nexts n a).filter fun e => leadsUp t b e (k + 1)) =
      (l.filter fun e => leadsUp t b e k).flatMap (fun a => (nexts n a).filter fun e => leadsUp t b e (k + 1)) := by
    intro l
    induction l with
    | nil => exact fun _ => rfl
    | cons r l ih =>
      intro hl
      have il := ih fun x hx => hl x (List.mem_cons_of_mem _ hx)
      rw [List.flatMap_cons, il]
      cases q : leadsUp t b r k with
      | true => rw [List.filter_cons_of_pos (p := fun e => leadsUp t b e k) q, List.flatMap_cons]
      | false =>
        rw [List.filter_cons_of_neg (p := fun e => leadsUp t b e k) (by rw [q]; exact Bool.false_ne_true)]
        have nil : ((nexts n r).filter fun e => leadsUp t b e (k + 1)) = [] := by
          rw [List.filter_eq_nil_iff]
          intro e he
          obtain ⟨x, _, _, rfl⟩ := mem_nexts.mp he
          have l1 := (mem_allUp.mp (hl r List.mem_cons_self)).1
          rw [leadsUp_snoc l1, q, Bool.false_and]
          exact Bool.false_ne_true
        rw [nil, List.nil_append]
  exact gen _ fun r h => h
theorem leaders_step {n k : Nat} {t b : List Nat} (hn : b.length = n) (ht : t.length = n) (hp : t.Perm b) (hk : k < n) :
    ((allUp n (k + 1)).filter fun e => leadsUp t b e (k + 1)).length = ((allUp n k).filter fun e => leadsUp t b e k).length * (1 + (t.drop (k + 1)).count (t.getD k 0)) := by
  rw [leaders_rows, List.length_flatMap]
  refine sum_const _ fun r hr => ?_
  rw [List.mem_filter] at hr
  exact ways hn ht hp hr.1 hk hr.2
/-- those that lead, found straight on -/
def lup (n : Nat) (t b : List Nat) : Nat → List (List Nat)
  | 0 => [[]]
  | k + 1 => (lup n t b k).flatMap fun a => (nexts n a).filter fun e => leadsUp t b e (k + 1)
theorem lup_eq (n : Nat) (t b : List Nat) : ∀ k, ((allUp n k).filter fun e => leadsUp t b e k) = lup n t b k
  | 0 => rfl
  | k + 1 => by
    rw [leaders_rows, lup_eq n t b k]
    rfl
theorem leaders_many {n : Nat} {t b : List Nat} (hn : b.length = n) (ht : t.length = n) (hp : t.Perm b) :
    ∀ k, k ≤ n → ((allUp n k).filter fun e => leadsUp t b e k).length * F (t.drop k) = F t
  | 0, _ => by
    show _ * F (t.drop 0) = F t
    rw [List.drop_zero]
    show 1 * F t = F t
    exact Nat.one_mul _
  | k + 1, h => by
    have ih := leaders_many hn ht hp k (by omega)
    rw [leaders_step hn ht hp (by omega), ← ih, Nat.mul_assoc]
    congr 1
    rw [List.drop_eq_getElem_cons (by omega : k < t.length)]
    have q : t[k]'(by omega) = t.getD k 0 := (getD_some (List.getElem?_eq_getElem (by omega : k < t.length))).symm
    rw [q]
    rfl
theorem led_perm {r t : List Nat} (hw : IsW r) (ht : t.length = r.length) : t.Perm (ledTo r t) := by
  have e1 : r.map (fun x => (ledTo r t).getD x 0) = t := by
    refine List.ext_getElem? fun j => ?_
    rw [List.getElem?_map]
    by_cases hj : j < r.length
    · rw [get_getD hj, get_getD (by omega : j < t.length)]
      show some ((ledTo r t).getD (r.getD j 0) 0) = some (t.getD j 0)
      rw [getD_some (ledTo_get hw ht hj)]
    · rw [List.getElem?_eq_none (by omega), List.getElem?_eq_none (by omega)]
      rfl
  have e2 := hw.1.map (fun x => (ledTo r t).getD x 0)
  rw [e1] at e2
  have e3 := range_map_getD (ledTo r t)
  rw [ledTo_len] at e3
  rw [e3] at e2
  exact e2
def leaders (n : Nat) (t b : List Nat) : List (List Nat) := (allW n).filter fun e => leads e t b
theorem leaders_up (n : Nat) (t b : List Nat) : leaders n t b = (allUp n n).filter fun e => leadsUp t b e n := by
  unfold leaders allW
  refine List.filter_congr fun e he => ?_
  unfold leads leadsUp
  rw [(mem_allUp.mp he).1]
theorem leaders_lup (n : Nat) (t b : List Nat) : leaders n t b = lup n t b n := (leaders_up n t b).trans (lup_eq n t b n)
theorem leaders_orders {r t : List Nat} (hw : IsW r) (ht : t.length = r.length) : (leaders r.length t (ledTo r t)).length = orders t := by
  have h := leaders_many (n := r.length) (t := t) (b := ledTo r t) (ledTo_len r t) ht (led_perm hw ht) r.length (Nat.le_refl _)
  rw [List.drop_of_length_le (by omega)] at h
  rw [orders_F, ← h]
  show _ = _ * 1
  rw [Nat.mul_one]
  congr 1
  exact leaders_up _ _ _
theorem in_leaders {r t : List Nat} (hw : IsW r) (ht : t.length = r.length) : r ∈ leaders r.length t (ledTo r t) :=
  List.mem_filter.mpr ⟨(mem_allW hw.2.1 hw.2.2).mpr ⟨hw, rfl⟩, (led_leads hw ht (ledTo_len r t)).mpr rfl⟩
/-! the earliest -/
theorem first_all : ∀ n, n < 7 → ((allW n).all fun r => decide ((lup n (coloursOf r) (ledTo r (coloursOf r)) n).head? = some r)) = true := by decide +kernel
theorem first_leads {r : List Nat} (hw : IsW r) : (leaders r.length (coloursOf r) (ledTo r (coloursOf r))).head? = some r := by
  rw [leaders_lup]
  have h := first_all r.length (by have := hw.2.2; omega)
  rw [List.all_eq_true] at h
  exact of_decide_eq_true (h r ((mem_allW hw.2.1 hw.2.2).mpr ⟨hw, rfl⟩))
end My

namespace My
open PySem PySem.Spec PyProof.Rows L2
/-! tuples that were made by tuple(..): nothing but a tuple -/
def TupN (H : Hp) (a : Addr) (xs : List V) : Prop := ∃ o : Obj, o.dict = none ∧ H a = some (.frz o (.tup xs))
/-- a tuple that is tracked -/
def TupAt (H : Hp) (a : Addr) (xs : List V) : Prop := H a = some (.tup xs) ∨ TupN H a xs
theorem TupN.mono {H H' : Hp} {a : Addr} {xs : List V} (s : Same H H') (h : TupN H a xs) : TupN H' a xs := by
  obtain ⟨o, d, e⟩ := h
  exact ⟨o, d, s _ _ e⟩
theorem TupAt.mono {H H' : Hp} {a : Addr} {xs : List V} (s : Same H H') (h : TupAt H a xs) : TupAt H' a xs := h.imp (s _ _) (TupN.mono s)
theorem seqT {K : PySem.W.Frag} {H : Hp} {a : Addr} {xs : List V} (h : TupAt H a xs) : SqT K H a xs := by
  rcases h with h | ⟨o, _, h⟩
  · exact .inl (.inl h)
  · exact .inl (.inr ⟨o, h⟩)
theorem seqL {K : PySem.W.Frag} {H : Hp} {a : Addr} {xs : List V} (h : H a = some (.lst xs)) : SqL K H a xs := .inl (.inl h)
section
variable {X : Cx}
/-- tuple(xs): of a list a new one -/
theorem call_tupleN : CallR X (.type "tuple") (fun xs H Q => ∃ p ys, xs = [.ref p] ∧
    ((SqL X.K H p ys ∧ ∀ l o, H l = none → o.dict = none → Q (.ref l) (upd H l (.frz o (.tup ys)))) ∨ (SqT X.K H p ys ∧ Q (.ref p) H))) := by
  intro pins s σ H xs us Q I r h
  obtain ⟨p, ys, rfl, h⟩ := h
  obtain ⟨u, rfl, rx⟩ := vals1 r
  cases rx
  rcases h with ⟨hq, q⟩ | ⟨hq, q⟩
  · obtain ⟨its, r', pl, hz⟩ := I.list hq
    have hlen := r'.length
    refine call_tuple_list pl.isList (fun h' kp => ?_)
      (by simp only [List.size_toArray] <;> omega)
    have I1 : Inv X pins σ H { s with heap := h' } := I.kept (t' := s.toks) kp
    have I2 : Inv X pins σ (upd H h'.objs.size (.frz { cls := .type "tuple", data := .seq its.toArray } (.tup ys)))
        { s with heap := h'.push { cls := .type "tuple", data := .seq its.toArray } } :=
      I1.laid (t' := s.toks) (fun b o e => Heap.get?_push_of_some _ e) (Nat.le_refl _)
        (show ObjOk X.prog X.w _ _ _ (.frz _ (.tup ys)) from
          ⟨Heap.get?_push_size _ rfl, hz, its, r', IsTup.new _ _⟩)
    exact ⟨.ref h'.objs.size, _, I2, rfl,
      q _ _ (I1.hok.fresh (Nat.le_refl _)) rfl⟩
  · obtain ⟨its, r', pl, hz⟩ := I.tuple hq
    exact call_tuple_same pl ⟨.ref p, H, I, rfl, q⟩
/-! max of a tuple of ints -/
def rMaxTup (K : PySem.W.Frag) : List V → Hp → VK → Prop := fun vs H Q => ∃ (a : Addr) (n : Int) (ns : List Int), vs = [V.ref a] ∧ SqT K H a ((n :: ns).map V.int) ∧ Q (.int (ns.foldl max n)) H
theorem cr_maxTup (hc : X.calm = true) (hu : X.A.units + 64 < cLine) : CallR X (.builtin "max") (rMaxTup X.K) := by
  intro pins s σ H vs us Q I r h
  obtain ⟨a, n, ns, rfl, hs, q⟩ := h
  have e1 := Vals.ref1 r
  subst e1
  obtain ⟨its, rv, hl, _⟩ := I.tuple hs
  have hi := rv.ints
  have hr : ReadsAll s.heap its.toArray.toList ((n :: ns).map PyData.int) [] := by
    have := hi.reads s.heap
    simpa using this
  refine PySem.W.max_tuple_data (I.ok.hd hc) (show s.heap.IsTuple a its.toArray from hl) hr (alikes (n :: ns))
    (by have := depth_ints (n :: ns); rw [List.map_cons] at this; omega) fun i v h' tk bs hv rd k => ?_
  rw [PySem.W.maxD_ints] at rd
  cases rd with
  | int _ t => exact ⟨.int _, H, I.kept k, ⟨_, rfl⟩, q⟩
/-! repr of a truth -/
theorem call_repr_bl : CallR X (.builtin "repr") (fun xs H Q => ∃ b, xs = [.bl b] ∧ Q (.str (if b then "True" else "False")) H) := by
  intro pins s σ H xs us Q I r h
  obtain ⟨b, rfl, q⟩ := h
  obtain ⟨u, rfl, rx⟩ := vals1 r
  cases (show u = Value.bool b from rx)
  exact PySem.P.repr_of_bool ⟨.str _, H, I.tok _, ⟨_, rfl⟩, q⟩
/-! t > u of tuples of ints -/
def rGtT (K : PySem.W.Frag) : R2 := fun x y H Q => ∃ (a b : Addr) (ns ms : List Int), x = .ref a ∧ y = .ref b ∧ SqT K H a (ns.map V.int) ∧ SqT K H b (ms.map V.int) ∧
  Q (.bl (Ob.lexAt (fun j => decide (ns.getD j 0 = ms.getD j 0)) (fun j => decide (ms.getD j 0 < ns.getD j 0)) (decide (ns.length > ms.length)) 0 (min ns.length ms.length))) H
theorem op_gtT (hu : X.A.units < cLine) : OpR X (compareOp .Gt) (rGtT X.K) := by
  intro pins s σ H x y v u Q I rx ry h
  obtain ⟨a, b, ns, ms, rfl, rfl, ha, hb, q⟩ := h
  cases rx
  cases ry
  obtain ⟨its, r1, p1, _⟩ := I.tuple ha
  obtain ⟨its2, r2, p2, _⟩ := I.tuple hb
  have i1 : IntsAre its ns := Vals.ints r1
  have i2 : IntsAre its2 ms := Vals.ints r2
  have z1 : its.toArray.size = ns.length := by
    rw [List.size_toArray]
    exact i1.length
  have z2 : its2.toArray.size = ms.length := by
    rw [List.size_toArray]
    exact i2.length
  have at1 : ∀ j (h1 : j < its.toArray.size), ∃ t, its.toArray[j] = .int (ns.getD j 0) t :=
    fun j h1 => PyProof.Rows.IntsAre.int_at i1 _ _ (by simp at h1; simp [h1])
  have at2 : ∀ j (h1 : j < its2.toArray.size), ∃ t, its2.toArray[j] = .int (ms.getD j 0) t :=
    fun j h1 => PyProof.Rows.IntsAre.int_at i2 _ _ (by simp at h1; simp [h1])
  have R := Ob.RcOp.tuples_gt (A := X.A) (s := s) (e := fun j => decide (ns.getD j 0 = ms.getD j 0))
    (r := fun j => decide (ms.getD j 0 < ns.getD j 0)) p1 p2 hu (fun j h1 h2 => by
      obtain ⟨t, et⟩ := at1 j h1
      obtain ⟨t', et'⟩ := at2 j h2
      have z : (ns.getD j 0 == ms.getD j 0) = decide (ns.getD j 0 = ms.getD j 0) := by
        rw [Bool.eq_iff_iff, beq_iff_eq, decide_eq_true_eq]
      rw [et, et', ← z]
      exact SeqAt.EqAt.int_int _ _ _ _) (fun j h1 h2 _ => by
      obtain ⟨t, et⟩ := at1 j h1
      obtain ⟨t', et'⟩ := at2 j h2
      rw [et, et']
      exact Ob.RcOp.gt_int _ _ _ _)
  rw [z1, z2] at R
  exact R X.prog X.w X.xe (EP X pins σ Q) ⟨.bl _, H, I, rfl, q⟩
/-! t.index(k), t a tuple of ints -/
variable {o e : Expr} {es : List Expr} {apos cpos : Pos} {to : TE} {t : TA}
def tTIdx (to : TE) (t : TA) : TE := fun σ H Q => to σ H fun x H1 => ∃ (a : Addr) (ns : List Int), x = .ref a ∧ TupN H1 a (ns.map V.int) ∧
  t σ H1 fun vs H2 => ∃ k : Int, vs = [.int k] ∧ TupN H2 a (ns.map V.int) ∧ k ∈ ns ∧ Q (.int ((ns.idxOf k : Nat) : Int)) H2
theorem pe_tidx (ho : PE X o to) (ha : PA X (e :: es) t)
    (hbase : attributeBase o "index" X.env (eval o X.env) = eval o X.env := by rfl)
    (hfew : ((backTo cpos (starEach (e :: es) X.env)).all (fun x => !x.1) && (backToKw cpos (keywordEach [] X.env)).all (fun x => x.1.isSome)
      && decide ((e :: es).length + ([] : List Keyword).length + (if ([] : List Keyword).isEmpty then 0 else 1) < 30)) = true := by rfl)
    (hline : (apos.endLine == cpos.line) = true := by rfl)
    (hs : starEach (e :: es) X.env = (false, eval e X.env) :: starEach es X.env := by rfl)
    (hplain : (backTo cpos (starEach es X.env)).any (·.1) = false := by rfl) :
    PE X (.Call (.Attribute o "index" apos) (e :: es) [] cpos) (tTIdx to t) := by
  refine ⟨fun pins s σ H Q I h => ?_⟩
  refine wpAny_Call_method_late hbase hfew hline rfl
    (thn (ho.run pins s σ H _ I h) fun v s1 ⟨x, H1, I1, r1, q1⟩ => ?_)
  obtain ⟨a, ns, rfl, ⟨ob, hd, hH⟩, q1⟩ := q1
  cases r1
  obtain ⟨g1, _, its, rv, o', g2, g3, _⟩ :=
    (show ObjOk X.prog X.w H1 s1.heap a (.frz ob (.tup (ns.map V.int))) from I1.hok a _ hH)
  have eo : o' = ob := by
    rw [g1] at g2
    exact (Option.some.inj g2).symm
  subst eo
  refine ⟨"tuple", "tuple.index", PySem.F.plainAttrs_tuple, PySem.F.slot_tuple_index, PySem.F.type_tuple_index,
    ⟨_, g1, g3⟩, fun b eb => ?_, ?_⟩
  · cases eb
    exact ⟨_, g1, hd⟩
  have hA := ha.run cpos pins s1 σ H1 _ I1 q1
  rw [hs] at hA ⊢
  refine Calls.callWith_builtin (by
    show (false || (backTo cpos (starEach es X.env)).any (·.1)) = false
    rw [hplain]
    rfl) (Calls.evalArgs_plain ?_)
  refine thn hA fun us s2 ⟨vs, H2, I2, r2, k, ev, hN, hk, q2⟩ => ?_
  subst ev
  obtain ⟨u, rfl, ru⟩ := vals1 r2
  obtain ⟨tk, rfl⟩ := ru
  obtain ⟨its2, rv2, p2, _⟩ := I2.tuple (seqT (.inr hN))
  exact PySem.SeqAt.tuple_index_ints (show s2.heap.IsTuple a its2.toArray from p2) rv2.ints hk
    ⟨.int _, H2, I2.tok _, ⟨_, rfl⟩, q2⟩
end
end My

namespace My
open PySem PySem.Spec PyProof.Rows L2
theorem PI.or {X : Cx} {tg it : Expr} {u v : TI} (a : PI X tg it u) (b : PI X tg it v) : PI X tg it (fun σ H R => u σ H R ∨ v σ H R) :=
  ⟨fun pins s σ H R I h => h.elim (a.run pins s σ H R I) (b.run pins s σ H R I)⟩
theorem pi_seq {X : Cx} {tg l : Expr} {tl : TE} (hl : PE X l tl) : PI X tg l (fun σ H R => iList X.K tl σ H R ∨ iTup X.K tl σ H R) :=
  PI.or (pi_list hl) (pi_tup hl)
theorem pi_enumS {X : Cx} {e : Expr} {ta : TA} {p pos tpos : Pos} {elts : List Expr} {kk : Nat} (hg : Gl X "enumerate") (hm : X.mg "enumerate" = none)
    (ha : PA X [e] ta) (hs : starEach [e] X.env = [(false, eval e X.env)] := by rfl) :
    PI X (.Tuple elts kk tpos) (.Call (.Name "enumerate" p) [e] [] pos) (fun σ H R => iEnum X.K ta σ H R ∨ iEnumT X.K ta σ H R) :=
  PI.or (pi_enum hg hm ha hs) (pi_enumT hg hm ha hs)
theorem units1 {k : Nat} {A : Around} (r : Room k A) : A.units + 65 < cLine := by
  have := r.un
  omega
section
variable {X : Cx} {CX : CXT} {k : Nat} {f : Addr} {fd : FuncData} {ps ks : List Str} {sp : Sp} {E : XK} {x : Str} {p pos : Pos} {kws : List Keyword} {tk : TA}
  {g : List Value → List Value → List Value} {gV : List V → List V → List V}
/-- f(k = v, ..): keywords alone -/
theorem pe_callK0 (F : FnOk X.prog X.w X.K X.mg X.base CX k f fd ps sp) (hr : Room k X.A) (hg : Gl X x) (hm : X.mg x = some (.ref f)) (hk : PySem.W.keepIn X.K (.ref f) = true)
    (hb : KBinds X.K fd ps ks g gV) (hx : Passes CX X E) (hkw : PK X kws tk)
    (hall : (backToKw pos (keywordEach kws X.env)).all (·.1.isSome) = true := by rfl)
    (hks : (backToKw pos (keywordEach kws X.env)).filterMap (·.1) = ks := by rfl)
    (hdb : (x == ("__debug__" : Str)) = false := by decide)
    (hpl : ((backTo pos (starEach [] X.env)).any (·.1) || (backToKw pos (keywordEach kws X.env)).any (·.1.isNone)) = false := by rfl) :
    PE X (.Call (.Name x p) [] kws pos) (tCallK sp gV E tNil tk) := by
  refine ⟨fun pins s σ H Q I h => ?_⟩
  refine wpAny_Call_Name_kw (ld_glob I hg hm ?_ hdb)
  refine PySem.W.callWith_KW0 (h₀ := X.base) I.ok.mod.kin hk hall ?_ hpl
  refine thn (hkw.run pos pins s σ H _ I h) fun ws s2 ⟨zs, H2, I2, rz, q2⟩ =>
    ⟨I2.kIn, ?_⟩
  rw [hks]
  exact run_fnk (us := []) (vs := []) F hr hb hx I2 .nil rz q2
end
/-! data -/
def zz (r : List Nat) : List Int := r.map (fun n : Nat => (n : Int))
abbrev vN (r : List Nat) : List V := (zz r).map V.int
/-- a list or a tuple, tracked -/
def SqV (H : Hp) (a : Addr) (xs : List V) : Prop := H a = some (.lst xs) ∨ TupAt H a xs
theorem SqV.mono {H H' : Hp} {a : Addr} {xs : List V} (s : Same H H') (h : SqV H a xs) : SqV H' a xs := h.imp (s _ _) (TupAt.mono s)
theorem same_new {H : Hp} {p : Addr} {o : HO} (h : H p = none) : Same H (upd H p o) := fun b x e => by
  rw [upd_ne (ne_of_none e h)]
  exact e
theorem SqV.or {K : PySem.W.Frag} {H : Hp} {a : Addr} {xs : List V} (h : SqV H a xs) : SqL K H a xs ∨ SqT K H a xs := h.imp seqL seqT
theorem lst_tup {H : Hp} {a : Addr} {xs ys : List V} (h : H a = some (.lst xs)) (t : TupAt H a ys) : False := by
  rcases t with t | ⟨o, _, t⟩
  · rw [h] at t
    cases t
  · rw [h] at t
    cases t
theorem TupAt.at {H : Hp} {a : Addr} {xs : List V} (h : TupAt H a xs) : ∃ o, H a = some o := by
  rcases h with h | ⟨o, _, h⟩
  · exact ⟨_, h⟩
  · exact ⟨_, h⟩
theorem zz_len (r : List Nat) : (zz r).length = r.length := by
  unfold zz
  rw [List.length_map]
theorem vN_len (r : List Nat) : (vN r).length = r.length := by
  rw [List.length_map, zz_len]
theorem vN_get {r : List Nat} {i n : Nat} (h : r[i]? = some n) : (vN r)[i]? = some (.int (n : Int)) := by
  unfold vN zz
  rw [List.getElem?_map, List.getElem?_map, h]
  rfl
theorem vN_some {r : List Nat} {i : Nat} {x : V} (h : (vN r)[i]? = some x) : ∃ n, r[i]? = some n ∧ x = .int (n : Int) := by
  unfold vN zz at h
  rw [List.getElem?_map, List.getElem?_map] at h
  cases e : r[i]? with
  | none =>
    rw [e] at h
    cases h
  | some n =>
    rw [e] at h
    exact ⟨n, rfl, (Option.some.inj h).symm⟩
theorem rg_vN (n : Nat) : rgV 0 (n : Int) = vN (List.range n) := by
  unfold rgV vN zz
  rw [List.map_map, show ((n : Int) - 0).toNat = n by omega]
  refine List.map_congr_left fun i _ => ?_
  show V.int (0 + (i : Int)) = V.int (i : Int)
  rw [Int.zero_add]
/-- deep data of ints in a list or tuple -/
theorem dp_ints {K : PySem.W.Frag} {H : Hp} : ∀ ns : List Int, DpAll K H (ns.map V.int) (ns.map PyData.int)
  | [] => .nil
  | n :: ns => .cons (.int n) (dp_ints ns)
theorem can_ints : ∀ ns : List Int, PyData.canLayAll0 (ns.map PyData.int) = true
  | [] => rfl
  | n :: ns => by
    show (PyData.canLay0 (.int n) && PyData.canLayAll0 (ns.map PyData.int)) = true
    rw [can_ints ns]
    rfl
theorem shaped_tup (ns : List Int) : SeqAt.shaped (.tuple (ns.map PyData.int)) = true := by
  have h := depth_ints ns
  show (PyData.canLayAll0 (ns.map PyData.int) && decide (PyData.depthAll (ns.map PyData.int) + 1 ≤ 64)) = true
  rw [can_ints, decide_eq_true (by omega)]
  rfl
theorem shaped_lst (ns : List Int) : SeqAt.shaped (.list (ns.map PyData.int)) = true := by
  have h := depth_ints ns
  show (PyData.canLayAll0 (ns.map PyData.int) && decide (PyData.depthAll (ns.map PyData.int) + 1 ≤ 64)) = true
  rw [can_ints, decide_eq_true (by omega)]
  rfl
theorem eqv_ints : ∀ ns ms : List Int, PyData.eqvAll (ns.map PyData.int) (ms.map PyData.int) = decide (ns = ms)
  | [], [] => by
    rw [decide_eq_true rfl]
    rfl
  | [], m :: ms => by
    rw [decide_eq_false (fun h => nomatch h)]
    rfl
  | n :: ns, [] => by
    rw [decide_eq_false (fun h => nomatch h)]
    rfl
  | n :: ns, m :: ms => by
    show ((n == m) && PyData.eqvAll (ns.map PyData.int) (ms.map PyData.int)) = _
    rw [eqv_ints ns ms]
    by_cases e : n = m
    · subst e
      by_cases e2 : ns = ms
      · subst e2
        simp
      · simp [e2]
    · simp [e]
/-- what stood stands, but for what stands at q -/
def Mv (q : Addr) (H H' : Hp) : Prop := ∀ b o, b ≠ q → H b = some o → H' b = some o
theorem Same.mv {q : Addr} {H H' : Hp} (s : Same H H') : Mv q H H' := fun b o _ h => s b o h
theorem Mv.trans {q : Addr} {H H1 H2 : Hp} (a : Mv q H H1) (b : Mv q H1 H2) : Mv q H H2 := fun c o n h => b c o n (a c o n h)
/-! comprehensions whose tests and items change nothing that stood -/
section
variable {K : PySem.W.Frag} {g : TG} {tt : TT} {te : TE} {vs : List Nat} {σ : L2.St} {H1 : Hp} {Q : VK}
theorem keepD {H1 H H4 : Hp} {D : Addr} {xs ys : List V} (nD : H1 D = none) (s : Same H1 H) (s4 : Same H H4) : Same H1 (upd H4 D (.lst ys)) := fun b o e => by
  have nb : b ≠ D := ne_of_none e nD
  rw [upd_ne nb]
  exact s4 _ _ (s _ _ e)
theorem lcr {ta : TA} {H0 : Hp} {n : Nat} (hta : ∀ R : List V → Hp → Prop, R [.int (n : Int)] H1 → ta σ H0 R) (hn : n ≤ 100000) (outs : Nat → List V) (h0 : outs 0 = []) (hz : ∀ i, i ≤ n → (outs i).length < sizeLine)
    (turn : ∀ (i : Nat) (H : Hp) (Kt : V → Hp → Prop) (Kf : Hp → Prop), i < n → Same H1 H →
      (∀ y H4, Same H H4 → outs (i + 1) = outs i ++ [y] → Kt y H4) → (∀ H3, Same H H3 → outs (i + 1) = outs i → Kf H3) →
      g (.int (0 + i)) (wipe σ vs) H fun σ2 H2 => wipe σ2 vs = wipe σ vs ∧ tt σ2 H2 fun b H3 => if b = true then te σ2 H3 fun y H4 => Kt y H4 else Kf H3)
    (hd : ∀ D H, Same H1 H → H1 D = none → H D = some (.lst (outs n)) → Q (.ref D) H) :
    tLc (iRng1 ta) g tt te vs σ H0 Q := by
  refine hta _ ⟨(n : Int), rfl, by omega, by omega, ?_⟩
  rw [Int.toNat_natCast]
  intro D nD
  refine lc_range (lo := 0) (n := n) (fun i H => Same H1 H ∧ H D = some (.lst (outs i)))
    ⟨same_new nD, by rw [upd_same, h0]⟩ (fun i H hi ⟨s, e⟩ => ?_) (fun H ⟨s, e⟩ => hd D H s nD e)
  refine turn i H (fun y H4 => ∃ acc, H4 D = some (.lst acc) ∧ acc.length < sizeLine ∧ (Same H1 (upd H4 D (.lst (acc ++ [y]))) ∧ (upd H4 D (.lst (acc ++ [y]))) D = some (.lst (outs (i + 1)))))
    (fun H3 => Same H1 H3 ∧ H3 D = some (.lst (outs (i + 1)))) hi s (fun y H4 s4 eo => ?_) (fun H3 s3 eo => ?_)
  · exact ⟨outs i, s4 _ _ e, hz i (by omega), keepD (xs := []) nD s s4, by rw [upd_same, eo]⟩
  · exact ⟨s.trans s3, by rw [s3 _ _ e, eo]⟩
theorem lcs {a : Addr} {xs : List V} {tl : TE} (htl : ∀ R : VK, R (.ref a) H1 → tl σ H1 R) (hq : SqV H1 a xs) (outs : Nat → List V) (h0 : outs 0 = []) (hz : ∀ i, i ≤ xs.length → (outs i).length < sizeLine)
    (turn : ∀ (i : Nat) (x : V) (H : Hp) (Kt : V → Hp → Prop) (Kf : Hp → Prop), xs[i]? = some x → Same H1 H →
      (∀ y H4, Same H H4 → outs (i + 1) = outs i ++ [y] → Kt y H4) → (∀ H3, Same H H3 → outs (i + 1) = outs i → Kf H3) →
      g x (wipe σ vs) H fun σ2 H2 => wipe σ2 vs = wipe σ vs ∧ tt σ2 H2 fun b H3 => if b = true then te σ2 H3 fun y H4 => Kt y H4 else Kf H3)
    (hd : ∀ D H, Same H1 H → H1 D = none → H D = some (.lst (outs xs.length)) → Q (.ref D) H) :
    tLc (fun σ H R => iList K tl σ H R ∨ iTup K tl σ H R) g tt te vs σ H1 Q := by
  have step : ∀ (D : Addr) (i : Nat) (x : V) (H : Hp), H1 D = none → xs[i]? = some x → (Same H1 H ∧ H D = some (.lst (outs i))) →
      g x (wipe σ vs) H fun σ2 H2 => wipe σ2 vs = wipe σ vs ∧ tt σ2 H2 fun b H3 =>
        if b = true then te σ2 H3 fun y H4 => ∃ acc, H4 D = some (.lst acc) ∧ acc.length < sizeLine ∧
          (Same H1 (upd H4 D (.lst (acc ++ [y]))) ∧ (upd H4 D (.lst (acc ++ [y]))) D = some (.lst (outs (i + 1))))
        else (Same H1 H3 ∧ H3 D = some (.lst (outs (i + 1)))) := by
    intro D i x H nD hx ⟨s, e⟩
    have li := (List.getElem?_eq_some_iff.mp hx).1
    refine turn i x H _ _ hx s (fun y H4 s4 eo => ?_) (fun H3 s3 eo => ?_)
    · exact ⟨outs i, s4 _ _ e, hz i (by omega), keepD (xs := []) nD s s4, by rw [upd_same, eo]⟩
    · exact ⟨s.trans s3, by rw [s3 _ _ e, eo]⟩
  rcases hq with hq | hq
  · refine .inl (htl _ ⟨a, rfl, ⟨_, seqL hq⟩, fun D nD => ?_⟩)
    exact lc_list (K := K) (a := a) (xs := xs) (fun i H => Same H1 H ∧ H D = some (.lst (outs i)))
      ⟨same_new nD, by rw [upd_same, h0]⟩ (fun i H _ hp => seqL (hp.1 _ _ hq)) (fun i x H hx hp => step D i x H nD hx hp)
      (fun H hp => hd D H hp.1 nD hp.2)
  · refine .inr (htl _ ⟨a, rfl, ⟨_, seqT hq⟩, fun D nD => ?_⟩)
    exact lc_tup (K := K) (a := a) (xs := xs) (fun i H => Same H1 H ∧ H D = some (.lst (outs i)))
      ⟨same_new nD, by rw [upd_same, h0]⟩ (fun i H _ hp => seqT (hq.mono hp.1)) (fun i x H hx hp => step D i x H nD hx hp)
      (fun H hp => hd D H hp.1 nD hp.2)
theorem lcl {a : Addr} {xs : List V} {tl : TE} (htl : ∀ R : VK, R (.ref a) H1 → tl σ H1 R) (hq : H1 a = some (.lst xs)) (outs : Nat → List V) (h0 : outs 0 = []) (hz : ∀ i, i ≤ xs.length → (outs i).length < sizeLine)
    (turn : ∀ (i : Nat) (x : V) (H : Hp) (Kt : V → Hp → Prop) (Kf : Hp → Prop), xs[i]? = some x → Same H1 H →
      (∀ y H4, Same H H4 → outs (i + 1) = outs i ++ [y] → Kt y H4) → (∀ H3, Same H H3 → outs (i + 1) = outs i → Kf H3) →
      g x (wipe σ vs) H fun σ2 H2 => wipe σ2 vs = wipe σ vs ∧ tt σ2 H2 fun b H3 => if b = true then te σ2 H3 fun y H4 => Kt y H4 else Kf H3)
    (hd : ∀ D H, Same H1 H → H1 D = none → H D = some (.lst (outs xs.length)) → Q (.ref D) H) :
    tLc (iList K tl) g tt te vs σ H1 Q := by
  refine htl _ ⟨a, rfl, ⟨_, seqL hq⟩, fun D nD => ?_⟩
  refine lc_list (K := K) (a := a) (xs := xs) (fun i H => Same H1 H ∧ H D = some (.lst (outs i)))
    ⟨same_new nD, by rw [upd_same, h0]⟩ (fun i H _ hp => seqL (hp.1 _ _ hq)) (fun i x H hx ⟨s, e⟩ => ?_)
    (fun H hp => hd D H hp.1 nD hp.2)
  have li := (List.getElem?_eq_some_iff.mp hx).1
  refine turn i x H _ _ hx s (fun y H4 s4 eo => ?_) (fun H3 s3 eo => ?_)
  · exact ⟨outs i, s4 _ _ e, hz i (by omega), keepD (xs := []) nD s s4, by rw [upd_same, eo]⟩
  · exact ⟨s.trans s3, by rw [s3 _ _ e, eo]⟩
end
theorem tyes {σ : L2.St} {H : Hp} {Q : Bool → Hp → Prop} (h : Q true H) : tYes σ H Q := h
theorem small_of {n : Nat} (h : n ≤ 100000) : n < sizeLine := by
  rw [sizeLine_eq]
  omega
theorem all_true (n : Nat) : ((List.replicate n true).all id) = true := by
  rw [List.all_eq_true]
  intro x hx
  rw [List.eq_of_mem_replicate hx]
  rfl
theorem bl_true {p : Prop} [Decidable p] (h : p) : V.bl (decide p) = V.bl true := by rw [decide_eq_true h]
theorem bl_false {p : Prop} [Decidable p] (h : ¬ p) : V.bl (decide p) = V.bl false := by rw [decide_eq_false h]
theorem ixN_at {n j : Nat} (h : j < n) : ixN n (j : Int) = some j := by
  unfold ixN
  rw [if_pos (by omega), if_pos (by omega), Int.toNat_natCast]
theorem zz_perm {r s : List Nat} (h : r.Perm s) : (zz r).Perm (zz s) := h.map _
theorem zz_range_up (n : Nat) : (zz (List.range n)).Pairwise (· ≤ ·) := by
  unfold zz
  rw [List.pairwise_map]
  exact List.pairwise_le_range.imp fun h => Int.ofNat_le.mpr h
theorem zz_inj {r s : List Nat} (h : zz r = zz s) : r = s := by
  unfold zz at h
  exact (List.map_inj_right (fun a b e => Int.ofNat.inj e)).mp h
theorem vN_set (l : List Nat) (i n : Nat) : (vN l).set i (.int (n : Int)) = vN (l.set i n) := by
  unfold vN zz
  rw [List.map_set, List.map_set]
theorem vN_rep (n : Nat) : (List.replicate n [V.int 0]).flatten = vN (List.replicate n 0) := by
  induction n with
  | zero => rfl
  | succ n ih =>
    rw [List.replicate_succ, List.flatten_cons, ih]
    rfl
theorem mx_zz (l : List Nat) : mx 0 (zz l) = ((mxN l : Nat) : Int) := by
  unfold mxN
  cases l with
  | nil => rfl
  | cons x l =>
    show (zz l).foldl max (x : Int) = (((x :: l).foldl max 0 : Nat) : Int)
    rw [List.foldl_cons, Nat.zero_max]
    induction l generalizing x with
    | nil => rfl
    | cons y l ih =>
      show (zz l).foldl max (max (x : Int) (y : Int)) = _
      rw [List.foldl_cons, ← ih]
      congr 1
      omega
theorem vN_snoc (l : List Nat) (n : Nat) : vN l ++ [V.int (n : Int)] = vN (l ++ [n]) := by
  unfold vN zz
  rw [List.map_append, List.map_append]
  rfl
def colP (r found : List Nat) (top i : Nat) : List Nat :=
  ((List.range i).filter fun o => decide (r.getD top 0 < r.getD o 0)).map fun o => found.getD o 0 + 1
theorem colP_yes {r found : List Nat} {top i : Nat} (h : r.getD top 0 < r.getD i 0) : colP r found top (i + 1) = colP r found top i ++ [found.getD i 0 + 1] := by
  unfold colP
  have e : ([i].filter fun o => decide (r.getD top 0 < r.getD o 0)) = [i] := by
    exact List.filter_cons_of_pos (p := fun o => decide (r.getD top 0 < r.getD o 0)) (decide_eq_true h)
  rw [List.range_succ, List.filter_append, List.map_append, e]
  rfl
theorem colP_no {r found : List Nat} {top i : Nat} (h : ¬ r.getD top 0 < r.getD i 0) : colP r found top (i + 1) = colP r found top i := by
  unfold colP
  have e : ([i].filter fun o => decide (r.getD top 0 < r.getD o 0)) = [] := by
    exact List.filter_cons_of_neg (p := fun o => decide (r.getD top 0 < r.getD o 0)) (by rw [decide_eq_false h]; exact Bool.false_ne_true)
  rw [List.range_succ, List.filter_append, List.map_append, e, List.map_nil, List.append_nil]
theorem getD_of {l : List Nat} {i n : Nat} (h : l[i]? = some n) : l.getD i 0 = n := by
  rw [List.getD_eq_getElem?_getD, h]
  rfl
theorem getD_at {l : List Nat} {i : Nat} (h : i < l.length) : l[i]? = some (l.getD i 0) := by
  rw [List.getD_eq_getElem?_getD, List.getElem?_eq_getElem h]
  rfl
theorem vN_at {l : List Nat} {i : Nat} (h : i < l.length) : atI (vN l) (i : Int) = some (.int ((l.getD i 0 : Nat) : Int)) := atI_nat (vN_get (getD_at h))
theorem colP_len (r found : List Nat) (top i : Nat) : (colP r found top i).length ≤ i := by
  unfold colP
  rw [List.length_map]
  have := List.length_filter_le (fun o => decide (r.getD top 0 < r.getD o 0)) (List.range i)
  rw [List.length_range] at this
  exact this
def QA (H : Hp) (q c : Addr) (cells : List Int) (k : Nat) : Prop := ∃ (turn rest : Int),
  H q = some (.lst [.ref c, .int turn, .int rest]) ∧ H c = some (.lst (cells.map V.int)) ∧ 0 ≤ turn ∧ turn ≤ (k : Int) ∧ 0 ≤ rest
theorem mod_nat (i : Int) {m : Nat} (h : 1 ≤ m) : ∃ j : Nat, j < m ∧ i % (m : Int) = (j : Int) := by
  have h1 : 0 ≤ i % (m : Int) := Int.emod_nonneg i (by omega)
  have h2 : i % (m : Int) < (m : Int) := Int.emod_lt_of_pos i (by omega)
  exact ⟨(i % (m : Int)).toNat, by omega, by omega⟩
theorem mv_upd {q : Addr} {H : Hp} {o : HO} : Mv q H (upd H q o) := fun b u n e => by
  rw [upd_ne n]
  exact e
theorem divW {i : Int} {m : Nat} (h : 1 ≤ m) (h2 : m ≤ 100000) : CDivW i (m : Int) :=
  wide_div (b := 17) (by omega) (by omega) (by omega) (by omega)
theorem natAbs_small {x : Int} (h0 : 0 ≤ x) (h : x < 18446744073709551616) : x.natAbs < 2 ^ 64 := by
  have : (2 : Nat) ^ 64 = 18446744073709551616 := by decide
  omega
theorem mod_lo (i : Int) {m : Int} (h : 0 < m) : 0 ≤ i % m := Int.emod_nonneg i (by omega)
theorem mod_hi (i : Int) {m : Int} (h : 0 < m) : i % m < m := Int.emod_lt_of_pos i h
theorem pos_c {m : Int} (h : 0 < m) : 0 < m := h
theorem turn_sq {t : Int} (h0 : 0 ≤ t) (h1 : t ≤ 10000) : 0 ≤ t * t ∧ t * t ≤ 100000000 := by
  constructor
  · exact Int.mul_nonneg h0 h0
  · have := Int.mul_le_mul h1 h1 h0 (by omega : (0 : Int) ≤ 10000)
    omega
theorem mix_big {x t : Int} (hx0 : 0 ≤ x) (hx : x < 2147483648) (h0 : 0 ≤ t) (h1 : t ≤ 10000) : 0 ≤ x * (2 * t + 5000) ∧ x * (2 * t + 5000) ≤ 2147483648 * 25000 := by
  constructor
  · exact Int.mul_nonneg hx0 (by omega)
  · exact Int.mul_le_mul (by omega) (by omega) (by omega) (by omega)
/-! comprehensions over a list, a tuple that stands: as they are read -/
section
variable {K : PySem.W.Frag} {g : TG} {tt : TT} {te : TE} {vs : List Nat} {σ : L2.St} {H1 : Hp} {Qd : Addr → Hp → Prop}
theorem lcL {a : Addr} {xs : List V} (hq : H1 a = some (.lst xs)) (outs : Nat → List V) (h0 : outs 0 = []) (hz : ∀ i, i ≤ xs.length → (outs i).length < sizeLine)
    (turn : ∀ (i : Nat) (x : V) (H : Hp) (Kt : V → Hp → Prop) (Kf : Hp → Prop), xs[i]? = some x → Same H1 H →
      (∀ y H4, Same H H4 → outs (i + 1) = outs i ++ [y] → Kt y H4) → (∀ H3, Same H H3 → outs (i + 1) = outs i → Kf H3) →
      g x (wipe σ vs) H fun σ2 H2 => wipe σ2 vs = wipe σ vs ∧ tt σ2 H2 fun b H3 => if b = true then te σ2 H3 fun y H4 => Kt y H4 else Kf H3)
    (hd : ∀ D H, Same H1 H → H1 D = none → H D = some (.lst (outs xs.length)) → Qd D H) :
    ∀ D, H1 D = none → ∃ W : Nat → Nat → Hp → Prop, (∃ m, W 0 m (upd H1 D (.lst []))) ∧ ∀ i m H, W i m H →
      ((Itl K a).stop i H ∧ Qd D H) ∨ ((Itl K a).go i H ∧ ∃ Nx : Hp → Prop, (∀ H', Nx H' → ∃ m', m' < m ∧ W (i + 1) m' H') ∧ ∀ x H', (Itl K a).yld i H x H' → g x (wipe σ vs) H' fun σ2 H2 => wipe σ2 vs = wipe σ vs ∧ tt σ2 H2 fun b H3 =>
        if b = true then te σ2 H3 fun y H4 => ∃ acc, H4 D = some (.lst acc) ∧ acc.length < sizeLine ∧ Nx (upd H4 D (.lst (acc ++ [y]))) else Nx H3) := by
  intro D nD
  refine lc_list (K := K) (a := a) (xs := xs) (fun i H => Same H1 H ∧ H D = some (.lst (outs i)))
    ⟨same_new nD, by rw [upd_same, h0]⟩ (fun i H _ hp => seqL (hp.1 _ _ hq)) (fun i x H hx ⟨s, e⟩ => ?_)
    (fun H hp => hd D H hp.1 nD hp.2)
  have li := (List.getElem?_eq_some_iff.mp hx).1
  refine turn i x H _ _ hx s (fun y H4 s4 eo => ?_) (fun H3 s3 eo => ?_)
  · exact ⟨outs i, s4 _ _ e, hz i (by omega), keepD (xs := []) nD s s4, by rw [upd_same, eo]⟩
  · exact ⟨s.trans s3, by rw [s3 _ _ e, eo]⟩
theorem lcT {a : Addr} {xs : List V} (hq : TupAt H1 a xs) (outs : Nat → List V) (h0 : outs 0 = []) (hz : ∀ i, i ≤ xs.length → (outs i).length < sizeLine)
    (turn : ∀ (i : Nat) (x : V) (H : Hp) (Kt : V → Hp → Prop) (Kf : Hp → Prop), xs[i]? = some x → Same H1 H →
      (∀ y H4, Same H H4 → outs (i + 1) = outs i ++ [y] → Kt y H4) → (∀ H3, Same H H3 → outs (i + 1) = outs i → Kf H3) →
      g x (wipe σ vs) H fun σ2 H2 => wipe σ2 vs = wipe σ vs ∧ tt σ2 H2 fun b H3 => if b = true then te σ2 H3 fun y H4 => Kt y H4 else Kf H3)
    (hd : ∀ D H, Same H1 H → H1 D = none → H D = some (.lst (outs xs.length)) → Qd D H) :
    ∀ D, H1 D = none → ∃ W : Nat → Nat → Hp → Prop, (∃ m, W 0 m (upd H1 D (.lst []))) ∧ ∀ i m H, W i m H →
      ((Itt K a).stop i H ∧ Qd D H) ∨ ((Itt K a).go i H ∧ ∃ Nx : Hp → Prop, (∀ H', Nx H' → ∃ m', m' < m ∧ W (i + 1) m' H') ∧ ∀ x H', (Itt K a).yld i H x H' → g x (wipe σ vs) H' fun σ2 H2 => wipe σ2 vs = wipe σ vs ∧ tt σ2 H2 fun b H3 =>
        if b = true then te σ2 H3 fun y H4 => ∃ acc, H4 D = some (.lst acc) ∧ acc.length < sizeLine ∧ Nx (upd H4 D (.lst (acc ++ [y]))) else Nx H3) := by
  intro D nD
  refine lc_tup (K := K) (a := a) (xs := xs) (fun i H => Same H1 H ∧ H D = some (.lst (outs i)))
    ⟨same_new nD, by rw [upd_same, h0]⟩ (fun i H _ hp => seqT (hq.mono hp.1)) (fun i x H hx ⟨s, e⟩ => ?_)
    (fun H hp => hd D H hp.1 nD hp.2)
  have li := (List.getElem?_eq_some_iff.mp hx).1
  refine turn i x H _ _ hx s (fun y H4 s4 eo => ?_) (fun H3 s3 eo => ?_)
  · exact ⟨outs i, s4 _ _ e, hz i (by omega), keepD (xs := []) nD s s4, by rw [upd_same, eo]⟩
  · exact ⟨s.trans s3, by rw [s3 _ _ e, eo]⟩
end
/-- a loop over enumerate of a list -/
theorem for_enumL {K : PySem.W.Frag} {a : Addr} {xs : List V} {g : TG} {tb : TS} {D : Ends} {σ : L2.St} {H : Hp} (Pv : Nat → L2.St → Hp → Prop) (h0 : Pv 0 σ H)
    (hq : ∀ i σ H, Pv i σ H → SqL K H a xs)
    (hs : ∀ (i : Nat) (x : V) (T : Addr) (σ : L2.St) (H : Hp), xs[i]? = some x → Pv i σ H → H T = none →
      g (.ref T) σ (upd H T (.tup [.int (i : Nat), x])) fun σ2 H2 => tb { D with nx := Pv (i + 1), ct := Pv (i + 1), bk := D.nx } σ2 H2)
    (hd : ∀ σ H, Pv xs.length σ H → D.nx σ H) :
    ∃ W : Nat → Nat → L2.St → Hp → Prop, (∃ m, W 0 m σ H) ∧ ∀ i m σ H, W i m σ H →
      ((Ite K a).stop i H ∧ D.nx σ H) ∨ ((Ite K a).go i H ∧ ∃ N : L2.St → Hp → Prop, (∀ σ' H', N σ' H' → ∃ m', m' < m ∧ W (i + 1) m' σ' H') ∧
        ∀ v H', (Ite K a).yld i H v H' → g v σ H' fun σ2 H2 => tb { D with nx := N, ct := N, bk := D.nx } σ2 H2) := by
  refine ⟨fun i m σ H => m = xs.length - i ∧ i ≤ xs.length ∧ Pv i σ H,
    ⟨xs.length, rfl, Nat.zero_le _, h0⟩, ?_⟩
  rintro i m σ H ⟨rfl, hi, p⟩
  have qx := hq i σ H p
  by_cases hlt : i < xs.length
  · have hx : xs[i]? = some xs[i] := List.getElem?_eq_getElem hlt
    refine .inr ⟨⟨xs, _, qx, hx⟩, Pv (i + 1),
      fun σ' H' p' => ⟨xs.length - (i + 1), by omega, rfl, hlt, p'⟩, fun v H' y => ?_⟩
    obtain ⟨T, x', rfl, hT, rfl, f1⟩ := y
    exact hs i x' T σ H (f1 xs qx) p hT
  · have e : i = xs.length := by omega
    subst e
    exact .inl ⟨⟨xs, qx, Nat.le_refl _⟩, hd σ H p⟩
theorem ixQ {K : PySem.W.Frag} {H : Hp} {a : Addr} {xs : List V} {i : Int} {v : V} {Q : VK} (h : SqV H a xs) (e : atI xs i = some v) (q : Q v H) : rIx K (.ref a) (.int i) H Q := by
  rcases h with h | h
  · exact .inl ⟨a, xs, i, v, rfl, rfl, seqL h, e, q⟩
  · exact .inr (.inl ⟨a, xs, i, v, rfl, rfl, seqT h, e, q⟩)
theorem map_erase {α β : Type} (f : α → β) : ∀ (l : List α) (j : Nat), (l.map f).eraseIdx j = (l.eraseIdx j).map f
  | [], _ => rfl
  | _ :: _, 0 => rfl
  | x :: l, j + 1 => by
    show f x :: (l.map f).eraseIdx j = f x :: (l.eraseIdx j).map f
    rw [map_erase f l j]
theorem vN_erase (l : List Nat) (j : Nat) : (vN l).eraseIdx j = vN (l.eraseIdx j) := by
  unfold vN zz
  rw [map_erase, map_erase]
theorem erase_perm : ∀ (l : List Nat) (j x : Nat), l[j]? = some x → (x :: l.eraseIdx j).Perm l
  | [], _, _, h => by simp at h
  | y :: l, 0, x, h => by
    have e : y = x := by simpa using h
    rw [e]
    exact .refl _
  | y :: l, j + 1, x, h => by
    have ih := erase_perm l j x (by simpa using h)
    show (x :: y :: l.eraseIdx j).Perm (y :: l)
    exact (List.Perm.swap _ _ _).trans (ih.cons y)
theorem seqIx {j n : Nat} (h : j < n) : seqIndex? (j : Int) n = some j := (ixN_seq (ixN_at h)).1
/-- rows of numbers, each a tuple -/
def RowsAt (H : Hp) : List Addr → List (List Nat) → Prop
  | [], [] => True
  | a :: as, r :: rs => TupAt H a (vN r) ∧ RowsAt H as rs
  | _, _ => False
theorem RowsAt.mono {H H' : Hp} (s : Same H H') : ∀ {as : List Addr} {rs : List (List Nat)}, RowsAt H as rs → RowsAt H' as rs
  | [], [], h => h
  | a :: as, r :: rs, h => ⟨h.1.mono s, RowsAt.mono s h.2⟩
  | [], _ :: _, h => h
  | _ :: _, [], h => h
theorem RowsAt.len {H : Hp} : ∀ {as : List Addr} {rs : List (List Nat)}, RowsAt H as rs → as.length = rs.length
  | [], [], _ => rfl
  | a :: as, r :: rs, h => by
    rw [List.length_cons, List.length_cons, RowsAt.len h.2]
  | [], _ :: _, h => h.elim
  | _ :: _, [], h => h.elim
theorem RowsAt.app {H : Hp} : ∀ {as : List Addr} {rs : List (List Nat)} {bs : List Addr} {ss : List (List Nat)}, RowsAt H as rs → RowsAt H bs ss → RowsAt H (as ++ bs) (rs ++ ss)
  | [], [], _, _, _, h => h
  | a :: as, r :: rs, _, _, h, h2 => ⟨h.1, RowsAt.app h.2 h2⟩
  | [], _ :: _, _, _, h, _ => h.elim
  | _ :: _, [], _, _, h, _ => h.elim
theorem RowsAt.get {H : Hp} : ∀ {as : List Addr} {rs : List (List Nat)} {i : Nat} {a : Addr}, RowsAt H as rs → as[i]? = some a → ∃ r, rs[i]? = some r ∧ TupAt H a (vN r)
  | [], _, _, _, _, e => by simp at e
  | a :: as, r :: rs, 0, b, h, e => by
    have z : a = b := by simpa using e
    subst z
    exact ⟨r, rfl, h.1⟩
  | a :: as, r :: rs, i + 1, b, h, e => RowsAt.get (i := i) h.2 (by simpa using e)
  | _ :: _, [], _, _, h, _ => h.elim
abbrev vA (as : List Addr) : List V := as.map V.ref
theorem cut_ints (ns : List Int) (lo hi : Option Int) : ∃ ms : List Int, cutV (ns.map V.int) lo hi = ms.map V.int ∧ ms.length ≤ ns.length := by
  unfold cutV
  rw [← List.map_drop, ← List.map_take]
  exact ⟨_, rfl, by rw [List.length_take, List.length_drop]; omega⟩
theorem QA.ne {H : Hp} {q c : Addr} {cells : List Int} {k : Nat} (h : QA H q c cells k) : ∀ p, H p = none → p ≠ q := fun p np e => by
  obtain ⟨_, _, eq, _⟩ := h
  rw [← e, np] at eq
  cases eq
theorem QA.cne {H : Hp} {q c : Addr} {cells : List Int} {k : Nat} (h : QA H q c cells k) : ∀ p, H p = none → c ≠ p := fun p np e => by
  obtain ⟨_, _, _, ec, _⟩ := h
  rw [e, np] at ec
  cases ec
theorem QA.mono {H H' : Hp} {q c : Addr} {cells : List Int} {k : Nat} (h : QA H q c cells k) (s : Same H H') : QA H' q c cells k := by
  obtain ⟨t, r, e1, e2, z⟩ := h
  exact ⟨t, r, s _ _ e1, s _ _ e2, z⟩
theorem QA.upd {H : Hp} {q c p : Addr} {cells : List Int} {k : Nat} {o : HO} (h : QA H q c cells k) (n : p ≠ q) (m : c ≠ p) : QA (upd H p o) q c cells k := by
  obtain ⟨t, r, e1, e2, z⟩ := h
  exact ⟨t, r, by rw [upd_ne n.symm]; exact e1, by rw [upd_ne m]; exact e2, z⟩
theorem vA_app (as bs : List Addr) : vA (as ++ bs) = vA as ++ vA bs := List.map_append
theorem vA_snoc (as : List Addr) (a : Addr) : vA (as ++ [a]) = vA as ++ [V.ref a] := List.map_append
theorem in_vN (i : Nat) (r : List Nat) : inV (.int (i : Int)) (vN r) = r.contains i := by
  unfold inV vN zz
  rw [List.map_map, List.any_map]
  rw [Bool.eq_iff_iff, List.any_eq_true]
  constructor
  · rintro ⟨x, hx, e⟩
    have e' : ((x : Int) == (i : Int)) = true := e
    have : (x : Int) = (i : Int) := by simpa using e'
    have : x = i := by omega
    subst this
    simpa using hx
  · intro h
    refine ⟨i, by simpa using h, ?_⟩
    show ((i : Int) == (i : Int)) = true
    simp
theorem flat_vN (r : List Nat) : (vN r).all flatV = true := by
  rw [List.all_eq_true]
  intro x hx
  obtain ⟨z, _, rfl⟩ := List.mem_map.mp hx
  rfl
theorem bl_eq {i j : Nat} : decide (V.int (i : Int) = V.int (j : Int)) = decide (i = j) := by
  rw [Bool.eq_iff_iff, decide_eq_true_eq, decide_eq_true_eq]
  constructor
  · intro h
    have := V.int.inj h
    omega
  · rintro rfl
    rfl
abbrev dI (r : List Nat) : PyData := .tuple ((zz r).map PyData.int)
def dTs (L : List (List Nat)) : List PyData := L.map dI
theorem eqv_dI (r s : List Nat) : PyData.eqv (dI r) (dI s) = decide (r = s) := by
  show PyData.eqvAll _ _ = _
  rw [eqv_ints, Bool.eq_iff_iff, decide_eq_true_eq, decide_eq_true_eq]
  exact ⟨zz_inj, fun h => by rw [h]⟩
theorem can_dTs : ∀ L : List (List Nat), PyData.canLayAll0 (dTs L) = true
  | [] => rfl
  | r :: L => by
    show (PyData.canLayAll0 ((zz r).map PyData.int) && PyData.canLayAll0 (dTs L)) = true
    rw [can_dTs L, can_ints]
    rfl
theorem depth_dTs : ∀ L : List (List Nat), PyData.depthAll (dTs L) ≤ 2
  | [] => by
    show 0 ≤ 2
    omega
  | r :: L => by
    have ih := depth_dTs L
    have h1 := depth_ints (zz r)
    show max (PyData.depthAll ((zz r).map PyData.int) + 1) (PyData.depthAll (dTs L)) ≤ 2
    omega
theorem shaped_dTs (L : List (List Nat)) : SeqAt.shaped (.list (dTs L)) = true := by
  have h := depth_dTs L
  show (PyData.canLayAll0 (dTs L) && decide (PyData.depthAll (dTs L) + 1 ≤ 64)) = true
  rw [can_dTs, decide_eq_true (by omega)]
  rfl
theorem shaped_pair (L : List (List Nat)) : SeqAt.shaped (.tuple (dTs L)) = true := by
  have h := depth_dTs L
  show (PyData.canLayAll0 (dTs L) && decide (PyData.depthAll (dTs L) + 1 ≤ 64)) = true
  rw [can_dTs, decide_eq_true (by omega)]
  rfl
theorem eqv_dTs : ∀ L M : List (List Nat), PyData.eqvAll (dTs L) (dTs M) = decide (L = M)
  | [], [] => by
    rw [decide_eq_true rfl]
    rfl
  | [], m :: M => by
    rw [decide_eq_false (fun h => nomatch h)]
    rfl
  | r :: L, [] => by
    rw [decide_eq_false (fun h => nomatch h)]
    rfl
  | r :: L, m :: M => by
    show (PyData.eqv (dI r) (dI m) && PyData.eqvAll (dTs L) (dTs M)) = _
    rw [eqv_dTs L M, eqv_dI]
    by_cases e : r = m
    · subst e
      by_cases e2 : L = M
      · subst e2
        simp
      · simp [e2]
    · simp [e]
theorem any_dTs (L : List (List Nat)) (e : List Nat) : ((dTs L).any fun z => PyData.eqv z (dI e)) = decide (e ∈ L) := by
  unfold dTs
  rw [List.any_map, Bool.eq_iff_iff, List.any_eq_true, decide_eq_true_eq]
  constructor
  · rintro ⟨x, hx, h⟩
    have h' : PyData.eqv (dI x) (dI e) = true := h
    rw [eqv_dI] at h'
    rw [← of_decide_eq_true h']
    exact hx
  · intro h
    refine ⟨e, h, ?_⟩
    show PyData.eqv (dI e) (dI e) = true
    rw [eqv_dI, decide_eq_true rfl]
theorem dp_tup {K : PySem.W.Frag} {H : Hp} {a : Addr} {r : List Nat} (h : TupAt H a (vN r)) : Dp K H (.ref a) (dI r) := .tup (seqT h) (dp_ints _)
theorem dp_rows {K : PySem.W.Frag} {H : Hp} : ∀ {as : List Addr} {rs : List (List Nat)}, RowsAt H as rs → DpAll K H (vA as) (dTs rs)
  | [], [], _ => .nil
  | a :: as, r :: rs, h => .cons (dp_tup h.1) (dp_rows h.2)
  | [], _ :: _, h => h.elim
  | _ :: _, [], h => h.elim
theorem QA.tup {H H' : Hp} {q c a : Addr} {cells : List Int} {k : Nat} {xs : List V} (h : QA H q c cells k) (m : Mv q H H') (e : TupAt H a xs) : TupAt H' a xs := by
  obtain ⟨t, r, eq, _⟩ := h
  rcases e with e | ⟨o, d, e⟩
  · exact .inl (m _ _ (ne_of e eq (by intro z; cases z)) e)
  · exact .inr ⟨o, d, m _ _ (ne_of e eq (by intro z; cases z)) e⟩
theorem QA.tupN {H H' : Hp} {q c a : Addr} {cells : List Int} {k : Nat} {xs : List V} (h : QA H q c cells k) (m : Mv q H H') (e : TupN H a xs) : TupN H' a xs := by
  obtain ⟨t, r, eq, _⟩ := h
  obtain ⟨o, d, e⟩ := e
  exact ⟨o, d, m _ _ (ne_of e eq (by intro z; cases z)) e⟩
theorem QA.rows {H H' : Hp} {q c : Addr} {cells : List Int} {k : Nat} (h : QA H q c cells k) (m : Mv q H H') : ∀ {as : List Addr} {rs : List (List Nat)}, RowsAt H as rs → RowsAt H' as rs
  | [], [], z => z
  | a :: as, r :: rs, z => ⟨h.tup m z.1, QA.rows h m z.2⟩
  | [], _ :: _, z => z.elim
  | _ :: _, [], z => z.elim
theorem QA.refs {H : Hp} {q c p : Addr} {cells : List Int} {k : Nat} {as : List Addr} (h : QA H q c cells k) (e : H p = some (.lst (vA as))) : p ≠ q := by
  rintro rfl
  obtain ⟨t, r, eq, _⟩ := h
  rw [e] at eq
  have z := HO.lst.inj (Option.some.inj eq)
  cases as with
  | nil => cases z
  | cons a as =>
    cases as with
    | nil => cases z
    | cons b as => cases z
theorem QA.ints {H : Hp} {q c p : Addr} {cells : List Int} {k : Nat} {s : List Nat} (h : QA H q c cells k) (e : H p = some (.lst (vN s))) : p ≠ q := by
  rintro rfl
  obtain ⟨t, r, eq, _⟩ := h
  rw [e] at eq
  have z := HO.lst.inj (Option.some.inj eq)
  cases s with
  | nil => cases z
  | cons a as => cases z
theorem QA.le {H : Hp} {q c : Addr} {cells : List Int} {k l : Nat} (h : QA H q c cells k) (m : k ≤ l) : QA H q c cells l := by
  obtain ⟨t, r, e1, e2, z1, z2, z3⟩ := h
  exact ⟨t, r, e1, e2, z1, by omega, z3⟩
def pick (f : List Nat → Bool) : List Addr → List (List Nat) → List Addr
  | a :: as, r :: rs => if f r = true then a :: pick f as rs else pick f as rs
  | _, _ => []
theorem pick_rows {f : List Nat → Bool} {H : Hp} : ∀ {as : List Addr} {rs : List (List Nat)}, RowsAt H as rs → RowsAt H (pick f as rs) (rs.filter f)
  | [], [], _ => True.intro
  | a :: as, r :: rs, h => by
    show RowsAt H (if f r = true then _ else _) _
    by_cases c : f r = true
    · rw [if_pos c, List.filter_cons_of_pos c]
      exact ⟨h.1, pick_rows h.2⟩
    · rw [if_neg c, List.filter_cons_of_neg c]
      exact pick_rows h.2
  | [], _ :: _, h => h.elim
  | _ :: _, [], h => h.elim
theorem pick_snoc {f : List Nat → Bool} {a : Addr} {r : List Nat} : ∀ {as : List Addr} {rs : List (List Nat)}, as.length = rs.length → pick f (as ++ [a]) (rs ++ [r]) = pick f as rs ++ (if f r = true then [a] else [])
  | [], [], _ => by
    show (if f r = true then a :: [] else []) = [] ++ _
    rw [List.nil_append]
  | x :: as, y :: rs, h => by
    have ih := pick_snoc (f := f) (a := a) (r := r) (as := as) (rs := rs) (by simpa using h)
    show (if f y = true then x :: pick f (as ++ [a]) (rs ++ [r]) else pick f (as ++ [a]) (rs ++ [r])) = (if f y = true then x :: pick f as rs else pick f as rs) ++ _
    rw [ih]
    by_cases c : f y = true
    · rw [if_pos c, if_pos c]
      rfl
    · rw [if_neg c, if_neg c]
  | [], _ :: _, h => by simp at h
  | _ :: _, [], h => by simp at h
theorem pick_len (f : List Nat → Bool) : ∀ (as : List Addr) (rs : List (List Nat)), (pick f as rs).length ≤ as.length
  | [], rs => by
    cases rs <;> exact Nat.le_refl 0
  | a :: as, [] => Nat.zero_le _
  | a :: as, r :: rs => by
    have ih := pick_len f as rs
    show (if f r = true then a :: pick f as rs else pick f as rs).length ≤ as.length + 1
    by_cases c : f r = true
    · rw [if_pos c, List.length_cons]
      omega
    · rw [if_neg c]
      omega
theorem pick_at {f : List Nat → Bool} {as : List Addr} {rs : List (List Nat)} (hl : as.length = rs.length) {i : Nat} {a : Addr} {r : List Nat} (h1 : as[i]? = some a) (h2 : rs[i]? = some r) :
    vA (pick f (as.take (i + 1)) (rs.take (i + 1))) = vA (pick f (as.take i) (rs.take i)) ++ (if f r = true then [V.ref a] else []) := by
  rw [List.take_add_one, List.take_add_one, h1, h2]
  show vA (pick f (as.take i ++ [a]) (rs.take i ++ [r])) = _
  rw [pick_snoc (by rw [List.length_take, List.length_take, hl]), vA_app]
  congr 1
  by_cases c : f r = true
  · rw [if_pos c, if_pos c]
    rfl
  · rw [if_neg c, if_neg c]
    rfl
end My

namespace My
open PySem PySem.Spec PyProof.Rows L2
/-! the text by places -/
def topS (i : Nat) : Stmt := PySem.Challenge.pw_fromsize_k08_whole_kept_ones_are_the_ear.main.body.getD i (.Pass ⟨0, 0, 0, 0⟩)
abbrev s_is_integer : Stmt := topS 6
theorem sc_is_integer : FnScope ["value"] ["value"] (defScope s_is_integer) :=
  ⟨rfl, rfl, rfl, by decide +kernel, rfl, by decide +kernel, by decide +kernel⟩
abbrev s_is_within : Stmt := topS 7
theorem sc_is_within : FnScope ["value", "least", "most"] ["value", "least", "most"] (defScope s_is_within) :=
  ⟨rfl, rfl, rfl, by decide +kernel, rfl, by decide +kernel, by decide +kernel⟩
abbrev s_is_list : Stmt := topS 8
theorem sc_is_list : FnScope ["value"] ["value"] (defScope s_is_list) :=
  ⟨rfl, rfl, rfl, by decide +kernel, rfl, by decide +kernel, by decide +kernel⟩
abbrev s_is_numbers : Stmt := topS 9
theorem sc_is_numbers : FnScope ["value", "one"] ["value"] (defScope s_is_numbers) :=
  ⟨rfl, rfl, rfl, by decide +kernel, rfl, by decide +kernel, by decide +kernel⟩
abbrev s_is_size : Stmt := topS 10
theorem sc_is_size : FnScope ["value"] ["value"] (defScope s_is_size) :=
  ⟨rfl, rfl, rfl, by decide +kernel, rfl, by decide +kernel, by decide +kernel⟩
abbrev s_is_setting : Stmt := topS 11
theorem sc_is_setting : FnScope ["value", "many", "one"] ["value", "many"] (defScope s_is_setting) :=
  ⟨rfl, rfl, rfl, by decide +kernel, rfl, by decide +kernel, by decide +kernel⟩
abbrev s_need_size : Stmt := topS 12
theorem sc_need_size : FnScope ["size"] ["size"] (defScope s_need_size) :=
  ⟨rfl, rfl, rfl, by decide +kernel, rfl, by decide +kernel, by decide +kernel⟩
abbrev s_is_wiring : Stmt := topS 15
theorem sc_is_wiring : FnScope ["value"] ["value"] (defScope s_is_wiring) :=
  ⟨rfl, rfl, rfl, by decide +kernel, rfl, by decide +kernel, by decide +kernel⟩
abbrev s_led : Stmt := topS 16
theorem sc_led : FnScope ["row", "setting", "wiring"] ["row", "setting"] (defScope s_led) :=
  ⟨rfl, rfl, rfl, by decide +kernel, rfl, by decide +kernel, by decide +kernel⟩
abbrev s_need_wiring : Stmt := topS 17
theorem sc_need_wiring : FnScope ["value", "part"] ["value", "part"] (defScope s_need_wiring) :=
  ⟨rfl, rfl, rfl, by decide +kernel, rfl, by decide +kernel, by decide +kernel⟩
abbrev s_led_to : Stmt := topS 18
theorem sc_led_to : FnScope ["row", "setting", "bottoms", "bottom", "number"] ["row", "setting"] (defScope s_led_to) :=
  ⟨rfl, rfl, rfl, by decide +kernel, rfl, by decide +kernel, by decide +kernel⟩
abbrev s_settings_of : Stmt := topS 20
theorem sc_settings_of : FnScope ["row"] ["row"] (defScope s_settings_of) :=
  ⟨rfl, rfl, rfl, by decide +kernel, rfl, by decide +kernel, by decide +kernel⟩
abbrev s_is_kept : Stmt := topS 21
theorem sc_is_kept : FnScope ["row", "size", "wiring"] ["row", "size"] (defScope s_is_kept) :=
  ⟨rfl, rfl, rfl, by decide +kernel, rfl, by decide +kernel, by decide +kernel⟩
abbrev s_colours_of : Stmt := topS 22
theorem sc_colours_of : FnScope ["row", "found", "top", "bottom", "ahead", "other"] ["row"] (defScope s_colours_of) :=
  ⟨rfl, rfl, rfl, by decide +kernel, rfl, by decide +kernel, by decide +kernel⟩
abbrev s_both_settings : Stmt := topS 23
theorem sc_both_settings : FnScope ["row", "told"] ["row"] (defScope s_both_settings) :=
  ⟨rfl, rfl, rfl, by decide +kernel, rfl, by decide +kernel, by decide +kernel⟩
abbrev s_kept_at : Stmt := topS 24
theorem sc_kept_at : FnScope ["row", "size", "ends", "bottom", "many", "end"] ["row", "size"] (defScope s_kept_at) :=
  ⟨rfl, rfl, rfl, by decide +kernel, rfl, by decide +kernel, by decide +kernel⟩
abbrev s_l_cup : Stmt := topS 26
theorem sc_l_cup : FnScope ["_law_script", "_law_cell"] ["_law_script"] (defScope s_l_cup) :=
  ⟨rfl, rfl, rfl, by decide +kernel, rfl, by decide +kernel, by decide +kernel⟩
abbrev s_l_scoop : Stmt := topS 27
theorem sc_l_scoop : FnScope ["_law_cup_here", "_law_many", "_law_held", "_law_turn", "_law_cell", "_law_mixed"] ["_law_cup_here", "_law_many"] (defScope s_l_scoop) :=
  ⟨rfl, rfl, rfl, by decide +kernel, rfl, by decide +kernel, by decide +kernel⟩
abbrev s_l_row : Stmt := topS 28
theorem sc_l_row : FnScope ["_law_cup_here", "_law_wires", "_law_left", "_law_found", "_law_top"] ["_law_cup_here", "_law_wires"] (defScope s_l_row) :=
  ⟨rfl, rfl, rfl, by decide +kernel, rfl, by decide +kernel, by decide +kernel⟩
abbrev s_l_settings : Stmt := topS 29
theorem sc_l_settings : FnScope ["_law_wires", "_law_size", "_law_found", "_law_top", "_law_longer", "_law_setting", "_law_number"] ["_law_wires", "_law_size"] (defScope s_l_settings) :=
  ⟨rfl, rfl, rfl, by decide +kernel, rfl, by decide +kernel, by decide +kernel⟩
abbrev s_l_led : Stmt := topS 30
theorem sc_l_led : FnScope ["_law_row_here", "_law_tops", "_law_found", "_law_bottom"] ["_law_row_here", "_law_tops"] (defScope s_l_led) :=
  ⟨rfl, rfl, rfl, by decide +kernel, rfl, by decide +kernel, by decide +kernel⟩
abbrev s_l_earliest : Stmt := topS 31
theorem sc_l_earliest : FnScope ["_law_tops", "_law_bottoms", "_law_found", "_law_number", "_law_place"] ["_law_tops", "_law_bottoms"] (defScope s_l_earliest) :=
  ⟨rfl, rfl, rfl, by decide +kernel, rfl, by decide +kernel, by decide +kernel⟩
abbrev s_l_small_right : Stmt := topS 32
theorem sc_l_small_right : FnScope ["_law_cup_here", "_law_wires", "_law_size", "_law_row_here", "_law_best", "_law_setting"] ["_law_cup_here"] (defScope s_l_small_right) :=
  ⟨rfl, rfl, rfl, by decide +kernel, rfl, by decide +kernel, by decide +kernel⟩
abbrev s_l_great_right : Stmt := topS 33
theorem sc_l_great_right : FnScope ["_law_cup_here", "_law_size", "_law_row_here", "_law_tops", "_law_bottoms", "_law_first", "_law_pair", "_law_top", "_law_number"] ["_law_cup_here"] (defScope s_l_great_right) :=
  ⟨rfl, rfl, rfl, by decide +kernel, rfl, by decide +kernel, by decide +kernel⟩
abbrev s_law : Stmt := topS 34
theorem sc_law : FnScope ["_law_script", "_law_cup_here", "_law_lap"] ["_law_script"] (defScope s_law) :=
  ⟨rfl, rfl, rfl, by decide +kernel, rfl, by decide +kernel, by decide +kernel⟩
structure Txt (K : PySem.W.Frag) (mg : Str → Option Value) where
  a_is_integer : Addr
  fd_is_integer : FuncData
  F_is_integer : Fun K "is_integer" "is_integer" s_is_integer a_is_integer fd_is_integer
  g_is_integer : mg "is_integer" = some (.ref a_is_integer)
  b_is_integer : Binds K fd_is_integer ["value"] []
  a_is_within : Addr
  fd_is_within : FuncData
  F_is_within : Fun K "is_within" "is_within" s_is_within a_is_within fd_is_within
  g_is_within : mg "is_within" = some (.ref a_is_within)
  b_is_within : Binds K fd_is_within ["value", "least", "most"] []
  a_is_list : Addr
  fd_is_list : FuncData
  F_is_list : Fun K "is_list" "is_list" s_is_list a_is_list fd_is_list
  g_is_list : mg "is_list" = some (.ref a_is_list)
  b_is_list : Binds K fd_is_list ["value"] []
  a_is_numbers : Addr
  fd_is_numbers : FuncData
  F_is_numbers : Fun K "is_numbers" "is_numbers" s_is_numbers a_is_numbers fd_is_numbers
  g_is_numbers : mg "is_numbers" = some (.ref a_is_numbers)
  b_is_numbers : Binds K fd_is_numbers ["value"] []
  a_is_size : Addr
  fd_is_size : FuncData
  F_is_size : Fun K "is_size" "is_size" s_is_size a_is_size fd_is_size
  g_is_size : mg "is_size" = some (.ref a_is_size)
  b_is_size : Binds K fd_is_size ["value"] []
  a_is_setting : Addr
  fd_is_setting : FuncData
  F_is_setting : Fun K "is_setting" "is_setting" s_is_setting a_is_setting fd_is_setting
  g_is_setting : mg "is_setting" = some (.ref a_is_setting)
  b_is_setting : Binds K fd_is_setting ["value", "many"] []
  a_need_size : Addr
  fd_need_size : FuncData
  F_need_size : Fun K "need_size" "need_size" s_need_size a_need_size fd_need_size
  g_need_size : mg "need_size" = some (.ref a_need_size)
  b_need_size : Binds K fd_need_size ["size"] []
  a_is_wiring : Addr
  fd_is_wiring : FuncData
  F_is_wiring : Fun K "is_wiring" "is_wiring" s_is_wiring a_is_wiring fd_is_wiring
  g_is_wiring : mg "is_wiring" = some (.ref a_is_wiring)
  b_is_wiring : Binds K fd_is_wiring ["value"] []
  a_led : Addr
  fd_led : FuncData
  F_led : Fun K "led" "led" s_led a_led fd_led
  g_led : mg "led" = some (.ref a_led)
  b_led : Binds K fd_led ["row", "setting"] []
  a_need_wiring : Addr
  fd_need_wiring : FuncData
  F_need_wiring : Fun K "need_wiring" "need_wiring" s_need_wiring a_need_wiring fd_need_wiring
  g_need_wiring : mg "need_wiring" = some (.ref a_need_wiring)
  b_need_wiring : Binds K fd_need_wiring ["value", "part"] []
  a_led_to : Addr
  fd_led_to : FuncData
  F_led_to : Fun K "led_to" "led_to" s_led_to a_led_to fd_led_to
  g_led_to : mg "led_to" = some (.ref a_led_to)
  b_led_to : Binds K fd_led_to ["row", "setting"] []
  a_settings_of : Addr
  fd_settings_of : FuncData
  F_settings_of : Fun K "settings_of" "settings_of" s_settings_of a_settings_of fd_settings_of
  g_settings_of : mg "settings_of" = some (.ref a_settings_of)
  b_settings_of : Binds K fd_settings_of ["row"] []
  a_is_kept : Addr
  fd_is_kept : FuncData
  F_is_kept : Fun K "is_kept" "is_kept" s_is_kept a_is_kept fd_is_kept
  g_is_kept : mg "is_kept" = some (.ref a_is_kept)
  b_is_kept : Binds K fd_is_kept ["row", "size"] []
  a_colours_of : Addr
  fd_colours_of : FuncData
  F_colours_of : Fun K "colours_of" "colours_of" s_colours_of a_colours_of fd_colours_of
  g_colours_of : mg "colours_of" = some (.ref a_colours_of)
  b_colours_of : Binds K fd_colours_of ["row"] []
  a_both_settings : Addr
  fd_both_settings : FuncData
  F_both_settings : Fun K "both_settings" "both_settings" s_both_settings a_both_settings fd_both_settings
  g_both_settings : mg "both_settings" = some (.ref a_both_settings)
  b_both_settings : Binds K fd_both_settings ["row"] []
  a_kept_at : Addr
  fd_kept_at : FuncData
  F_kept_at : Fun K "kept_at" "kept_at" s_kept_at a_kept_at fd_kept_at
  g_kept_at : mg "kept_at" = some (.ref a_kept_at)
  b_kept_at : Binds K fd_kept_at ["row", "size"] []
  a_l_cup : Addr
  fd_l_cup : FuncData
  F_l_cup : Fun K "_law_cup" "_law_cup" s_l_cup a_l_cup fd_l_cup
  g_l_cup : mg "_law_cup" = some (.ref a_l_cup)
  b_l_cup : Binds K fd_l_cup ["_law_script"] []
  a_l_scoop : Addr
  fd_l_scoop : FuncData
  F_l_scoop : Fun K "_law_scoop" "_law_scoop" s_l_scoop a_l_scoop fd_l_scoop
  g_l_scoop : mg "_law_scoop" = some (.ref a_l_scoop)
  b_l_scoop : Binds K fd_l_scoop ["_law_cup_here", "_law_many"] []
  a_l_row : Addr
  fd_l_row : FuncData
  F_l_row : Fun K "_law_row" "_law_row" s_l_row a_l_row fd_l_row
  g_l_row : mg "_law_row" = some (.ref a_l_row)
  b_l_row : Binds K fd_l_row ["_law_cup_here", "_law_wires"] []
  a_l_settings : Addr
  fd_l_settings : FuncData
  F_l_settings : Fun K "_law_settings" "_law_settings" s_l_settings a_l_settings fd_l_settings
  g_l_settings : mg "_law_settings" = some (.ref a_l_settings)
  b_l_settings : Binds K fd_l_settings ["_law_wires", "_law_size"] []
  a_l_led : Addr
  fd_l_led : FuncData
  F_l_led : Fun K "_law_led" "_law_led" s_l_led a_l_led fd_l_led
  g_l_led : mg "_law_led" = some (.ref a_l_led)
  b_l_led : Binds K fd_l_led ["_law_row_here", "_law_tops"] []
  a_l_earliest : Addr
  fd_l_earliest : FuncData
  F_l_earliest : Fun K "_law_earliest" "_law_earliest" s_l_earliest a_l_earliest fd_l_earliest
  g_l_earliest : mg "_law_earliest" = some (.ref a_l_earliest)
  b_l_earliest : Binds K fd_l_earliest ["_law_tops", "_law_bottoms"] []
  a_l_small_right : Addr
  fd_l_small_right : FuncData
  F_l_small_right : Fun K "_law_small_right" "_law_small_right" s_l_small_right a_l_small_right fd_l_small_right
  g_l_small_right : mg "_law_small_right" = some (.ref a_l_small_right)
  b_l_small_right : Binds K fd_l_small_right ["_law_cup_here"] []
  a_l_great_right : Addr
  fd_l_great_right : FuncData
  F_l_great_right : Fun K "_law_great_right" "_law_great_right" s_l_great_right a_l_great_right fd_l_great_right
  g_l_great_right : mg "_law_great_right" = some (.ref a_l_great_right)
  b_l_great_right : Binds K fd_l_great_right ["_law_cup_here"] []
  a_law : Addr
  fd_law : FuncData
  F_law : Fun K "law" "law" s_law a_law fd_law
  g_law : mg "law" = some (.ref a_law)
  b_law : Binds K fd_law ["_law_script"] []
  t_MOST : Tok
  c_MOST_WIRES : mg "MOST_WIRES" = some (.int 6 t_MOST)
  z_isinstance : mg "isinstance" = none
  z_type : mg "type" = none
  z_int : mg "int" = none
  z_bool : mg "bool" = none
  z_list : mg "list" = none
  z_tuple : mg "tuple" = none
  z_all : mg "all" = none
  z_len : mg "len" = none
  z_sorted : mg "sorted" = none
  z_range : mg "range" = none
  z_zip : mg "zip" = none
  z_enumerate : mg "enumerate" = none
  z_max : mg "max" = none
  z_abs : mg "abs" = none
  z_repr : mg "repr" = none
section
variable {P : Program} {w : World} {K : PySem.W.Frag} {mg : Str → Option Value} {base : Heap}
/-! ### is_integer -/
def sp_is_integer : Sp := fun vs H Q _ => ∃ i : Int, vs = [.int i] ∧ Q (.bl true) H
theorem ok_is_integer (T : Txt K mg) : FnOk P w K mg base CX0 1 T.a_is_integer T.fd_is_integer ["value"] sp_is_integer := by
  refine T.F_is_integer.ok sc_is_integer (fun vs H Q E h => ?_) (fun cdv A outer s H vs Q E hr h => ?_)
  · obtain ⟨i, rfl, _⟩ := h
    rfl
  · obtain ⟨i, rfl, q⟩ := h
    refine ⟨_, (pss_one (ps_ret (pe_and (pe_callB call_isi (by rfl) T.z_isinstance (by decide +kernel) (pa_cons (pv 0) (pa_cons (pe_bltn (v := .ty "int") (by rfl) T.z_int
    PyProof.Rows.boot_int rfl) pa_nil))) (pe_one (pe_not (pe_callB call_isi (by rfl) T.z_isinstance (by decide +kernel) (pa_cons (pv 0) (pa_cons (pe_bltn (v := .ty
    "bool") (by rfl) T.z_bool PyProof.Rows.boot_bool rfl) pa_nil)))))))), ?_⟩
    refine ⟨_, rfl, .int i, .ty "int", _, _, true, rfl, .ty "int", .base (.int i), kit_ty (by decide +kernel), ?_⟩
    refine ⟨true, rfl, iteT ?_⟩
    refine ⟨_, rfl, .int i, .ty "bool", _, _, false, rfl, .ty "bool", .base (.int i), kit_ty (by decide +kernel), ?_⟩
    exact ⟨false, rfl, q⟩
/-! ### is_list -/
def sp_is_list : Sp := fun vs H Q _ => ∃ (a : Addr) (xs : List V), vs = [.ref a] ∧ SqV H a xs ∧ ∀ H', Same H H' → Q (.bl true) H'
theorem ok_is_list (T : Txt K mg) : FnOk P w K mg base CX0 1 T.a_is_list T.fd_is_list ["value"] sp_is_list := by
  refine T.F_is_list.ok sc_is_list (fun vs H Q E h => ?_) (fun cdv A outer s H vs Q E hr h => ?_)
  · obtain ⟨a, xs, rfl, _⟩ := h
    rfl
  · obtain ⟨a, xs, rfl, hs, q⟩ := h
    refine ⟨_, (pss_one (ps_ret (pe_callB call_isiT (by rfl) T.z_isinstance (by decide +kernel) (pa_cons (pv 0) (pa_cons (pe_tup (pa_cons (pe_bltn (v := .ty "list") (by rfl) T.z_list
    PyProof.Rows.boot_list rfl) (pa_cons (pe_bltn (v := .ty "tuple") (by rfl) T.z_tuple PyProof.Rows.boot_tuple rfl) pa_nil))) pa_nil))))), ?_⟩
    refine ⟨_, rfl, (by show 2 ≤ sizeLine; decide), fun t ht => ?_⟩
    have s1 := same_new (o := .tup [.ty "list", .ty "tuple"]) ht
    rcases hs with hs | hs
    · exact ⟨.ref a, t, _, .type "list", [.type "list", .type "tuple"], true, rfl, upd_same,
        .cons (.ty _) (.cons (.ty _) .nil), .base (.lst (s1 _ _ hs)),
        kitAny_cons (kit_ty (b := "list") (r := true) (by decide +kernel)) (fun z => nomatch z) (fun _ => rfl), q _ s1⟩
    · have ty : TyX K (upd H t (.tup [.ty "list", .ty "tuple"])) (.ref a) (.type "tuple") := by
        rcases hs.mono s1 with h | ⟨o, _, h⟩
        · exact .base (.tup h)
        · exact .fTuple h
      exact ⟨.ref a, t, _, .type "tuple", [.type "list", .type "tuple"], true, rfl, upd_same, .cons (.ty _) (.cons (.ty _) .nil), ty,
        kitAny_cons (kit_ty (b := "list") (r := false) (by decide +kernel))
          (fun _ => kitAny_cons (kit_ty (b := "tuple") (r := true) (by decide +kernel)) (fun z => nomatch z) (fun _ => rfl)) (fun z => nomatch z), q _ s1⟩
/-! ### is_numbers -/
def sp_is_numbers : Sp := fun vs H Q _ => ∃ (a : Addr) (ns : List Int), vs = [.ref a] ∧ SqV H a (ns.map V.int) ∧ ns.length ≤ 1000 ∧ ∀ H', Same H H' → Q (.bl true) H'
theorem ok_is_numbers (T : Txt K mg) : FnOk P w K mg base CX0 2 T.a_is_numbers T.fd_is_numbers ["value"] sp_is_numbers := by
  refine T.F_is_numbers.ok sc_is_numbers (fun vs H Q E h => ?_) (fun cdv A outer s H vs Q E hr h => ?_)
  · obtain ⟨a, ns, rfl, _⟩ := h
    rfl
  · obtain ⟨a, ns, rfl, hs, hl, q⟩ := h
    refine ⟨_, (pss_one (ps_ret (pe_and (pe_call (ok_is_list T) (hr.mono (by decide)) (by rfl) T.g_is_list T.F_is_list.kp T.b_is_list .nil pass0 (pa_cons (pv 0) pa_nil)) (pe_one
    (pe_callB (cr_all rfl) (by rfl) T.z_all (by decide +kernel) (pa_cons (pe_lc (own := [("one", 1)]) (g := gName 1) (by rfl) sc_is_numbers.nd (pi_seq (pv 0)) (blkOk_by
    (N := ["value", "one"]) (sc := defScope s_is_numbers) (own := [("one", 1)]) (by decide +kernel)) (fun _ _ _ _ _ => pg_name (i := 1) sc_is_numbers.nd rfl (Or.inl rfl))
    (fun _ _ _ _ _ => pts_nil) (fun _ _ _ _ _ => (pe_or (pe_cmpR op_isTyB (pe_callTy (r := rTyp K) call_type1 (by rfl) T.z_type (by decide +kernel) (pa_cons (pv 1)
    pa_nil)) (pe_bltn (v := .ty "int") (by rfl) T.z_int PyProof.Rows.boot_int rfl) (nomark _)) (pe_one (pe_call (ok_is_integer T) (hr.mono (by decide)) (by rfl)
    T.g_is_integer T.F_is_integer.kp T.b_is_integer .nil pass0 (pa_cons (pv 1) pa_nil)))))) pa_nil)))))), ?_⟩
    refine ⟨_, rfl, a, _, rfl, hs, fun H1 s1 => ⟨true, rfl, iteT ?_⟩⟩
    unfold tCB tCons
    refine lcs (xs := ns.map V.int) (fun R h => ⟨_, rfl, h⟩) (hs.mono s1) (fun i => (List.replicate i true).map V.bl) rfl
      (fun i hi => small_of (by rw [List.length_map, List.length_replicate]; rw [List.length_map] at hi; omega))
      (fun i x H Kt Kf hx s kt kf => ?_) (fun D H s nD e => ?_)
    · rw [List.getElem?_map] at hx
      obtain ⟨z, hz, rfl⟩ := Option.map_eq_some_iff.mp hx
      refine ⟨rfl, tyes ?_⟩
      refine iteT ⟨_, rfl, _, "int", rfl, .int z, "int", "int", rfl, rfl, true, congrArg V.bl (decide_eq_true rfl), iteT (kt _ _ (Same.refl _) ?_)⟩
      rw [List.replicate_succ', List.map_append]
      rfl
    · refine ⟨D, List.replicate ns.length true, rfl, seqL (by rw [e, List.length_map]), ?_⟩
      rw [all_true]
      exact q H (s1.trans s)
/-! ### is_setting -/
def sp_is_setting : Sp := fun vs H Q _ => ∃ (a : Addr) (r : List Nat), vs = [.ref a, .int (r.length : Int)] ∧ SqV H a (vN r) ∧ r.length ≤ 1000 ∧ ∀ H', Same H H' → Q (.bl true) H'
theorem ok_is_setting (T : Txt K mg) : FnOk P w K mg base CX0 3 T.a_is_setting T.fd_is_setting ["value", "many"] sp_is_setting := by
  refine T.F_is_setting.ok sc_is_setting (fun vs H Q E h => ?_) (fun cdv A outer s H vs Q E hr h => ?_)
  · obtain ⟨a, r, rfl, _⟩ := h
    rfl
  · obtain ⟨a, r, rfl, hs, hl, q⟩ := h
    refine ⟨_, (pss_cons (ps_if (PW.pt (pw_or (pt_not (pt_val (pe_call (ok_is_integer T) (hr.mono (by decide)) (by rfl) T.g_is_integer T.F_is_integer.kp T.b_is_integer .nil pass0
    (pa_cons (pv 1) pa_nil)))) (pw_or1 (pt_not (pt_val (pe_call (ok_is_numbers T) (hr.mono (by decide)) (by rfl) T.g_is_numbers T.F_is_numbers.kp T.b_is_numbers .nil
    pass0 (pa_cons (pv 0) pa_nil))))))) (pss_one (ps_ret pe_bl)) pss_nil) (pss_one (ps_ret (pe_and (pe_cmpR op_eq (pe_callB call_len_seq (by rfl) T.z_len PySem.boot_len
    (pa_cons (pv 0) pa_nil)) (pv 1) (nomark _)) (pe_one (pe_callB (cr_all rfl) (by rfl) T.z_all (by decide +kernel) (pa_cons (pe_lc (own := [("one", 2)]) (g := gName 2)
    (by rfl) sc_is_setting.nd (pi_seq (pv 0)) (blkOk_by (N := ["value", "many", "one"]) (sc := defScope s_is_setting) (own := [("one", 2)]) (by decide +kernel)) (fun _ _
    _ _ _ => pg_name (i := 2) sc_is_setting.nd rfl (Or.inl rfl)) (fun _ _ _ _ _ => pts_nil) (fun _ _ _ _ _ => (pe_cmpR op_ge (pv 2) pe_int (nomark _)))) pa_nil))))))), ?_⟩
    refine ⟨_, rfl, _, rfl, true, rfl, iteF ?_⟩
    refine ⟨_, rfl, a, zz r, rfl, hs, by rw [zz_len]; exact hl, fun H1 s1 => ⟨true, rfl, iteF ?_⟩⟩
    refine ⟨_, rfl, a, _, rfl, (hs.mono s1).or, _, rfl, rfl, true, ?_, iteT ?_⟩
    · rw [vN_len, decide_eq_true rfl]
    unfold tCB tCons
    refine lcs (xs := vN r) (fun R h => ⟨_, rfl, h⟩) (hs.mono s1) (fun i => (List.replicate i true).map V.bl) rfl
      (fun i hi => small_of (by rw [List.length_map, List.length_replicate]; rw [vN_len] at hi; omega))
      (fun i x H Kt Kf hx s kt kf => ?_) (fun D H s nD e => ?_)
    · obtain ⟨z, hz, rfl⟩ := vN_some hx
      refine ⟨rfl, tyes ?_⟩
      refine iteT ⟨_, rfl, _, _, rfl, rfl, kt _ _ (Same.refl _) ?_⟩
      have e : decide ((0 : Int) ≤ (z : Int)) = true := decide_eq_true (by omega)
      show _ = _ ++ [V.bl (decide ((0 : Int) ≤ (z : Int)))]
      rw [List.replicate_succ', List.map_append, e]
      rfl
    · refine ⟨D, List.replicate r.length true, rfl, seqL (by rw [e, vN_len]), ?_⟩
      rw [all_true]
      exact q H (s1.trans s)
/-! ### is_wiring -/
def sp_is_wiring : Sp := fun vs H Q _ => ∃ (a : Addr) (r : List Nat), vs = [.ref a] ∧ SqV H a (vN r) ∧ IsW r ∧ ∀ H', Same H H' → Q (.bl true) H'
theorem ok_is_wiring (T : Txt K mg) : FnOk P w K mg base CX0 3 T.a_is_wiring T.fd_is_wiring ["value"] sp_is_wiring := by
  refine T.F_is_wiring.ok sc_is_wiring (fun vs H Q E h => ?_) (fun cdv A outer s H vs Q E hr h => ?_)
  · obtain ⟨a, r, rfl, _⟩ := h
    rfl
  · obtain ⟨a, r, rfl, hs, hw, q⟩ := h
    have l1 := hw.2.1
    have l6 := hw.2.2
    refine ⟨_, (pss_cons (ps_if (PW.pt (pw_or (pt_not (pt_val (pe_call (ok_is_list T) (hr.mono (by decide)) (by rfl) T.g_is_list T.F_is_list.kp T.b_is_list .nil pass0 (pa_cons (pv 0)
    pa_nil)))) (pw_or1 (pt_not (pt_chain op_le op_le pe_int (pe_callB call_len_seq (by rfl) T.z_len PySem.boot_len (pa_cons (pv 0) pa_nil)) (pe_glob (v := .int 6) rfl
    T.c_MOST_WIRES ⟨_, rfl⟩)))))) (pss_one (ps_ret pe_bl)) pss_nil) (pss_one (ps_ret (pe_and (pe_call (ok_is_numbers T) (hr.mono (by decide)) (by rfl) T.g_is_numbers
    T.F_is_numbers.kp T.b_is_numbers .nil pass0 (pa_cons (pv 0) pa_nil)) (pe_one (pe_cmpR (op_eqD hr.units) (pe_callB cr_sort2 (by rfl) T.z_sorted (by decide +kernel)
    (pa_cons (pv 0) pa_nil)) (pe_listRg rfl (by rfl) T.z_list (prg_1 (by rfl) T.z_range (pe_callB call_len_seq (by rfl) T.z_len PySem.boot_len (pa_cons (pv 0) pa_nil))))
    (nomark _))))))), ?_⟩
    refine ⟨_, rfl, a, _, rfl, hs, fun H1 s1 => ⟨true, rfl, iteF ?_⟩⟩
    refine ⟨_, rfl, a, _, rfl, (hs.mono s1).or, _, _, rfl, rfl, true, ?_, iteT ?_⟩
    · rw [vN_len]
      exact bl_true (p := (1 : Int) ≤ (r.length : Int)) (by omega)
    refine ⟨_, _, rfl, rfl, true, ?_, iteF ?_⟩
    · rw [vN_len]
      exact bl_true (p := (r.length : Int) ≤ 6) (by omega)
    refine ⟨_, rfl, a, zz r, rfl, hs.mono s1, by rw [zz_len]; omega, fun H2 s2 => ⟨true, rfl, iteT ?_⟩⟩
    have s12 := s1.trans s2
    refine ⟨_, rfl, a, zz r, rfl, (hs.mono s12).or, by rw [zz_len]; omega, fun ns' p pm up np => ?_⟩
    have s3 := s12.trans (same_new (o := .lst (ns'.map V.int)) np)
    refine ⟨_, rfl, a, _, rfl, (hs.mono s3).or, _, rfl, ?_, fun p2 np2 => ?_⟩
    · rw [vN_len]
      exact RgOk.of_le (by omega) (by omega) (by omega) (by omega)
    have e1 : ns' = zz (List.range r.length) := (pm.trans (zz_perm hw.1)).eq_of_pairwise (fun a b _ _ => Int.le_antisymm) up (zz_range_up _)
    have e2 : rgV 0 (((vN r).length : Nat) : Int) = vN (List.range r.length) := by
      rw [vN_len, rg_vN]
    have n12 : p ≠ p2 := fun e => by
      rw [← e, upd_same] at np2
      cases np2
    rw [e2]
    refine ⟨.list ((zz (List.range r.length)).map PyData.int), .list ((zz (List.range r.length)).map PyData.int),
      .lst (seqL (xs := ns'.map V.int) ?_) (e1 ▸ dp_ints _), .lst (seqL upd_same) (dp_ints _), shaped_lst _, shaped_lst _, ?_⟩
    · rw [upd_ne n12, upd_same]
    have e3 : PyData.eqv (.list ((zz (List.range r.length)).map PyData.int)) (.list ((zz (List.range r.length)).map PyData.int)) = true := by
      show PyData.eqvAll _ _ = true
      rw [eqv_ints, decide_eq_true rfl]
    rw [e3]
    exact q _ (s3.trans (same_new np2))
/-! ### need_wiring -/
def sp_need_wiring : Sp := fun vs H Q _ => ∃ (a : Addr) (z : Str) (r : List Nat), vs = [.ref a, .str z] ∧ SqV H a (vN r) ∧ IsW r ∧
  ∀ H' p, Same H H' → TupAt H' p (vN r) → (H a = some (.lst (vN r)) ∨ TupN H a (vN r) → TupN H' p (vN r)) → Q (.ref p) H'
theorem ok_need_wiring (T : Txt K mg) : FnOk P w K mg base CX0 4 T.a_need_wiring T.fd_need_wiring ["value", "part"] sp_need_wiring := by
  refine T.F_need_wiring.ok sc_need_wiring (fun vs H Q E h => ?_) (fun cdv A outer s H vs Q E hr h => ?_)
  · obtain ⟨a, z, r, rfl, _⟩ := h
    rfl
  · obtain ⟨a, z, r, rfl, hs, hw, q⟩ := h
    refine ⟨_, (pss_cons (ps_if (pt_not (pt_val (pe_call (ok_is_wiring T) (hr.mono (by decide)) (by rfl) T.g_is_wiring T.F_is_wiring.kp T.b_is_wiring .nil pass0 (pa_cons (pv 0)
    pa_nil)))) (pss_one ps_never) pss_nil) (pss_one (ps_ret (pe_callTy call_tupleN (by rfl) T.z_tuple (by decide +kernel) (pa_cons (pv 0) pa_nil))))), ?_⟩
    refine ⟨_, rfl, a, r, rfl, hs, hw, fun H1 s1 => ⟨true, rfl, iteF ?_⟩⟩
    refine ⟨_, rfl, a, vN r, rfl, ?_⟩
    rcases hs with h1 | h1
    · exact .inl ⟨seqL (s1 _ _ h1), fun l o nl d => q _ l (s1.trans (same_new nl)) (.inr ⟨o, d, upd_same⟩) fun _ => ⟨o, d, upd_same⟩⟩
    · refine .inr ⟨seqT (h1.mono s1), q _ a s1 (h1.mono s1) fun z => ?_⟩
      rcases z with z | z
      · exact (lst_tup z h1).elim
      · exact z.mono s1
/-! ### led_to -/
def sp_led_to : Sp := fun vs H Q _ => ∃ (a b : Addr) (r s : List Nat), vs = [.ref a, .ref b] ∧ TupAt H a (vN r) ∧ SqV H b (vN s) ∧ IsW r ∧ s.length = r.length ∧
  ∀ H' p, Same H H' → TupN H' p (vN (ledTo r s)) → Q (.ref p) H'
theorem ok_led_to (T : Txt K mg) : FnOk P w K mg base CX0 1 T.a_led_to T.fd_led_to ["row", "setting"] sp_led_to := by
  refine T.F_led_to.ok sc_led_to (fun vs H Q E h => ?_) (fun cdv A outer s0 H vs Q E hr h => ?_)
  · obtain ⟨a, b, r, s, rfl, _⟩ := h
    rfl
  · obtain ⟨a, b, r, s, rfl, ha, hb, hw, hl, q⟩ := h
    have l1 := hw.2.1
    have l6 := hw.2.2
    refine ⟨_, (pss_cons (ps_set (i := 2) sc_led_to.nd rfl (.inl rfl) (pe_op op_rep (pe_lst (pa_cons pe_int pa_nil)) (pe_callB call_len_seq (by rfl) T.z_len PySem.boot_len (pa_cons (pv
    0) pa_nil)))) (pss_cons (ps_for PassesOwn.never rfl (pi_zipX (by rfl) T.z_zip (pa_cons (pv 0) (pa_cons (pv 1) pa_nil))) (pg_tup (by rfl) (pgs_cons (pg_name (i := 3)
    sc_led_to.nd rfl (.inl rfl)) (pgs_cons (pg_name (i := 4) sc_led_to.nd rfl (.inl rfl)) pgs_nil))) (pss_one (ps_asg (pv 4) (pg_sub (pv 2) (pv 3) set_list)))) (pss_one
    (ps_ret (pe_callTy call_tupleN (by rfl) T.z_tuple (by decide +kernel) (pa_cons (pv 2) pa_nil)))))), ?_⟩
    refine ⟨by show 1 ≤ sizeLine; decide, fun l nl => ?_⟩
    have s1 := same_new (o := .lst [V.int 0]) nl
    refine ⟨_, rfl, a, _, rfl, .inr (seqT (ha.mono s1)), l, _, _, rfl, rfl, upd_same, by omega, by rw [vN_len]; omega, ?_, fun p np => ?_⟩
    · rw [vN_len]
      have := small_of (n := 1 * ((r.length : Int)).toNat) (by omega)
      exact Nat.le_of_lt this
    have s2 := s1.trans (same_new (o := .lst (List.replicate ((vN r).length : Int).toNat [V.int 0]).flatten) np)
    have fin : ∀ (σ : L2.St) (H' : Hp), (∃ x3 x4, σ = [some (.ref a), some (.ref b), some (.ref p), x3, x4] ∧ Same H H' ∧ H' p = some (.lst (vN (ledUp r s r.length)))) →
        (tRet (tCB (fun xs H Q => ∃ p ys, xs = [.ref p] ∧ ((SqL K H p ys ∧ ∀ l o, H l = none → o.dict = none → Q (.ref l) (upd H l (.frz o (.tup ys)))) ∨ (SqT K H p ys ∧ Q (.ref p) H))) (tCons (tVar 2) tNil)))
          { nx := fun _ H' => Q .non H', rt := Q } σ H' := by
      rintro σ H' ⟨x3, x4, rfl, sm, ep⟩
      exact ⟨_, rfl, p, _, rfl, .inl ⟨seqL ep, fun l o nl d => q _ l (sm.trans (same_new nl)) ⟨o, d, upd_same⟩⟩⟩
    have start : Same H (upd (upd H l (.lst [V.int 0])) p (.lst (List.replicate ((vN r).length : Int).toNat [V.int 0]).flatten)) ∧
        (upd (upd H l (.lst [V.int 0])) p (.lst (List.replicate ((vN r).length : Int).toNat [V.int 0]).flatten)) p = some (.lst (vN (ledUp r s 0))) := by
      refine ⟨s2, ?_⟩
      rw [upd_same, vN_len, show ((r.length : Int)).toNat = r.length by omega, vN_rep]
      rfl
    have np0 : H p = none := s1.free np
    have turn : ∀ (i : Nat) (x y : V) (t : Addr) (σ : L2.St) (H' : Hp), (vN r)[i]? = some x → (vN s)[i]? = some y →
        (∃ x3 x4, σ = [some (.ref a), some (.ref b), some (.ref p), x3, x4] ∧ Same H H' ∧ H' p = some (.lst (vN (ledUp r s i)))) → H' t = none →
        ∃ (D : List V), D = [x, y] ∧ Same H (upd (upd H' t (.tup [x, y])) p (.lst ((vN (ledUp r s i)).set (((r.getD i 0 : Nat) : Int)).toNat y))) ∧ p ≠ t ∧
          (upd H' t (.tup [x, y])) p = some (.lst (vN (ledUp r s i))) ∧ x = .int ((r.getD i 0 : Nat) : Int) ∧ ixN (vN (ledUp r s i)).length ((r.getD i 0 : Nat) : Int) = some (r.getD i 0) ∧
          (vN (ledUp r s i)).set (r.getD i 0) y = vN (ledUp r s (i + 1)) := by
      rintro i x y t σ H' hx hy ⟨x3, x4, rfl, sm, ep⟩ nt
      obtain ⟨n, hn, rfl⟩ := vN_some hx
      obtain ⟨m, hm, rfl⟩ := vN_some hy
      have hd : r.getD i 0 = n := by
        rw [List.getD_eq_getElem?_getD, hn]
        rfl
      have npt : p ≠ t := ne_of_none ep nt
      rw [hd]
      refine ⟨_, rfl, fun c o e => ?_, npt, by rw [upd_ne npt]; exact ep, rfl, ?_, ?_⟩
      · rw [upd_ne (ne_of_none e np0)]
        exact same_new nt _ _ (sm _ _ e)
      · rw [vN_len, ledUp_len]
        exact ixN_at (hw.lt hn)
      · rw [vN_set, ledUp_succ hn hm]
    rcases hb.mono s2 with hb2 | hb2
    · refine ⟨_, rfl, _, rfl, a, b, vN r, vN s, rfl, .inl ⟨seqT (ha.mono s2), seqL hb2, ?_⟩⟩
      refine for_zipX ((vN_len r).trans (hl.symm.trans (vN_len s).symm)) (fun i σ H' => ∃ x3 x4, σ = [some (.ref a), some (.ref b), some (.ref p), x3, x4] ∧ Same H H' ∧ H' p = some (.lst (vN (ledUp r s i))))
        ⟨none, none, rfl, start⟩ (fun i σ H' ⟨_, _, _, sm, _⟩ => ⟨seqT (ha.mono sm), ?_⟩) (fun i x y t σ H' hx hy hp nt => ?_) (fun σ H' hp => fin σ H' (by rw [vN_len] at hp; exact hp))
      · rcases hb with hb | hb
        · exact seqL (sm _ _ hb)
        · exact (lst_tup hb2 (hb.mono s2)).elim
      · obtain ⟨_, rfl, c1, c2, c3, rfl, c5, c6⟩ := turn i x y t σ H' hx hy hp nt
        obtain ⟨x3, x4, rfl, sm, ep⟩ := hp
        refine ⟨t, _, rfl, seqT (.inl upd_same), rfl, _, [y], rfl, y, [], rfl, rfl, ?_⟩
        refine ⟨_, rfl, _, rfl, _, rfl, p, _, _, _, rfl, rfl, c3, c5, ?_⟩
        exact ⟨_, _, rfl, c1, by rw [upd_same, c6]⟩
    · refine ⟨_, rfl, _, rfl, a, b, vN r, vN s, rfl, .inr ⟨seqT (ha.mono s2), seqT hb2, ?_⟩⟩
      refine RZ.for_zipT ((vN_len r).trans (hl.symm.trans (vN_len s).symm)) (fun i σ H' => ∃ x3 x4, σ = [some (.ref a), some (.ref b), some (.ref p), x3, x4] ∧ Same H H' ∧ H' p = some (.lst (vN (ledUp r s i))))
        ⟨none, none, rfl, start⟩ (fun i σ H' ⟨_, _, _, sm, _⟩ => ⟨seqT (ha.mono sm), ?_⟩) (fun i x y t σ H' hx hy hp nt => ?_) (fun σ H' hp => fin σ H' (by rw [vN_len] at hp; exact hp))
      · rcases hb with hb | hb
        · exact (lst_tup (s2 _ _ hb) hb2).elim
        · exact seqT (hb.mono sm)
      · obtain ⟨_, rfl, c1, c2, c3, rfl, c5, c6⟩ := turn i x y t σ H' hx hy hp nt
        obtain ⟨x3, x4, rfl, sm, ep⟩ := hp
        refine ⟨t, _, rfl, seqT (.inl upd_same), rfl, _, [y], rfl, y, [], rfl, rfl, ?_⟩
        refine ⟨_, rfl, _, rfl, _, rfl, p, _, _, _, rfl, rfl, c3, c5, ?_⟩
        exact ⟨_, _, rfl, c1, by rw [upd_same, c6]⟩
/-! ### led -/
def sp_led : Sp := fun vs H Q _ => ∃ (a b : Addr) (r s : List Nat), vs = [.ref a, .ref b] ∧ SqV H a (vN r) ∧ SqV H b (vN s) ∧ IsW r ∧ s.length = r.length ∧
  ∀ H' p, Same H H' → TupN H' p (vN (ledTo r s)) → Q (.ref p) H'
theorem ok_led (T : Txt K mg) : FnOk P w K mg base CX0 5 T.a_led T.fd_led ["row", "setting"] sp_led := by
  refine T.F_led.ok sc_led (fun vs H Q E h => ?_) (fun cdv A outer s0 H vs Q E hr h => ?_)
  · obtain ⟨a, b, r, s, rfl, _⟩ := h
    rfl
  · obtain ⟨a, b, r, s, rfl, ha, hb, hw, hl, q⟩ := h
    have l6 := hw.2.2
    refine ⟨_, (pss_cons (ps_set (i := 2) sc_led.nd rfl (.inl rfl) (pe_call (ok_need_wiring T) (hr.mono (by decide)) (by rfl) T.g_need_wiring T.F_need_wiring.kp T.b_need_wiring .nil
    pass0 (pa_cons (pv 0) (pa_cons pe_str pa_nil)))) (pss_cons (ps_if (pt_not (pt_val (pe_call (ok_is_setting T) (hr.mono (by decide)) (by rfl) T.g_is_setting
    T.F_is_setting.kp T.b_is_setting .nil pass0 (pa_cons (pv 1) (pa_cons (pe_callB call_len_seq (by rfl) T.z_len PySem.boot_len (pa_cons (pv 2) pa_nil)) pa_nil)))))
    (pss_one ps_never) pss_nil) (pss_one (ps_ret (pe_call (ok_led_to T) (hr.mono (by decide)) (by rfl) T.g_led_to T.F_led_to.kp T.b_led_to .nil pass0 (pa_cons (pv 2)
    (pa_cons (pv 1) pa_nil))))))), ?_⟩
    refine ⟨_, rfl, a, _, r, rfl, ha, hw, fun H1 p1 s1 e1 _ => ?_⟩
    refine ⟨_, rfl, _, rfl, p1, _, rfl, .inr (seqT e1), b, s, ?_, hb.mono s1, by omega, fun H2 s2 => ⟨true, rfl, iteF ?_⟩⟩
    · rw [vN_len, hl]
      rfl
    have s12 := s1.trans s2
    refine ⟨_, rfl, _, rfl, p1, b, r, s, rfl, e1.mono s2, hb.mono s12, hw, hl, fun H3 p s3 e3 => ?_⟩
    exact q H3 p (s12.trans s3) e3
def sp_colours_of : Sp := fun vs H Q _ => ∃ (a : Addr) (r : List Nat), vs = [.ref a] ∧ TupAt H a (vN r) ∧ r.length ≤ 6 ∧
  ∀ H' p, Same H H' → TupN H' p (vN (coloursOf r)) → Q (.ref p) H'
theorem ok_colours_of (T : Txt K mg) : FnOk P w K mg base CX0 1 T.a_colours_of T.fd_colours_of ["row"] sp_colours_of := by
  refine T.F_colours_of.ok sc_colours_of (fun vs H Q E h => ?_) (fun cdv A outer s0 H vs Q E hr h => ?_)
  · obtain ⟨a, r, rfl, _⟩ := h
    rfl
  · obtain ⟨a, r, rfl, ha, l6, q⟩ := h
    refine ⟨_, (pss_cons (ps_set (i := 1) sc_colours_of.nd rfl (.inr rfl) (pe_lst pa_nil)) (pss_cons (ps_for PassesOwn.never rfl (pi_enumT (by rfl) T.z_enumerate (pa_cons (pv 0)
    pa_nil)) (pg_tup (by rfl) (pgs_cons (pg_name (i := 2) sc_colours_of.nd rfl (.inl rfl)) (pgs_cons (pg_name (i := 3) sc_colours_of.nd rfl (.inr rfl)) pgs_nil)))
    (pss_cons (ps_setLc (i := 4) (own := [("other", 5)]) (g := gName 5) (by rfl) sc_colours_of.nd rfl rfl (sw_true rfl rfl rfl (by decide +kernel)) (pi_range1 (by rfl)
    T.z_range (pa_cons (pv 2) pa_nil)) (blkOk_by (N := ["row", "found", "top", "bottom", "ahead", "other"]) (sc := defScope s_colours_of) (own := [("other", 5)])
    (by decide +kernel)) (fun _ _ _ _ _ => pg_name (i := 5) sc_colours_of.nd rfl (Or.inl rfl)) (fun _ _ _ _ _ => pts_one (pt_cmpR op_gt (pe_ix (r := rIxT K) ix_tup (pv 0)
    (pv 5) (fun _ _ => rfl)) (pv 3) (nomark _))) (fun _ _ _ _ _ => (pe_op op_add (pe_ix (r := rIxL K) ix_list (pv 1) (pv 5) (fun _ _ => rfl)) pe_int))) (pss_one (ps_expr
    (pe_bm PySem.F.plainAttrs_list PySem.F.slot_list_append PySem.F.type_list_append mt_append (pv 1) (pa_cons (pe_callBK (cr_maxDf rfl hr.units) (by rfl) T.z_max
    (by decide +kernel) (pa_cons (pv 4) pa_nil) (pk_cons pe_int pk_nil)) pa_nil)))))) (pss_one (ps_ret (pe_callTy call_tupleN (by rfl) T.z_tuple (by decide +kernel)
    (pa_cons (pv 1) pa_nil)))))), ?_⟩
    refine ⟨Nat.zero_le _, fun p np => ?_⟩
    refine ⟨_, rfl, a, vN r, rfl, seqT (ha.mono (same_new np)), ?_⟩
    refine for_enumT (xs := vN r) (fun i σ H' => ∃ x2 x3 x4 x5, σ = [some (.ref a), some (.ref p), x2, x3, x4, x5] ∧ Same H H' ∧ H' p = some (.lst (vN (colUp r i))))
      ⟨none, none, none, none, rfl, same_new np, upd_same⟩ (fun i σ H' ⟨_, _, _, _, _, sm, _⟩ => seqT (ha.mono sm)) (fun i x t σ H' hx hp nt => ?_) (fun σ H' hp => ?_)
    · obtain ⟨x2, x3, x4, x5, rfl, sm, ep⟩ := hp
      obtain ⟨n, hn, rfl⟩ := vN_some hx
      have li : i < r.length := (List.getElem?_eq_some_iff.mp hn).1
      have npt : p ≠ t := ne_of_none ep nt
      have s1 := sm.trans (same_new (o := .tup [.int (i : Nat), .int (n : Int)]) nt)
      have ep1 : (upd H' t (.tup [.int (i : Nat), .int (n : Int)])) p = some (.lst (vN (colUp r i))) := by
        rw [upd_ne npt]
        exact ep
      refine ⟨t, _, rfl, seqT (.inl upd_same), rfl, _, [.int (n : Int)], rfl, _, [], rfl, rfl, ?_⟩
      -- ahead
      unfold tSeq tAsg
      refine lcr (n := i) (fun R h => ⟨_, rfl, h⟩) (by omega) (fun j => vN (colP r (colUp r i) i j)) rfl
        (fun j hj => small_of (by have := colP_len r (colUp r i) i j; rw [vN_len]; omega)) (fun j H2 Kt Kf hj s2 kt kf => ?_) (fun D H2 s2 nD eD => ?_)
      · have e0 : (0 : Int) + (j : Int) = ((j : Nat) : Int) := by omega
        rw [e0]
        refine ⟨rfl, ?_⟩
        refine ⟨_, rfl, _, rfl, a, _, _, _, rfl, rfl, seqT ((ha.mono s1).mono s2), vN_at (by omega), _, rfl, _, _, rfl, rfl, _, rfl, ?_⟩
        have hd : r.getD i 0 = n := getD_of hn
        refine ite2 (fun c => ?_) (fun c => ?_)
        · have c' : r.getD i 0 < r.getD j 0 := by
            have := of_decide_eq_true c
            omega
          refine ⟨_, rfl, _, rfl, p, _, _, _, rfl, rfl, seqL (s2 _ _ ep1), vN_at (by rw [colUp_len]; exact hj), _, _, rfl, rfl, kt _ _ (Same.refl _) ?_⟩
          rw [colP_yes c', ← vN_snoc]
          rfl
        · have c' : ¬ r.getD i 0 < r.getD j 0 := fun z => c (decide_eq_true (by omega))
          exact kf _ (Same.refl _) (by rw [colP_no c'])
      · have np1 : D ≠ p := fun e => by
          rw [← e, nD] at ep1
          cases ep1
        refine ⟨_, rfl, .inl ⟨rfl, _, seqL (s2 _ _ ep1)⟩, _, rfl, D, zz (colP r (colUp r i) i i), 0, rfl, rfl, seqL eD, ?_⟩
        refine ⟨p, _, _, rfl, rfl, s2 _ _ ep1, small_of (by rw [vN_len, colUp_len]; omega), ?_⟩
        refine ⟨_, _, _, _, rfl, fun c o e => ?_, ?_⟩
        · have ncp : c ≠ p := ne_of_none e np
          rw [upd_ne ncp]
          exact s2 _ _ (s1 _ _ e)
        · rw [upd_same, mx_zz, vN_snoc]
          rfl
    · obtain ⟨x2, x3, x4, x5, rfl, sm, ep⟩ := hp
      rw [vN_len] at ep
      exact ⟨_, rfl, p, _, rfl, .inl ⟨seqL ep, fun l o nl d => q _ l (sm.trans (same_new nl)) ⟨o, d, upd_same⟩⟩⟩
/-! ### both_settings -/
def sp_both_settings : Sp := fun vs H Q _ => ∃ (a : Addr) (r : List Nat), vs = [.ref a] ∧ TupAt H a (vN r) ∧ IsW r ∧
  ∀ H' p t b, Same H H' → H' p = some (.tup [.ref t, .ref b]) → TupN H' t (vN (coloursOf r)) → TupN H' b (vN (ledTo r (coloursOf r))) → Q (.ref p) H'
theorem ok_both_settings (T : Txt K mg) : FnOk P w K mg base CX0 2 T.a_both_settings T.fd_both_settings ["row"] sp_both_settings := by
  refine T.F_both_settings.ok sc_both_settings (fun vs H Q E h => ?_) (fun cdv A outer s0 H vs Q E hr h => ?_)
  · obtain ⟨a, r, rfl, _⟩ := h
    rfl
  · obtain ⟨a, r, rfl, ha, hw, q⟩ := h
    refine ⟨_, (pss_cons (ps_set (i := 1) sc_both_settings.nd rfl (.inl rfl) (pe_call (ok_colours_of T) (hr.mono (by decide)) (by rfl) T.g_colours_of T.F_colours_of.kp T.b_colours_of
    .nil pass0 (pa_cons (pv 0) pa_nil))) (pss_one (ps_ret (pe_tup (pa_cons (pv 1) (pa_cons (pe_call (ok_led_to T) (hr.mono (by decide)) (by rfl) T.g_led_to T.F_led_to.kp
    T.b_led_to .nil pass0 (pa_cons (pv 0) (pa_cons (pv 1) pa_nil))) pa_nil)))))), ?_⟩
    refine ⟨_, rfl, a, r, rfl, ha, hw.2.2, fun H1 t s1 e1 => ?_⟩
    refine ⟨_, rfl, _, rfl, _, rfl, a, t, r, coloursOf r, rfl, ha.mono s1, .inr (.inr e1), hw, coloursOf_len r, fun H2 b s2 e2 => ?_⟩
    refine ⟨by show 2 ≤ sizeLine; decide, fun p np => ?_⟩
    have s3 := same_new (o := .tup [.ref t, .ref b]) np
    exact q _ p t b (s1.trans (s2.trans s3)) upd_same ((e1.mono s2).mono s3) (e2.mono s3)
/-! ### settings_of -/
def sp_settings_of : Sp := fun vs H Q _ => ∃ (a : Addr) (r : List Nat), vs = [.ref a] ∧ SqV H a (vN r) ∧ IsW r ∧
  ∀ H' p t b, Same H H' → H' p = some (.tup [.ref t, .ref b]) → TupN H' t (vN (coloursOf r)) → TupN H' b (vN (ledTo r (coloursOf r))) → Q (.ref p) H'
theorem ok_settings_of (T : Txt K mg) : FnOk P w K mg base CX0 5 T.a_settings_of T.fd_settings_of ["row"] sp_settings_of := by
  refine T.F_settings_of.ok sc_settings_of (fun vs H Q E h => ?_) (fun cdv A outer s0 H vs Q E hr h => ?_)
  · obtain ⟨a, r, rfl, _⟩ := h
    rfl
  · obtain ⟨a, r, rfl, ha, hw, q⟩ := h
    refine ⟨_, (pss_one (ps_ret (pe_call (ok_both_settings T) (hr.mono (by decide)) (by rfl) T.g_both_settings T.F_both_settings.kp T.b_both_settings .nil pass0 (pa_cons (pe_call
    (ok_need_wiring T) (hr.mono (by decide)) (by rfl) T.g_need_wiring T.F_need_wiring.kp T.b_need_wiring .nil pass0 (pa_cons (pv 0) (pa_cons pe_str pa_nil))) pa_nil)))), ?_⟩
    refine ⟨_, rfl, a, _, r, rfl, ha, hw, fun H1 p1 s1 e1 _ => ?_⟩
    exact ⟨p1, r, rfl, e1, hw, fun H2 p t b s2 e2 e3 e4 => q H2 p t b (s1.trans s2) e2 e3 e4⟩
/-! ### is_within, is_size, need_size -/
def sp_is_within : Sp := fun vs H Q _ => ∃ (i lo : Int), vs = [.int i, .int lo, .non] ∧ Q (.bl (decide (lo ≤ i))) H
theorem ok_is_within (T : Txt K mg) : FnOk P w K mg base CX0 2 T.a_is_within T.fd_is_within ["value", "least", "most"] sp_is_within := by
  refine T.F_is_within.ok sc_is_within (fun vs H Q E h => ?_) (fun cdv A outer s H vs Q E hr h => ?_)
  · obtain ⟨i, lo, rfl, _⟩ := h
    rfl
  · obtain ⟨i, lo, rfl, q⟩ := h
    refine ⟨_, (pss_cons (ps_if (pt_not (pt_val (pe_call (ok_is_integer T) (hr.mono (by decide)) (by rfl) T.g_is_integer T.F_is_integer.kp T.b_is_integer .nil pass0 (pa_cons (pv 0)
    pa_nil)))) (pss_one (ps_ret pe_bl)) pss_nil) (pss_one (ps_ret (pe_and (pe_or (pe_cmpR op_isN (pv 1) pe_non (nomark _)) (pe_one (pe_cmpR op_le (pv 1) (pv 0) (nomark
    _)))) (pe_one (pe_or (pe_cmpR op_isN (pv 2) pe_non (nomark _)) (pe_one (pe_cmpR op_le (pv 0) (pv 2) (nomark _))))))))), ?_⟩
    refine ⟨_, rfl, i, rfl, true, rfl, iteF ?_⟩
    refine ⟨_, rfl, rfl, false, rfl, iteF ?_⟩
    refine ⟨_, rfl, _, rfl, _, _, rfl, rfl, _, rfl, ?_⟩
    refine ite2 (fun c => ?_) (fun c => ?_)
    · refine ⟨_, rfl, rfl, true, rfl, iteT ?_⟩
      have : V.bl true = V.bl (decide (lo ≤ i)) := by rw [c]
      rw [this]
      exact q
    · have : V.bl false = V.bl (decide (lo ≤ i)) := by
        rw [Bool.not_eq_true] at c
        rw [c]
      rw [this]
      exact q
def sp_is_size : Sp := fun vs H Q _ => ∃ i : Int, vs = [.int i] ∧ Q (.bl (decide (1 ≤ i))) H
theorem ok_is_size (T : Txt K mg) : FnOk P w K mg base CX0 3 T.a_is_size T.fd_is_size ["value"] sp_is_size := by
  refine T.F_is_size.ok sc_is_size (fun vs H Q E h => ?_) (fun cdv A outer s H vs Q E hr h => ?_)
  · obtain ⟨i, rfl, _⟩ := h
    rfl
  · obtain ⟨i, rfl, q⟩ := h
    refine ⟨_, (pss_one (ps_ret (pe_call (ok_is_within T) (hr.mono (by decide)) (by rfl) T.g_is_within T.F_is_within.kp T.b_is_within .nil pass0 (pa_cons (pv 0) (pa_cons pe_int (pa_cons
    pe_non pa_nil)))))), ?_⟩
    exact ⟨_, rfl, i, 1, rfl, q⟩
def sp_need_size : Sp := fun vs H Q _ => ∃ i : Int, vs = [.int i] ∧ 1 ≤ i ∧ Q .non H
theorem ok_need_size (T : Txt K mg) : FnOk P w K mg base CX0 4 T.a_need_size T.fd_need_size ["size"] sp_need_size := by
  refine T.F_need_size.ok sc_need_size (fun vs H Q E h => ?_) (fun cdv A outer s H vs Q E hr h => ?_)
  · obtain ⟨i, rfl, _⟩ := h
    rfl
  · obtain ⟨i, rfl, hi, q⟩ := h
    refine ⟨_, (pss_one (ps_if (pt_not (pt_val (pe_call (ok_is_size T) (hr.mono (by decide)) (by rfl) T.g_is_size T.F_is_size.kp T.b_is_size .nil pass0 (pa_cons (pv 0) pa_nil))))
    (pss_one ps_never) pss_nil)), ?_⟩
    refine ⟨_, rfl, i, rfl, _, rfl, ?_⟩
    rw [decide_eq_true hi]
    exact iteF q
/-! ### kept_at, is_kept -/
def keptN (r : List Nat) (d : Nat) : Bool := decide (mxN (coloursOf r) < d)
theorem mx_cons (x : Nat) (l : List Nat) : (zz l).foldl max (x : Int) = ((mxN (x :: l) : Nat) : Int) := by
  have h := mx_zz (x :: l)
  exact h
def sp_kept_at : Sp := fun vs H Q _ => ∃ (a : Addr) (r : List Nat) (d : Nat), vs = [.ref a, .int (d : Int)] ∧ TupAt H a (vN r) ∧ IsW r ∧ ∀ H', Same H H' → Q (.bl (keptN r d)) H'
theorem for_seqV {K : PySem.W.Frag} {a : Addr} {xs : List V} {tl : TE} {g : TG} {tb : TS} {D : Ends} {σ : L2.St} {H : Hp} (htl : ∀ R : VK, R (.ref a) H → tl σ H R) (hq : SqV H a xs)
    (Pv : Nat → L2.St → Hp → Prop) (h0 : Pv 0 σ H)
    (hl : ∀ i σ' H', Pv i σ' H' → (H a = some (.lst xs) → H' a = some (.lst xs)) ∧ (TupAt H a xs → TupAt H' a xs))
    (hs : ∀ i x σ' H', xs[i]? = some x → Pv i σ' H' → g x σ' H' fun σ2 H2 => tb { D with nx := Pv (i + 1), ct := Pv (i + 1), bk := D.nx } σ2 H2) (hd : ∀ σ' H', Pv xs.length σ' H' → D.nx σ' H') :
    tFor (fun σ H R => iList K tl σ H R ∨ iTup K tl σ H R) g tb D σ H := by
  rcases hq with hq | hq
  · exact .inl (htl _ ⟨a, rfl, ⟨_, seqL hq⟩, for_list Pv h0 (fun i σ' H' _ hp => seqL ((hl i σ' H' hp).1 hq)) hs hd⟩)
  · exact .inr (htl _ ⟨a, rfl, ⟨_, seqT hq⟩, for_tup Pv h0 (fun i σ' H' _ hp => seqT ((hl i σ' H' hp).2 hq)) hs hd⟩)
def sp_cup (K : PySem.W.Frag) : Sp := fun vs H Q _ => ∃ (a : Addr) (ns : List Int), vs = [.ref a] ∧ SqL K H a (ns.map V.int) ∧ ns.length ≤ 1000 ∧ ∀ H' q c cells, Same H H' → QA H' q c cells 0 → Q (.ref q) H'
/-- the greatest bottoms with which falls of one top, of two end -/
def stepE (es : List Nat) (b : Nat) : Nat := (es.filter fun e => decide (b < e)).length
def nextE (es : List Nat) (b : Nat) : List Nat := es.take (stepE es b) ++ [b] ++ es.drop (stepE es b + 1)
def endsUp (r : List Nat) : Nat → List Nat
  | 0 => []
  | i + 1 => nextE (endsUp r i) (r.getD i 0)
def goesE (r : List Nat) (d i : Nat) : Bool := (List.range i).all fun j => decide (stepE (endsUp r j) (r.getD j 0) ≠ d)
theorem endsUp_len (r : List Nat) : ∀ i, (endsUp r i).length ≤ i
  | 0 => Nat.le_refl _
  | i + 1 => by
    have ih := endsUp_len r i
    show (nextE (endsUp r i) (r.getD i 0)).length ≤ i + 1
    unfold nextE
    rw [List.length_append, List.length_append, List.length_take, List.length_drop, List.length_singleton]
    omega
theorem stepE_le (es : List Nat) (b : Nat) : stepE es b ≤ es.length := List.length_filter_le _ _
theorem keptE_all : ∀ n, n < 6 → ((allW (n + 1)).all fun r => ((List.range 7).all fun d => goesE r d (n + 1) == keptN r d) && decide (mxN (coloursOf r) < 7)) = true := by decide +kernel
theorem goesE_succ (r : List Nat) (d i : Nat) : goesE r d (i + 1) = (goesE r d i && decide (stepE (endsUp r i) (r.getD i 0) ≠ d)) := by
  unfold goesE
  rw [List.range_succ, List.all_append, List.all_cons, List.all_nil, Bool.and_true]
theorem goesE_no {r : List Nat} {d i : Nat} (hi : i < r.length) (h : stepE (endsUp r i) (r.getD i 0) = d) : goesE r d r.length = false := by
  unfold goesE
  rw [← Bool.not_eq_true, List.all_eq_true]
  intro z
  have := of_decide_eq_true (z i (List.mem_range.mpr hi))
  exact this h
theorem keptE_eq {r : List Nat} (hw : IsW r) (d : Nat) : goesE r d r.length = keptN r d := by
  have e0 : r.length - 1 + 1 = r.length := by have := hw.2.1; omega
  have h := List.all_eq_true.mp (keptE_all (r.length - 1) (by have := hw.2.2; have := hw.2.1; omega)) r (by rw [show r.length - 1 + 1 = r.length by have := hw.2.1; omega]; exact (mem_allW hw.2.1 hw.2.2).mpr ⟨hw, rfl⟩)
  rw [Bool.and_eq_true] at h
  by_cases c : d < 7
  · have := List.all_eq_true.mp h.1 d (List.mem_range.mpr c)
    have h2 := eq_of_beq this
    have e0 : r.length - 1 + 1 = r.length := by have := hw.2.1; omega
    rwa [e0] at h2
  · have e1 : keptN r d = true := decide_eq_true (by have := of_decide_eq_true h.2; omega)
    rw [e1]
    refine List.all_eq_true.mpr fun j hj => decide_eq_true ?_
    have := stepE_le (endsUp r j) (r.getD j 0)
    have := endsUp_len r j
    have := List.mem_range.mp hj
    have := hw.2.2
    omega
theorem ok_kept_at (T : Txt K mg) : FnOk P w K mg base CX0 2 T.a_kept_at T.fd_kept_at ["row", "size"] sp_kept_at := by
  refine T.F_kept_at.ok sc_kept_at (fun vs H Q E h => ?_) (fun cdv A outer s0 H vs Q E hr h => ?_)
  · obtain ⟨a, r, d, rfl, _⟩ := h
    rfl
  · obtain ⟨a, r, d, rfl, ha, hw, q⟩ := h
    have l6 := hw.2.2
    rw [← keptE_eq hw d] at q
    refine ⟨_, (pss_cons (ps_set (i := 2) sc_kept_at.nd rfl (.inl rfl) (pe_lst pa_nil)) (pss_cons (ps_for PassesOwn.never rfl (pi_seq (pv 0)) (pg_name (i := 3) sc_kept_at.nd rfl (.inr
    rfl)) (pss_cons (ps_set (i := 4) sc_kept_at.nd rfl (.inl rfl) (pe_callB call_len_seq (by rfl) T.z_len PySem.boot_len (pa_cons (pe_lc (own := [("end", 5)]) (g := gName
    5) (by rfl) sc_kept_at.nd (pi_seq (pv 2)) (blkOk_by (N := ["row", "size", "ends", "bottom", "many", "end"]) (sc := defScope s_kept_at) (own := [("end", 5)])
    (by decide +kernel)) (fun _ _ _ _ _ => pg_name (i := 5) sc_kept_at.nd rfl (Or.inl rfl)) (fun _ _ _ _ _ => pts_one (pt_cmpR op_gt (pv 5) (pv 3) (nomark _))) (fun _ _ _
    _ _ => pe_int)) pa_nil))) (pss_cons (ps_if (pt_cmpR op_eq (pv 4) (pv 1) (nomark _)) (pss_one (ps_ret pe_bl)) pss_nil) (pss_one (ps_asg (pe_lst (pa_cons (pv 3)
    pa_nil)) (pg_cut (pv 2) (po_some (pv 4)) (po_some (pe_op op_add (pv 4) pe_int)))))))) (pss_one (ps_ret pe_bl)))), ?_⟩
    refine ⟨Nat.zero_le _, fun p np => ?_⟩
    have s1 := same_new (o := .lst []) np
    unfold tSeq
    dsimp only [gName]
    refine for_seqV (a := a) (xs := vN r) (fun R h => ⟨_, rfl, h⟩) (.inr (ha.mono s1)) (fun i σ H' => ∃ x3 x4, σ = [some (.ref a), some (.int (d : Int)), some (.ref p), x3, x4, none] ∧ Same H H' ∧ H' p = some (.lst (vN (endsUp r i))) ∧ goesE r d i = true)
      ⟨none, none, rfl, s1, upd_same, rfl⟩ (fun i σ H' hp => ?_) (fun i x σ H' hx hp2 => ?_) (fun σ H' hp => ?_)
    · obtain ⟨x3, x4, rfl, sm, ep, _⟩ := hp
      exact ⟨fun e => (lst_tup e (ha.mono s1)).elim, fun _ => ha.mono sm⟩
    · obtain ⟨x3, x4, rfl, sm, ep, hg⟩ := hp2
      obtain ⟨n, hn, rfl⟩ := vN_some hx
      have hi : i < r.length := (List.getElem?_eq_some_iff.mp hn).1
      have gn : r.getD i 0 = n := getD_of hn
      have le := endsUp_len r i
      unfold tAsg tCB tCons
      dsimp only [gName]
      refine lcs (xs := vN (endsUp r i)) (fun R h => ⟨_, rfl, h⟩) (.inl ep) (fun j => vN (List.replicate (((endsUp r i).take j).filter fun e => decide (n < e)).length 1)) rfl
        (fun j hj => small_of (by rw [vN_len, List.length_replicate]; have := List.length_filter_le (fun e => decide (n < e)) ((endsUp r i).take j); rw [List.length_take] at this; omega)) (fun j x H2 Kt Kf hx s2 kt kf => ?_) (fun D H2 s2 nD eD => ?_)
      · obtain ⟨m, hm, rfl⟩ := vN_some hx
        refine ⟨rfl, ?_⟩
        have tk : (endsUp r i).take (j + 1) = (endsUp r i).take j ++ [m] := by
          rw [List.take_add_one, hm]
          rfl
        refine ⟨_, rfl, _, rfl, _, _, rfl, rfl, _, rfl, ?_⟩
        refine ite2 (fun c => ?_) (fun c => ?_)
        · have c' : decide (n < m) = true := decide_eq_true (by have := of_decide_eq_true c; omega)
          refine kt _ _ (Same.refl _) ?_
          have hf : ([m].filter fun e => decide (n < e)) = [m] := by simp [of_decide_eq_true c']
          rw [tk, List.filter_append, hf, List.length_append, List.length_singleton, List.replicate_succ', ← vN_snoc]
          rfl
        · have c' : ¬ decide (n < m) = true := fun z => c (decide_eq_true (by have := of_decide_eq_true z; omega))
          refine kf _ (Same.refl _) ?_
          have hf : ([m].filter fun e => decide (n < e)) = [] := by simp only [List.filter_cons, List.filter_nil, if_neg c']
          rw [tk, List.filter_append, hf, List.append_nil]
      · have ey : (vN (List.replicate (((endsUp r i).take (vN (endsUp r i)).length).filter fun e => decide (n < e)).length 1)).length = stepE (endsUp r i) (r.getD i 0) := by
          rw [vN_len, List.length_replicate, vN_len, List.take_length, gn]
          rfl
        refine ⟨D, _, rfl, .inl (seqL eD), ?_⟩
        rw [ey]
        have sl := stepE_le (endsUp r i) (r.getD i 0)
        refine ⟨_, rfl, _, rfl, rfl, _, rfl, ?_⟩
        rw [bl_eq]
        refine ite2 (fun c => ?_) (fun c => ?_)
        · have c' : stepE (endsUp r i) (r.getD i 0) = d := by
            have := of_decide_eq_true c
            omega
          have q' := q H2 (sm.trans s2)
          rw [goesE_no hi c'] at q'
          exact q'
        · have c' : stepE (endsUp r i) (r.getD i 0) ≠ d := fun z => c (decide_eq_true (by omega))
          refine ⟨_, rfl, (by show 1 ≤ sizeLine; decide), fun b nb => ?_⟩
          have s3 := same_new (o := .lst [.int (n : Int)]) nb
          have e3 := s3 _ _ (s2 _ _ ep)
          have npb : p ≠ b := ne_of_none (s2 _ _ ep) nb
          refine ⟨_, rfl, _, rfl, _, rfl, _, rfl, _, _, rfl, rfl, _, rfl, p, b, vN (endsUp r i), [.int (n : Int)], stepE (endsUp r i) (r.getD i 0), stepE (endsUp r i) (r.getD i 0) + 1, rfl, rfl, rfl, rfl, e3, upd_same, npb,
            by rw [vN_len]; exact sl, by omega, Nat.le_of_lt (small_of (by rw [vN_len]; show (endsUp r i).length + 1 ≤ 100000; omega)), ?_⟩
          refine ⟨_, _, rfl, fun c o e => ?_, ?_, ?_⟩
          · rw [upd_ne (ne_of_none e np)]
            exact s3 _ _ (s2 _ _ (sm _ _ e))
          · rw [upd_same]
            show _ = some (HO.lst (vN (nextE (endsUp r i) (r.getD i 0))))
            unfold nextE vN zz
            rw [gn, List.map_append, List.map_append, List.map_append, List.map_append, List.map_take, List.map_drop, List.map_take, List.map_drop]
            rfl
          · rw [goesE_succ, hg, decide_eq_true c']
            rfl
    · obtain ⟨x3, x4, rfl, sm, ep, hg⟩ := hp
      rw [vN_len] at hg
      rw [hg] at q
      exact q _ sm
def sp_is_kept : Sp := fun vs H Q _ => ∃ (a : Addr) (r : List Nat) (d : Nat), vs = [.ref a, .int (d : Int)] ∧ SqV H a (vN r) ∧ IsW r ∧ 1 ≤ d ∧ ∀ H', Same H H' → Q (.bl (keptN r d)) H'
theorem ok_is_kept (T : Txt K mg) : FnOk P w K mg base CX0 5 T.a_is_kept T.fd_is_kept ["row", "size"] sp_is_kept := by
  refine T.F_is_kept.ok sc_is_kept (fun vs H Q E h => ?_) (fun cdv A outer s H vs Q E hr h => ?_)
  · obtain ⟨a, r, d, rfl, _⟩ := h
    rfl
  · obtain ⟨a, r, d, rfl, ha, hw, hd, q⟩ := h
    refine ⟨_, (pss_cons (ps_set (i := 2) sc_is_kept.nd rfl (.inl rfl) (pe_call (ok_need_wiring T) (hr.mono (by decide)) (by rfl) T.g_need_wiring T.F_need_wiring.kp T.b_need_wiring .nil
    pass0 (pa_cons (pv 0) (pa_cons pe_str pa_nil)))) (pss_cons (ps_expr (pe_call (ok_need_size T) (hr.mono (by decide)) (by rfl) T.g_need_size T.F_need_size.kp
    T.b_need_size .nil pass0 (pa_cons (pv 1) pa_nil))) (pss_one (ps_ret (pe_call (ok_kept_at T) (hr.mono (by decide)) (by rfl) T.g_kept_at T.F_kept_at.kp T.b_kept_at .nil
    pass0 (pa_cons (pv 2) (pa_cons (pv 1) pa_nil))))))), ?_⟩
    refine ⟨_, rfl, a, _, r, rfl, ha, hw, fun H1 p1 s1 e1 _ => ?_⟩
    refine ⟨_, rfl, (d : Int), rfl, by omega, ?_⟩
    refine ⟨_, rfl, _, rfl, p1, r, d, rfl, e1, hw, fun H2 s2 => q _ (s1.trans s2)⟩
end
end My

namespace My
/-! the earliest, bottom by bottom -/
def cand (b found : List Nat) (v i : Nat) : List Nat := (List.range i).filter fun p => decide (b.getD p 0 = v) && !found.contains p
def earUp (t b : List Nat) : Nat → List Nat
  | 0 => []
  | k + 1 => earUp t b k ++ [(cand b (earUp t b k) (t.getD k 0) b.length).getD 0 0]
def earliest (t b : List Nat) : List Nat := earUp t b t.length
theorem earUp_len (t b : List Nat) : ∀ k, (earUp t b k).length = k
  | 0 => rfl
  | k + 1 => by
    show (earUp t b k ++ [_]).length = k + 1
    rw [List.length_append, earUp_len t b k]
    rfl
theorem mem_cand {b found : List Nat} {v i p : Nat} : p ∈ cand b found v i ↔ p < i ∧ b.getD p 0 = v ∧ p ∉ found := by
  unfold cand
  rw [List.mem_filter, List.mem_range, Bool.and_eq_true, decide_eq_true_eq]
  simp
theorem cand_least {b found : List Nat} {v i p : Nat} (h : p ∈ cand b found v i) : (cand b found v i).getD 0 0 ≤ p ∧ (cand b found v i).getD 0 0 ∈ cand b found v i := by
  have up : (cand b found v i).Pairwise (· < ·) := List.Pairwise.filter _ List.pairwise_lt_range
  cases e : cand b found v i with
  | nil =>
    rw [e] at h
    cases h
  | cons a l =>
    rw [e] at h up
    refine ⟨?_, List.mem_cons_self⟩
    show a ≤ p
    rcases List.mem_cons.mp h with h | h
    · exact Nat.le_of_eq h.symm
    · exact Nat.le_of_lt ((List.pairwise_cons.mp up).1 p h)
theorem earUp_ok {t b : List Nat} {n : Nat} (hn : b.length = n) (ht : t.length = n) (hp : t.Perm b) : ∀ k, k ≤ n → earUp t b k ∈ allUp n k ∧ leadsUp t b (earUp t b k) k = true
  | 0, _ => ⟨List.mem_singleton.mpr rfl, rfl⟩
  | k + 1, h => by
    obtain ⟨h1, h2⟩ := earUp_ok hn ht hp k (by omega)
    have w := ways hn ht hp h1 (by omega) h2
    have ne : ∃ e, e ∈ (nexts n (earUp t b k)).filter fun e => leadsUp t b e (k + 1) := by
      cases q : (nexts n (earUp t b k)).filter fun e => leadsUp t b e (k + 1) with
      | nil =>
        rw [q] at w
        simp at w
        omega
      | cons e l => exact ⟨e, List.mem_cons_self⟩
    obtain ⟨e, he⟩ := ne
    rw [List.mem_filter] at he
    obtain ⟨x, x1, x2, rfl⟩ := mem_nexts.mp he.1
    have l1 := (mem_allUp.mp h1).1
    have q := he.2
    rw [leadsUp_snoc l1, h2, Bool.true_and, decide_eq_true_eq] at q
    have xm : x ∈ cand b (earUp t b k) (t.getD k 0) b.length := mem_cand.mpr ⟨by omega, q, x2⟩
    obtain ⟨_, m⟩ := cand_least xm
    obtain ⟨m1, m2, m3⟩ := mem_cand.mp m
    constructor
    · show earUp t b k ++ [_] ∈ (allUp n k).flatMap (nexts n)
      exact List.mem_flatMap.mpr ⟨_, h1, mem_nexts.mpr ⟨_, by omega, m3, rfl⟩⟩
    · show leadsUp t b (earUp t b k ++ [_]) (k + 1) = true
      rw [leadsUp_snoc l1, h2, Bool.true_and, decide_eq_true m2]
theorem earUp_take (t b : List Nat) : ∀ m k, k ≤ m → (earUp t b m).take k = earUp t b k
  | 0, k, h => by
    have : k = 0 := by omega
    subst this
    rfl
  | m + 1, k, h => by
    by_cases e : k = m + 1
    · subst e
      exact List.take_of_length_le (by rw [earUp_len]; exact Nat.le_refl _)
    · show (earUp t b m ++ [_]).take k = _
      rw [List.take_append_of_le_length (by rw [earUp_len]; omega)]
      exact earUp_take t b m k (by omega)
theorem earUp_get (t b : List Nat) {m k : Nat} (h : k < m) : (earUp t b m).getD k 0 = (cand b (earUp t b k) (t.getD k 0) b.length).getD 0 0 := by
  have e := earUp_take t b m (k + 1) h
  have g : (earUp t b m).getD k 0 = ((earUp t b m).take (k + 1)).getD k 0 := by
    rw [List.getD_eq_getElem?_getD, List.getD_eq_getElem?_getD, List.getElem?_take_of_lt (Nat.lt_succ_self k)]
  rw [g, e]
  show (earUp t b k ++ [_]).getD k 0 = _
  rw [List.getD_eq_getElem?_getD, List.getElem?_append_right (by rw [earUp_len]; exact Nat.le_refl _), earUp_len, Nat.sub_self]
  rfl
section
variable {r t : List Nat}
theorem ear_in (hw : IsW r) (ht : t.length = r.length) : IsW (earliest t (ledTo r t)) ∧ (earliest t (ledTo r t)).length = r.length ∧ leads (earliest t (ledTo r t)) t (ledTo r t) = true := by
  have h := earUp_ok (n := r.length) (ledTo_len r t) ht (led_perm hw ht) r.length (Nat.le_refl _)
  have e : earliest t (ledTo r t) = earUp t (ledTo r t) r.length := by
    unfold earliest
    rw [ht]
  rw [e]
  obtain ⟨w, l⟩ := (mem_allW hw.2.1 hw.2.2).mp h.1
  refine ⟨w, l, ?_⟩
  have := h.2
  unfold leads
  rw [l]
  exact this
theorem ear_led (hw : IsW r) (ht : t.length = r.length) : ledTo (earliest t (ledTo r t)) t = ledTo r t := by
  obtain ⟨w, l, h⟩ := ear_in hw ht
  exact (led_leads w (by omega) (by rw [ledTo_len]; omega)).mp h
theorem ear_get (hw : IsW r) (ht : t.length = r.length) {k : Nat} (hk : k < r.length) :
    (earliest t (ledTo r t)).getD k 0 = (cand (ledTo r t) ((earliest t (ledTo r t)).take k) (t.getD k 0) r.length).getD 0 0 := by
  unfold earliest
  rw [earUp_get t _ (by omega : k < t.length), earUp_take _ _ _ _ (by omega), ledTo_len]
/-- any other one that leads the same is later where they part -/
theorem ear_le (hw : IsW r) (ht : t.length = r.length) {e : List Nat} (we : IsW e) (le : e.length = r.length) (he : leads e t (ledTo r t) = true) {k : Nat} (hk : k < r.length)
    (same : (earliest t (ledTo r t)).take k = e.take k) : (earliest t (ledTo r t)).getD k 0 ≤ e.getD k 0 := by
  rw [ear_get hw ht hk]
  refine (cand_least (mem_cand.mpr ⟨?_, ?_, ?_⟩)).1
  · rw [← le]
    exact we.lt (get_getD (by omega))
  · exact leads_iff.mp he k (by omega)
  · rw [same]
    intro z
    obtain ⟨i, hi, q⟩ := mem_getD z
    rw [List.length_take] at hi
    have q2 : e.getD i 0 = e.getD k 0 := by
      rw [← q, List.getD_eq_getElem?_getD, List.getD_eq_getElem?_getD, List.getElem?_take_of_lt (by omega)]
    have hi' : i < e.length := by omega
    have hk' : k < e.length := by omega
    rw [getD_some (List.getElem?_eq_getElem hi'), getD_some (List.getElem?_eq_getElem hk')] at q2
    have := (List.getElem_inj (h₀ := hi') (h₁ := hk') we.nodup).mp q2
    omega
theorem ear_rise (hw : IsW r) (ht : t.length = r.length) {i j : Nat} (hij : i < j) (hj : j < r.length) (e : t.getD i 0 = t.getD j 0) :
    (earliest t (ledTo r t)).getD i 0 < (earliest t (ledTo r t)).getD j 0 := by
  obtain ⟨w, l, h⟩ := ear_in hw ht
  have hlead := leads_iff.mp h
  have hi' : i < (earliest t (ledTo r t)).length := by omega
  have hj' : j < (earliest t (ledTo r t)).length := by omega
  have ne : (earliest t (ledTo r t)).getD i 0 ≠ (earliest t (ledTo r t)).getD j 0 := by
    intro z
    rw [getD_some (List.getElem?_eq_getElem hi'), getD_some (List.getElem?_eq_getElem hj')] at z
    have := (List.getElem_inj (h₀ := hi') (h₁ := hj') w.nodup).mp z
    omega
  have le : (earliest t (ledTo r t)).getD i 0 ≤ (earliest t (ledTo r t)).getD j 0 := by
    rw [ear_get hw ht (by omega : i < r.length)]
    refine (cand_least (mem_cand.mpr ⟨?_, ?_, ?_⟩)).1
    · rw [← l]
      exact w.lt (get_getD hj')
    · rw [hlead j (by omega), e]
    · intro z
      obtain ⟨x, hx, q⟩ := mem_getD z
      rw [List.length_take] at hx
      have q2 : (earliest t (ledTo r t)).getD x 0 = (earliest t (ledTo r t)).getD j 0 := by
        rw [← q, List.getD_eq_getElem?_getD, List.getD_eq_getElem?_getD (l := (earliest t (ledTo r t)).take i), List.getElem?_take_of_lt (by omega)]
      have hx' : x < (earliest t (ledTo r t)).length := by omega
      rw [getD_some (List.getElem?_eq_getElem hx'), getD_some (List.getElem?_eq_getElem hj')] at q2
      have := (List.getElem_inj (h₀ := hx') (h₁ := hj') w.nodup).mp q2
      omega
  omega
end
/-! kept, by numbers that rise -/
theorem foldl_max_mem : ∀ (l : List Nat) (a : Nat), l.foldl max a = a ∨ l.foldl max a ∈ l
  | [], a => .inl rfl
  | x :: l, a => by
    rw [List.foldl_cons]
    rcases foldl_max_mem l (max a x) with h | h
    · rw [h]
      by_cases c : a ≤ x
      · exact .inr (by rw [Nat.max_eq_right c]; exact List.mem_cons_self)
      · exact .inl (Nat.max_eq_left (by omega))
    · exact .inr (List.mem_cons_of_mem _ h)
theorem mxN_mem (l : List Nat) : mxN l = 0 ∨ mxN l ∈ l := foldl_max_mem l 0
theorem mxN_lt {l : List Nat} {d : Nat} (h0 : 0 < d) (h : ∀ x ∈ l, x < d) : mxN l < d := by
  rcases mxN_mem l with e | e
  · rw [e]
    exact h0
  · exact h _ e
theorem foldl_max_ge : ∀ (l : List Nat) (a : Nat), a ≤ l.foldl max a ∧ ∀ x ∈ l, x ≤ l.foldl max a
  | [], a => ⟨Nat.le_refl _, fun x h => nomatch h⟩
  | y :: l, a => by
    rw [List.foldl_cons]
    obtain ⟨h1, h2⟩ := foldl_max_ge l (max a y)
    refine ⟨Nat.le_trans (Nat.le_max_left a y) h1, fun x hx => ?_⟩
    rcases List.mem_cons.mp hx with rfl | hx
    · exact Nat.le_trans (Nat.le_max_right a x) h1
    · exact h2 x hx
theorem mxN_ge {l : List Nat} {x : Nat} (h : x ∈ l) : x ≤ mxN l := (foldl_max_ge l 0).2 x h
theorem colUp_get (r : List Nat) : ∀ (k i : Nat), i < k → (colUp r k).getD i 0 = mxN (col1 r (colUp r i) i)
  | 0, i, h => absurd h (Nat.not_lt_zero _)
  | k + 1, i, h => by
    show (colUp r k ++ [_]).getD i 0 = _
    by_cases e : i = k
    · subst e
      rw [List.getD_eq_getElem?_getD, List.getElem?_append_right (by rw [colUp_len]; exact Nat.le_refl _), colUp_len, Nat.sub_self]
      rfl
    · rw [List.getD_eq_getElem?_getD, List.getElem?_append_left (by rw [colUp_len]; omega), ← List.getD_eq_getElem?_getD]
      exact colUp_get r k i (by omega)
/-- a fall that ends at top i, of one top more than its colour -/
theorem has_fall (r : List Nat) : ∀ (n i : Nat), i ≤ n → ∃ L : List Nat, L.length = mxN (col1 r (colUp r i) i) + 1 ∧ (∀ x ∈ L, x ≤ i ∧ r.getD i 0 ≤ r.getD x 0) ∧
    L.Pairwise (fun a b => b < a ∧ r.getD a 0 < r.getD b 0) := by
  intro n
  induction n with
  | zero =>
    intro i hi
    have : i = 0 := by omega
    subst this
    exact ⟨[0], rfl, fun x hx => by rw [List.mem_singleton.mp hx]; exact ⟨Nat.le_refl _, Nat.le_refl _⟩, List.pairwise_singleton _ _⟩
  | succ n ih =>
    intro i hi
    rcases mxN_mem (col1 r (colUp r i) i) with e | e
    · rw [e]
      exact ⟨[i], rfl, fun x hx => by rw [List.mem_singleton.mp hx]; exact ⟨Nat.le_refl _, Nat.le_refl _⟩, List.pairwise_singleton _ _⟩
    · unfold col1 at e
      obtain ⟨o, ho, eo⟩ := List.mem_map.mp e
      rw [List.mem_filter, List.mem_range, decide_eq_true_eq] at ho
      obtain ⟨L, l1, l2, l3⟩ := ih o (by omega)
      rw [colUp_get r i o ho.1] at eo
      refine ⟨i :: L, ?_, fun x hx => ?_, ?_⟩
      · rw [List.length_cons, l1]
        unfold col1
        rw [← eo]
        rfl
      · rcases List.mem_cons.mp hx with rfl | hx
        · exact ⟨Nat.le_refl _, Nat.le_refl _⟩
        · obtain ⟨a, b⟩ := l2 x hx
          exact ⟨by omega, by omega⟩
      · refine List.pairwise_cons.mpr ⟨fun x hx => ?_, l3⟩
        obtain ⟨a, b⟩ := l2 x hx
        exact ⟨by omega, by omega⟩
theorem nodup_small {l : List Nat} {d : Nat} (nd : l.Nodup) (h : ∀ x ∈ l, x < d) : l.length ≤ d := by
  have p : l.Perm ((List.range d).filter fun x => l.contains x) := by
    rw [List.perm_ext_iff_of_nodup nd (nodup_filter List.nodup_range)]
    intro x
    rw [List.mem_filter, List.mem_range]
    constructor
    · intro hx
      exact ⟨h x hx, by simpa using hx⟩
    · rintro ⟨_, hx⟩
      simpa using hx
  rw [p.length_eq]
  have := List.length_filter_le (fun x => l.contains x) (List.range d)
  rw [List.length_range] at this
  exact this
theorem kept_rise {r t : List Nat} {d : Nat} (ht : t.length = r.length) (h0 : 0 < d) (hd : ∀ x ∈ t, x < d)
    (up : ∀ i j, i < j → j < r.length → t.getD i 0 = t.getD j 0 → r.getD i 0 < r.getD j 0) : mxN (coloursOf r) < d := by
  refine mxN_lt h0 fun c hc => ?_
  obtain ⟨i, hi, e⟩ := mem_getD hc
  rw [coloursOf_len] at hi
  have e2 : mxN (col1 r (colUp r i) i) = c := by
    rw [← e]
    exact (colUp_get r r.length i hi).symm
  obtain ⟨L, l1, l2, l3⟩ := has_fall r i i (Nat.le_refl _)
  rw [e2] at l1
  have nd : (L.map fun x => t.getD x 0).Nodup := by
    rw [List.nodup_iff_pairwise_ne, List.pairwise_map]
    refine List.Pairwise.imp_of_mem (fun {a b} ha hb h z => ?_) l3
    have la := (l2 a ha).1
    have := up b a h.1 (by omega) z.symm
    omega
  have := nodup_small nd fun x hx => by
    obtain ⟨y, hy, rfl⟩ := List.mem_map.mp hx
    have ly := (l2 y hy).1
    exact hd _ (List.mem_of_getElem? (get_getD (by omega : y < t.length)))
  rw [List.length_map, l1] at this
  omega
theorem ear_kept {r t : List Nat} {d : Nat} (hw : IsW r) (ht : t.length = r.length) (h0 : 0 < d) (hd : ∀ x ∈ t, x < d) : mxN (coloursOf (earliest t (ledTo r t))) < d := by
  obtain ⟨w, l, h⟩ := ear_in hw ht
  exact kept_rise (by omega) h0 hd fun i j hij hj e => ear_rise hw ht hij (by omega) e
theorem ear_all : ∀ n, n < 7 → ((allW n).all fun r => decide (earliest (coloursOf r) (ledTo r (coloursOf r)) = r) && decide (mxN (coloursOf r) < 6)) = true := by decide +kernel
theorem ear_own {r : List Nat} (hw : IsW r) : earliest (coloursOf r) (ledTo r (coloursOf r)) = r := by
  have h := ear_all r.length (by have := hw.2.2; omega)
  rw [List.all_eq_true] at h
  have := h r ((mem_allW hw.2.1 hw.2.2).mpr ⟨hw, rfl⟩)
  rw [Bool.and_eq_true] at this
  exact of_decide_eq_true this.1
theorem kept_six {r : List Nat} (hw : IsW r) : mxN (coloursOf r) < 6 := by
  have h := ear_all r.length (by have := hw.2.2; omega)
  rw [List.all_eq_true] at h
  have := h r ((mem_allW hw.2.1 hw.2.2).mpr ⟨hw, rfl⟩)
  rw [Bool.and_eq_true] at this
  exact of_decide_eq_true this.2
/-! settings of a size -/
def setNext (d : Nat) (s : List Nat) : List (List Nat) := (List.range d).map fun x => s ++ [x]
def setUp (d : Nat) : Nat → List (List Nat)
  | 0 => [[]]
  | k + 1 => (setUp d k).flatMap (setNext d)
theorem mem_setUp {d : Nat} : ∀ {k : Nat} {s : List Nat}, s ∈ setUp d k ↔ s.length = k ∧ ∀ x ∈ s, x < d
  | 0, s => by
    show s ∈ [[]] ↔ _
    rw [List.mem_singleton]
    constructor
    · rintro rfl
      exact ⟨rfl, fun x h => nomatch h⟩
    · rintro ⟨h, _⟩
      exact List.eq_nil_of_length_eq_zero h
  | k + 1, s => by
    show s ∈ (setUp d k).flatMap (setNext d) ↔ _
    rw [List.mem_flatMap]
    constructor
    · rintro ⟨q, hq, hs⟩
      obtain ⟨h1, h2⟩ := mem_setUp.mp hq
      obtain ⟨x, hx, rfl⟩ := List.mem_map.mp hs
      refine ⟨by rw [List.length_append, h1]; rfl, fun y hy => ?_⟩
      rcases List.mem_append.mp hy with hy | hy
      · exact h2 y hy
      · rw [List.mem_singleton.mp hy]
        exact List.mem_range.mp hx
    · rintro ⟨h1, h2⟩
      have ne : s ≠ [] := by
        intro z
        rw [z] at h1
        cases h1
      have e1 : s.dropLast ++ [s.getLast ne] = s := List.dropLast_concat_getLast ne
      refine ⟨s.dropLast, mem_setUp.mpr ⟨by rw [List.length_dropLast, h1]; rfl, fun x hx => h2 x (List.dropLast_subset _ hx)⟩, ?_⟩
      exact List.mem_map.mpr ⟨s.getLast ne, List.mem_range.mpr (h2 _ (List.getLast_mem ne)), e1⟩
/-- kept exactly if it is the earliest for some setting -/
theorem kept_some {r : List Nat} {d : Nat} (hw : IsW r) (h0 : 0 < d) : decide (mxN (coloursOf r) < d) = decide (((setUp d r.length).filter fun s => decide (earliest s (ledTo r s) = r)) ≠ []) := by
  rw [Bool.eq_iff_iff, decide_eq_true_eq, decide_eq_true_eq]
  constructor
  · intro h z
    rw [List.filter_eq_nil_iff] at z
    refine z (coloursOf r) (mem_setUp.mpr ⟨coloursOf_len r, fun x hx => Nat.lt_of_le_of_lt (mxN_ge hx) h⟩) (decide_eq_true (ear_own hw))
  · intro h
    cases q : (setUp d r.length).filter fun s => decide (earliest s (ledTo r s) = r) with
    | nil => exact absurd q h
    | cons s l =>
      have hs : s ∈ (setUp d r.length).filter fun s => decide (earliest s (ledTo r s) = r) := by
        rw [q]
        exact List.mem_cons_self
      rw [List.mem_filter, decide_eq_true_eq] at hs
      obtain ⟨l1, l2⟩ := mem_setUp.mp hs.1
      have := ear_kept hw l1 h0 l2
      rw [hs.2] at this
      exact this
/-! led, by where each bottom's wire starts -/
def ledL (r t : List Nat) : List Nat := (List.range r.length).map fun x => t.getD (r.idxOf x) 0
theorem ledL_eq {r t : List Nat} (hw : IsW r) (ht : t.length = r.length) : ledL r t = ledTo r t := by
  refine List.ext_getElem? fun j => ?_
  unfold ledL
  rw [List.getElem?_map]
  by_cases hj : j < r.length
  · have hm : j ∈ r := hw.1.mem_iff.mpr (List.mem_range.mpr hj)
    have hi := List.idxOf_lt_length_iff.mpr hm
    have g := ledTo_get hw ht hi
    have q : r.getD (r.idxOf j) 0 = j := by
      rw [getD_some (List.getElem?_eq_getElem hi)]
      exact List.getElem_idxOf hi
    rw [q] at g
    rw [List.getElem?_range hj, g]
    rfl
  · rw [List.getElem?_eq_none (by rw [List.length_range]; omega), List.getElem?_eq_none (by rw [ledTo_len]; omega)]
    rfl
/-! order -/
theorem lex_less : ∀ (xs ys : List Nat), xs.length = ys.length → (∀ k, k < xs.length → xs.take k = ys.take k → xs.getD k 0 ≤ ys.getD k 0) → xs ≠ ys →
    HT.lexLt (xs.map fun n : Nat => (n : Int)) (ys.map fun n : Nat => (n : Int)) = true
  | [], [], _, _, h => absurd rfl h
  | [], _ :: _, h, _, _ => by simp at h
  | _ :: _, [], h, _, _ => by simp at h
  | x :: xs, y :: ys, hl, hk, hne => by
    have h0 : x ≤ y := hk 0 (Nat.zero_lt_succ _) rfl
    rw [List.map_cons, List.map_cons, HT.lexLt_cons]
    by_cases e : x = y
    · subst e
      rw [if_pos rfl]
      refine lex_less xs ys (by simpa using hl) (fun k hk1 hk2 => ?_) (fun z => hne (by rw [z]))
      exact hk (k + 1) (by simpa using hk1) (by rw [List.take_succ_cons, List.take_succ_cons, hk2])
    · rw [if_neg (by omega)]
      exact decide_eq_true (by omega)
theorem lexAt_no {e r : Nat → Bool} : ∀ (k i : Nat), (∀ j, i ≤ j → j < i + k → (∀ m, i ≤ m → m < j → e m = true) → r j = false) → Ob.lexAt e r false i k = false
  | 0, i, _ => rfl
  | k + 1, i, h => by
    rw [Ob.lexAt_succ]
    by_cases c : e i = true
    · rw [if_pos c]
      refine lexAt_no k (i + 1) fun j h1 h2 h3 => ?_
      refine h j (by omega) (by omega) fun m m1 m2 => ?_
      by_cases z : m = i
      · rw [z]
        exact c
      · exact h3 m (by omega) m2
    · rw [if_neg c]
      exact h i (Nat.le_refl _) (by omega) fun m m1 m2 => absurd m2 (by omega)
end My

namespace My
open PySem PySem.Spec PyProof.Rows L2
section
variable {P : Program} {w : World} {K : PySem.W.Frag} {mg : Str → Option Value} {base : Heap}
theorem ok_l_cup (T : Txt K mg) : FnOk P w K mg base CX0 1 T.a_l_cup T.fd_l_cup ["_law_script"] (sp_cup K) := by
  refine T.F_l_cup.ok sc_l_cup (fun vs H Q E h => ?_) (fun cdv A outer s0 H vs Q E hr h => ?_)
  · obtain ⟨a, ns, rfl, _⟩ := h
    rfl
  · obtain ⟨a, ns, rfl, hS, hl, q⟩ := h
    refine ⟨_, (pss_one (ps_ret (pe_lst (pa_cons (pe_lc (own := [("_law_cell", 1)]) (g := gName 1) (by rfl) sc_l_cup.nd (pi_list (pe_slice sl_list (pv 0) po_none (po_some pe_int)))
    (blkOk_by (N := ["_law_script", "_law_cell"]) (sc := defScope s_l_cup) (own := [("_law_cell", 1)]) (by decide +kernel)) (fun _ _ _ _ _ => pg_name (i := 1) sc_l_cup.nd
    rfl (Or.inl rfl)) (fun _ _ _ _ _ => pts_nil) (fun _ _ _ _ _ => (pe_callTy call_int1 (by rfl) T.z_int (by decide +kernel) (pa_cons (pv 1) pa_nil)))) (pa_cons pe_int
    (pa_cons pe_int pa_nil)))))), ?_⟩
    refine ⟨_, rfl, _, rfl, a, _, rfl, hS, fun p np => ?_⟩
    obtain ⟨ms, em, lm⟩ := cut_ints ns none (some 62)
    rw [em]
    have s1 := same_new (o := .lst (ms.map V.int)) np
    refine ⟨p, rfl, ⟨_, seqL upd_same⟩, ?_⟩
    refine lcL (xs := ms.map V.int) upd_same (fun i => (ms.take i).map V.int) rfl
      (fun i hi => small_of (by rw [List.length_map, List.length_take]; omega)) (fun i x H Kt Kf hx s kt kf => ?_) (fun D H2 s2 nD e => ?_)
    · rw [List.getElem?_map] at hx
      obtain ⟨z, hz, rfl⟩ := Option.map_eq_some_iff.mp hx
      refine ⟨rfl, tyes ?_⟩
      refine iteT ⟨_, rfl, .inl ⟨z, rfl, kt _ _ (Same.refl _) ?_⟩⟩
      rw [List.take_add_one, hz, List.map_append]
      rfl
    · rw [List.length_map, List.take_length] at e
      refine ⟨by show 3 ≤ sizeLine; decide, fun z nz => ?_⟩
      exact q _ z D ms (s1.trans (s2.trans (same_new nz))) ⟨0, 0, upd_same, same_new nz _ _ e, by omega, by omega, by omega⟩
def sp_scoop : Sp := fun vs H Q _ => ∃ (q c : Addr) (cells : List Int) (m k : Nat), vs = [.ref q, .int (m : Int)] ∧ QA H q c cells k ∧ k ≤ 10000 ∧ 1 ≤ m ∧ m ≤ 100000 ∧
  ∀ (H' : Hp) (j : Nat), j < m → Mv q H H' → QA H' q c cells (k + 1) → Q (.int (j : Int)) H'
theorem ok_l_scoop (T : Txt K mg) : FnOk P w K mg base CX0 1 T.a_l_scoop T.fd_l_scoop ["_law_cup_here", "_law_many"] sp_scoop := by
  refine T.F_l_scoop.ok sc_l_scoop (fun vs H Q E h => ?_) (fun cdv A outer s0 H vs Q E hr h => ?_)
  · obtain ⟨q, c, cells, m, k, rfl, _⟩ := h
    rfl
  · obtain ⟨q, c, cells, m, k, rfl, hq, hk, m1, m2, want⟩ := h
    obtain ⟨turn, rest, eq, ec, t0, t1, r0⟩ := hq
    have mpos : (0 : Int) < (m : Int) := by omega
    have ncq : c ≠ q := fun e => by
      rw [e, eq] at ec
      have := HO.lst.inj (Option.some.inj ec)
      cases cells with
      | nil => cases this
      | cons x r => injection this with z _; cases z
    refine ⟨_, (pss_cons (ps_if (pt_cmpR op_gt (pe_ix ix_list (pv 0) pe_int (fun _ _ => rfl)) pe_int (nomark _)) (pss_cons (ps_set (i := 2) sc_l_scoop.nd rfl (.inl rfl) (pe_ix ix_list
    (pv 0) pe_int (fun _ _ => rfl))) (pss_cons (ps_asg (pe_op op_fdivW (pe_callTy call_int1 (by rfl) T.z_int (by decide +kernel) (pa_cons (pv 2) pa_nil)) (pv 1)) (pg_sub
    (pv 0) pe_int set_list)) (pss_one (ps_ret (pe_op op_mod (pe_callTy call_int1 (by rfl) T.z_int (by decide +kernel) (pa_cons (pv 2) pa_nil)) (pv 1)))))) pss_nil)
    (pss_cons (ps_set (i := 3) sc_l_scoop.nd rfl (.inl rfl) (pe_ix ix_list (pv 0) pe_int (fun _ _ => rfl))) (pss_cons (ps_asg (pe_op op_add (pv 3) pe_int) (pg_sub (pv 0)
    pe_int set_list)) (pss_cons (ps_set (i := 4) sc_l_scoop.nd rfl (.inl rfl) (pe_op op_add (pe_op op_mul pe_int (pv 3)) pe_int)) (C8.pss_cut (ps_if (pt_cmpR (op_neD
    hr.units) (pe_ix ix_list (pv 0) pe_int (fun _ _ => rfl)) (pe_lst pa_nil) (nomark _)) (pss_one (ps_set (i := 4) sc_l_scoop.nd rfl (.inl rfl) (pe_ix ix_list (pe_ix
    ix_list (pv 0) pe_int (fun _ _ => rfl)) (pe_op op_mod (pe_callTy call_int1 (by rfl) T.z_int (by decide +kernel) (pa_cons (pv 3) pa_nil)) (pe_callB call_len_seq
    (by rfl) T.z_len PySem.boot_len (pa_cons (pe_ix ix_list (pv 0) pe_int (fun _ _ => rfl)) pa_nil))) (fun _ _ => rfl)))) pss_nil) (C8.pss_cut (ps_if (PW.pt (pw_and
    (pt_cmpR op_lt (pv 3) (pe_callB call_len_seq (by rfl) T.z_len PySem.boot_len (pa_cons (pe_ix ix_list (pv 0) pe_int (fun _ _ => rfl)) pa_nil)) (nomark _)) (pw_and1
    (pt_cmpR op_ge (pe_callB call_abs (by rfl) T.z_abs (by decide +kernel) (pa_cons (pv 4) pa_nil)) (pe_op op_pow pe_int pe_int) (nomark _))))) (pss_cons (ps_set (i := 2)
    sc_l_scoop.nd rfl (.inl rfl) (pe_op op_add (pe_op op_mul pe_int (pe_op op_sub (pe_callB call_abs (by rfl) T.z_abs (by decide +kernel) (pa_cons (pv 4) pa_nil)) (pe_op
    op_pow pe_int pe_int))) (pe_callTy call_int1 (by rfl) T.z_int (by decide +kernel) (pa_cons (pe_cmpR op_lt (pv 4) pe_int (nomark _)) pa_nil)))) (pss_cons (ps_asg
    (pe_op op_fdivW (pe_callTy call_int1 (by rfl) T.z_int (by decide +kernel) (pa_cons (pv 2) pa_nil)) (pv 1)) (pg_sub (pv 0) pe_int set_list)) (pss_one (ps_ret (pe_op
    op_mod (pe_callTy call_int1 (by rfl) T.z_int (by decide +kernel) (pa_cons (pv 2) pa_nil)) (pv 1)))))) pss_nil) (pss_cons (ps_set (i := 5) sc_l_scoop.nd rfl (.inl rfl)
    (pe_op op_mod (pe_callTy call_int1 (by rfl) T.z_int (by decide +kernel) (pa_cons (pe_op op_pow (pe_op op_add (pe_op op_add (pe_op op_mod (pe_callTy call_int1 (by rfl)
    T.z_int (by decide +kernel) (pa_cons (pv 4) pa_nil)) pe_int) (pe_op op_mul pe_int (pv 3))) pe_int) pe_int) pa_nil)) pe_int)) (pss_cons (ps_set (i := 5) sc_l_scoop.nd
    rfl (.inl rfl) (pe_op op_mod (pe_callTy call_int1 (by rfl) T.z_int (by decide +kernel) (pa_cons (pe_op op_pow (pe_op op_add (pe_op op_add (pe_op op_mul (pv 5) (pe_op
    op_add (pe_op op_mul pe_int (pv 3)) pe_int)) (pe_op op_mul (pe_op op_mul pe_int (pv 3)) (pv 3))) pe_int) pe_int) pa_nil)) pe_int)) (pss_one (ps_ret (pe_op op_mod
    (pe_callTy call_int1 (by rfl) T.z_int (by decide +kernel) (pa_cons (pe_op op_fdivW (pv 5) pe_int) pa_nil)) (pv 1)))))))))))), ?_⟩
    refine ⟨_, rfl, q, _, 2, .int rest, rfl, rfl, seqL eq, rfl, _, _, rfl, rfl, _, rfl, ?_⟩
    refine ite2 (fun pos => ?_) (fun pos => ?_)
    · -- what is left of a great cell
      refine ⟨_, rfl, q, _, 2, .int rest, rfl, rfl, seqL eq, rfl, ?_⟩
      refine ⟨_, rfl, .inl ⟨_, rfl, _, rfl, _, _, rfl, rfl, divW m1 m2, ?_⟩⟩
      refine ⟨_, rfl, q, _, 2, 2, rfl, rfl, eq, rfl, ?_⟩
      obtain ⟨j, hj, ej⟩ := mod_nat rest m1
      refine ⟨_, rfl, .inl ⟨_, rfl, _, rfl, _, _, rfl, rfl, mpos, ?_⟩⟩
      show Q (.int (rest % (m : Int))) _
      rw [ej]
      refine want _ j hj mv_upd ⟨turn, rest / (m : Int), upd_same, ?_, t0, by omega, Int.ediv_nonneg r0 (by omega)⟩
      rw [upd_ne ncq]
      exact ec
    · refine ⟨_, rfl, q, _, 1, .int turn, rfl, rfl, seqL eq, rfl, ?_⟩
      refine ⟨_, rfl, _, _, rfl, rfl, ?_⟩
      refine ⟨_, rfl, q, _, 1, 1, rfl, rfl, eq, rfl, ?_⟩
      refine ⟨_, rfl, _, _, rfl, rfl, .inl ⟨by decide, by decide⟩, _, _, rfl, rfl, ?_⟩
      -- the heap behind the count
      have eq1 : (upd H q (.lst [.ref c, .int (turn + 1), .int rest])) q = some (.lst [.ref c, .int (turn + 1), .int rest]) := upd_same
      have ec1 : (upd H q (.lst [.ref c, .int (turn + 1), .int rest])) c = some (.lst (cells.map V.int)) := by
        rw [upd_ne ncq]
        exact ec
      have mv1 : Mv q H (upd H q (.lst [.ref c, .int (turn + 1), .int rest])) := mv_upd
      refine ⟨fun σ H' => ∃ (x : Int) (y : Option V), σ = [some (.ref q), some (.int (m : Int)), none, some (.int turn), some (.int x), y] ∧
        Same (upd H q (.lst [.ref c, .int (turn + 1), .int rest])) H', ?_, ?_⟩
      · refine ⟨_, rfl, q, _, 0, .ref c, rfl, rfl, seqL eq1, rfl, Nat.zero_le _, fun l nl => ?_⟩
        have sl := same_new (o := .lst []) nl
        refine ⟨.list (cells.map PyData.int), .list (([] : List Int).map PyData.int), .lst (seqL (sl _ _ ec1)) (dp_ints _), .lst (seqL upd_same) .nil, shaped_lst _, shaped_lst [], _, rfl, ?_⟩
        refine ite2 (fun ne => ?_) (fun _ => ?_)
        · have hne : cells ≠ [] := fun z => by
            subst z
            cases ne
          have hlen : 1 ≤ cells.length := by
            cases cells with
            | nil => exact absurd rfl hne
            | cons x r => exact Nat.le_add_left 1 _
          obtain ⟨j, hj, ej⟩ := mod_nat turn hlen
          refine ⟨_, rfl, q, _, 0, .ref c, rfl, rfl, seqL (sl _ _ eq1), rfl, ?_⟩
          refine ⟨_, rfl, .inl ⟨_, rfl, ?_⟩⟩
          refine ⟨_, rfl, q, _, 0, .ref c, rfl, rfl, seqL (sl _ _ eq1), rfl, c, _, rfl, .inl (seqL (sl _ _ ec1)), ?_⟩
          refine ⟨_, _, rfl, rfl, by rw [List.length_map]; omega, ?_⟩
          have hx : cells[j]? = some (cells[j]'hj) := List.getElem?_eq_getElem hj
          refine ⟨c, _, _, .int (cells[j]'hj), rfl, rfl, seqL (sl _ _ ec1), ?_, ?_⟩
          · rw [List.length_map, ej]
            refine atI_nat ?_
            rw [List.getElem?_map, hx]
            rfl
          · exact ⟨_, none, rfl, sl⟩
        · exact ⟨_, none, rfl, sl⟩
      · rintro σ H' ⟨x, y, rfl, sm⟩
        have eq2 := sm _ _ eq1
        have ec2 := sm _ _ ec1
        have mv2 : Mv q H H' := mv1.trans (Same.mv sm)
        refine ⟨fun σ H'' => ∃ (x : Int) (y : Option V), σ = [some (.ref q), some (.int (m : Int)), none, some (.int turn), some (.int x), y] ∧ H'' = H', ?_, ?_⟩
        · refine ⟨_, rfl, _, rfl, q, _, 0, .ref c, rfl, rfl, seqL eq2, rfl, c, _, rfl, .inl (seqL ec2), _, _, rfl, rfl, _, rfl, ?_⟩
          refine ite2 (fun c1 => ?_) (fun c1 => ?_)
          · refine ⟨_, rfl, _, rfl, _, _, rfl, rfl, ⟨by decide, by decide, by decide⟩, _, _, rfl, rfl, _, rfl, ?_⟩
            refine ite2 (fun c2 => ?_) (fun c2 => ?_)
            · have big : (10 : Int) ^ (Int.toNat 18) ≤ (if x < 0 then -x else x) := of_decide_eq_true c2
              refine ⟨_, rfl, _, rfl, _, _, rfl, rfl, ⟨by decide, by decide, by decide⟩, _, _, rfl, rfl, _, _, rfl, rfl, .inl ⟨by decide, by decide⟩, ?_⟩
              refine ⟨_, rfl, _, _, rfl, rfl, .inr ⟨_, rfl, _, _, rfl, rfl, ?_⟩⟩
              refine ⟨_, rfl, .inl ⟨_, rfl, _, rfl, _, _, rfl, rfl, divW m1 m2, ?_⟩⟩
              refine ⟨_, rfl, q, _, 2, 2, rfl, rfl, eq2, rfl, ?_⟩
              have pos2 : 0 ≤ 2 * ((if x < 0 then -x else x) - 10 ^ (Int.toNat 18)) + (if decide (x < 0) = true then (1 : Int) else 0) := by
                have : (0 : Int) ≤ (if decide (x < 0) = true then (1 : Int) else 0) := by split <;> omega
                omega
              obtain ⟨j, hj, ej⟩ := mod_nat (2 * ((if x < 0 then -x else x) - 10 ^ (Int.toNat 18)) + (if decide (x < 0) = true then (1 : Int) else 0)) m1
              refine ⟨_, rfl, .inl ⟨_, rfl, _, rfl, _, _, rfl, rfl, mpos, ?_⟩⟩
              show Q (.int ((2 * ((if x < 0 then -x else x) - 10 ^ (Int.toNat 18)) + (if decide (x < 0) = true then (1 : Int) else 0)) % (m : Int))) _
              rw [ej]
              refine want _ j hj (mv2.trans mv_upd) ⟨turn + 1, _, upd_same, ?_, by omega, by omega, Int.ediv_nonneg pos2 (by omega)⟩
              rw [upd_ne ncq]
              exact ec2
            · exact ⟨x, y, rfl, rfl⟩
          · exact ⟨x, y, rfl, rfl⟩
        · rintro σ H'' ⟨x, y, rfl, rfl⟩
          have ht : turn ≤ 10000 := by omega
          have a1 := mod_lo x (m := 2147483543) (by decide)
          have a2 := mod_hi x (m := 2147483543) (by decide)
          refine ⟨_, rfl, .inl ⟨_, rfl, _, _, rfl, rfl, pos_c (by decide), _, rfl, _, _, rfl, rfl, .inl ⟨by decide, by decide⟩, _, _, rfl, rfl, _, _, rfl, rfl, ?_⟩⟩
          refine ⟨_, _, rfl, rfl, ⟨by decide, by decide, natAbs_small (by omega) (by omega)⟩, .inl ⟨_, rfl, _, _, rfl, rfl, pos_c (by decide), ?_⟩⟩
          dsimp only
          generalize hM : ((x % 2147483543 + 61469 * turn + 4583) ^ (Int.toNat 5)) % 2147483323 = M
          have b1 : 0 ≤ M := by
            rw [← hM]
            exact mod_lo _ (by decide)
          have b2 : M < 2147483323 := by
            rw [← hM]
            exact mod_hi _ (by decide)
          have d1 : 0 ≤ M * (2 * turn + 2543) := Int.mul_nonneg b1 (by omega)
          have d2 : M * (2 * turn + 2543) ≤ 2147483323 * 22543 := Int.mul_le_mul (by omega) (by omega) (by omega) (by omega)
          have e1 := (turn_sq t0 ht).1
          have e2 := (turn_sq t0 ht).2
          have e3 : 81083 * turn * turn = 81083 * (turn * turn) := Int.mul_assoc _ _ _
          refine ⟨_, rfl, _, rfl, _, _, rfl, rfl, .inl ⟨by decide, by decide⟩, _, _, rfl, rfl, _, _, rfl, rfl, .inl ⟨by omega, by omega⟩, ?_⟩
          refine ⟨_, rfl, _, _, rfl, rfl, .inl ⟨by decide, by decide⟩, _, rfl, _, _, rfl, rfl, .inl ⟨by omega, by omega⟩, _, _, rfl, rfl, _, _, rfl, rfl, ?_⟩
          refine ⟨_, _, rfl, rfl, ⟨by decide, by decide, natAbs_small (by omega) (by omega)⟩, .inl ⟨_, rfl, _, _, rfl, rfl, pos_c (by decide), ?_⟩⟩
          refine ⟨_, rfl, _, _, rfl, rfl, divW (m := 64) (by decide) (by decide), .inl ⟨_, rfl, _, rfl, _, _, rfl, rfl, mpos, ?_⟩⟩
          dsimp only
          generalize hN : (((M * (2 * turn + 2543) + 81083 * turn * turn + 61469) ^ (Int.toNat 3)) % 2147483549 / 64) = N
          obtain ⟨j, hj, ej⟩ := mod_nat N m1
          show Q (.int (N % (m : Int))) _
          rw [ej]
          exact want _ j hj mv2 ⟨turn + 1, rest, eq2, ec2, by omega, by omega, r0⟩
/-! ### a wiring drawn -/
def sp_row : Sp := fun vs H Q _ => ∃ (q c : Addr) (cells : List Int) (n k : Nat), vs = [.ref q, .int (n : Int)] ∧ QA H q c cells k ∧ k ≤ 9000 ∧ 1 ≤ n ∧ n ≤ 6 ∧
  ∀ H' p r, IsW r → r.length = n → Mv q H H' → QA H' q c cells (k + n) → TupN H' p (vN r) → Q (.ref p) H'
theorem ok_l_row (T : Txt K mg) : FnOk P w K mg base CX0 2 T.a_l_row T.fd_l_row ["_law_cup_here", "_law_wires"] sp_row := by
  refine T.F_l_row.ok sc_l_row (fun vs H Q E h => ?_) (fun cdv A outer s0 H vs Q E hr h => ?_)
  · obtain ⟨q, c, cells, n, k, rfl, _⟩ := h
    rfl
  · obtain ⟨q, c, cells, n, k, rfl, hq, hk, n1, n6, want⟩ := h
    refine ⟨_, (pss_cons (ps_par (i := 2) (j := 3) (by rfl) sc_l_row.nd rfl rfl (by decide) rfl rfl (pa_cons (pe_listRg rfl (by rfl) T.z_list (prg_1 (by rfl) T.z_range (pv 1))) (pa_cons
    (pe_lst pa_nil) pa_nil)) (by rfl)) (pss_cons (ps_for PassesOwn.never rfl (pi_range1 (by rfl) T.z_range (pa_cons (pv 1) pa_nil)) (pg_name (i := 4) sc_l_row.nd rfl
    (.inl rfl)) (pss_one (ps_expr (pe_bm PySem.F.plainAttrs_list PySem.F.slot_list_append PySem.F.type_list_append mt_append (pv 3) (pa_cons (pe_bm
    PySem.F.plainAttrs_list PySem.F.slot_list_pop PySem.F.type_list_pop mt_popAt (pv 2) (pa_cons (pe_call (ok_l_scoop T) (hr.mono (by decide)) (by rfl) T.g_l_scoop
    T.F_l_scoop.kp T.b_l_scoop .nil pass0 (pa_cons (pv 0) (pa_cons (pe_callB call_len_seq (by rfl) T.z_len PySem.boot_len (pa_cons (pv 2) pa_nil)) pa_nil))) pa_nil))
    pa_nil))))) (pss_one (ps_ret (pe_callTy call_tupleN (by rfl) T.z_tuple (by decide +kernel) (pa_cons (pv 3) pa_nil)))))), ?_⟩
    refine ⟨_, rfl, _, rfl, RgOk.of_le (by omega) (by omega) (by omega) (by omega), fun l nl => ?_⟩
    rw [rg_vN]
    have s1 := same_new (o := .lst (vN (List.range n))) nl
    refine ⟨Nat.zero_le _, fun f nf => ?_⟩
    have s2 := s1.trans (same_new (o := .lst []) nf)
    have qne : ∀ p, H p = none → p ≠ q := hq.ne
    have cne : ∀ p, H p = none → c ≠ p := hq.cne
    have lf : l ≠ f := fun e => by
      rw [← e, upd_same] at nf
      cases nf
    have nf0 : H f = none := s1.free nf
    refine ⟨_, _, rfl, ?_⟩
    refine ⟨_, rfl, _, rfl, by omega, by omega, ?_⟩
    rw [Int.toNat_natCast]
    refine for_range (lo := 0) (n := n) (fun i σ H' => ∃ (left found : List Nat) (v4 : Option V), σ = [some (.ref q), some (.int (n : Int)), some (.ref l), some (.ref f), v4] ∧
      Mv q H H' ∧ QA H' q c cells (k + i) ∧ H' l = some (.lst (vN left)) ∧ H' f = some (.lst (vN found)) ∧ (found ++ left).Perm (List.range n) ∧ found.length = i)
      ⟨List.range n, [], none, rfl, Same.mv s2, hq.mono s2, ?_, upd_same, .refl _, rfl⟩ (fun i σ H' hi hp => ?_) (fun σ H' hp => ?_)
    · rw [upd_ne lf, upd_same]
    · obtain ⟨left, found, v4, rfl, mv, qa, hl, hf, pm, lf2⟩ := hp
      have lenl : left.length = n - i := by
        have := pm.length_eq
        rw [List.length_append, List.length_range] at this
        omega
      refine ⟨_, rfl, .inl ⟨rfl, _, seqL hf⟩, ?_⟩
      refine ⟨_, rfl, .inl ⟨rfl, _, seqL hl⟩, ?_⟩
      refine ⟨_, rfl, _, rfl, l, _, rfl, .inl (seqL hl), q, c, cells, left.length, k + i, ?_, qa, by omega, by omega, by omega, fun H2 j hj mv2 qa2 => ?_⟩
      · rw [vN_len]
        rfl
      have lq := qne l nl
      have fq := qne f nf0
      have hl2 := mv2 _ _ lq hl
      have hf2 := mv2 _ _ fq hf
      obtain ⟨x, hx⟩ : ∃ x, left[j]? = some x := ⟨_, List.getElem?_eq_getElem hj⟩
      refine ⟨l, _, _, j, .int (x : Int), rfl, rfl, hl2, by omega, by omega, seqIx (by rw [vN_len]; exact hj), vN_get hx, ?_⟩
      refine ⟨f, vN found, _, rfl, rfl, ?_, small_of (by rw [vN_len]; omega), ?_⟩
      · rw [upd_ne (Ne.symm lf)]
        exact hf2
      refine ⟨left.eraseIdx j, found ++ [x], _, rfl, fun b o nb e => ?_, ?_, ?_, ?_, ?_, ?_⟩
      · rw [upd_ne (ne_of_none e nf0), upd_ne (ne_of_none e nl)]
        exact mv2 _ _ nb (mv _ _ nb e)
      · exact (qa2.upd (qne l nl) (cne l nl)).upd (qne f nf0) (cne f nf0)
      · rw [upd_ne lf, upd_same, vN_erase]
      · rw [upd_same, vN_snoc]
      · refine List.Perm.trans ?_ pm
        rw [List.append_assoc]
        exact (erase_perm left j x hx).append_left found
      · rw [List.length_append, lf2]
        rfl
    · obtain ⟨left, found, v4, rfl, mv, qa, hl, hf, pm, lf2⟩ := hp
      have e0 : left = [] := by
        have := pm.length_eq
        rw [List.length_append, List.length_range] at this
        exact List.eq_nil_of_length_eq_zero (by omega)
      subst e0
      rw [List.append_nil] at pm
      refine ⟨_, rfl, f, _, rfl, .inl ⟨seqL hf, fun l o nl do_ => ?_⟩⟩
      refine want _ l found ⟨by rw [lf2]; exact pm, by omega, by omega⟩ lf2 (mv.trans (Same.mv (same_new nl))) (qa.mono (same_new nl)) ⟨o, do_, upd_same⟩
end
end My

namespace My
open PySem PySem.Spec PyProof.Rows L2
/-! ### settings -/
theorem setUp_len (d : Nat) : ∀ k, (setUp d k).length = d ^ k
  | 0 => rfl
  | k + 1 => by
    show ((setUp d k).flatMap (setNext d)).length = _
    rw [List.length_flatMap, Nat.pow_succ, ← setUp_len d k]
    have : ∀ L : List (List Nat), (L.map fun s => (setNext d s).length).sum = L.length * d := by
      intro L
      induction L with
      | nil => simp
      | cons s L ih =>
        rw [List.map_cons, List.sum_cons, ih, List.length_cons, Nat.succ_mul]
        unfold setNext
        rw [List.length_map, List.length_range]
        omega
    exact this _
def setPart (s : List Nat) (i : Nat) : List (List Nat) := (List.range i).map fun x => s ++ [x]
theorem setPart_succ (s : List Nat) (i : Nat) : setPart s (i + 1) = setPart s i ++ [s ++ [i]] := by
  unfold setPart
  rw [List.range_succ, List.map_append]
  rfl
theorem setPart_len (s : List Nat) (i : Nat) : (setPart s i).length = i := by
  unfold setPart
  rw [List.length_map, List.length_range]
theorem rows_upd {H : Hp} {p : Addr} {o : HO} (hp : ∀ a xs, TupAt H a xs → a ≠ p) : ∀ {as : List Addr} {rs : List (List Nat)}, RowsAt H as rs → RowsAt (upd H p o) as rs
  | [], [], h => h
  | a :: as, r :: rs, h => by
    refine ⟨?_, rows_upd hp h.2⟩
    have n := hp _ _ h.1
    rcases h.1 with e | ⟨ob, d, e⟩
    · exact .inl (by rw [upd_ne n]; exact e)
    · exact .inr ⟨ob, d, by rw [upd_ne n]; exact e⟩
  | [], _ :: _, h => h.elim
  | _ :: _, [], h => h.elim
theorem tup_ne {H : Hp} {p a : Addr} {xs ys : List V} (e : H p = some (.lst ys)) (h : TupAt H a xs) : a ≠ p := by
  rintro rfl
  exact lst_tup e h
theorem rows_snocT {H : Hp} {as : List Addr} {rs : List (List Nat)} {a : Addr} {r : List Nat} (h : RowsAt H as rs) (e : TupAt H a (vN r)) : RowsAt H (as ++ [a]) (rs ++ [r]) :=
  RowsAt.app h ⟨e, True.intro⟩
section
variable {P : Program} {w : World} {K : PySem.W.Frag} {mg : Str → Option Value} {base : Heap}
def sp_settings : Sp := fun vs H Q _ => ∃ n d : Nat, vs = [.int (n : Int), .int (d : Int)] ∧ n ≤ 6 ∧ d ≤ 6 ∧ (∀ k, k ≤ n → d ^ k ≤ 300) ∧
  ∀ H' p as, Same H H' → H' p = some (.lst (vA as)) → RowsAt H' as (setUp d n) → Q (.ref p) H'
theorem ok_l_settings (T : Txt K mg) : FnOk P w K mg base CX0 1 T.a_l_settings T.fd_l_settings ["_law_wires", "_law_size"] sp_settings := by
  refine T.F_l_settings.ok sc_l_settings (fun vs H Q E h => ?_) (fun cdv A outer s0 H vs Q E hr h => ?_)
  · obtain ⟨n, d, rfl, _⟩ := h
    rfl
  · obtain ⟨n, d, rfl, n6, d6, small, want⟩ := h
    refine ⟨_, (pss_cons (ps_set (i := 2) sc_l_settings.nd rfl (.inl rfl) (pe_lst (pa_cons (pe_tup pa_nil) pa_nil))) (pss_cons (ps_for PassesOwn.never rfl (pi_range1 (by rfl) T.z_range
    (pa_cons (pv 0) pa_nil)) (pg_name (i := 3) sc_l_settings.nd rfl (.inl rfl)) (pss_cons (ps_set (i := 4) sc_l_settings.nd rfl (.inl rfl) (pe_lst pa_nil)) (pss_cons
    (ps_for PassesOwn.never rfl (pi_list (pv 2)) (pg_name (i := 5) sc_l_settings.nd rfl (.inr rfl)) (pss_one (ps_expr (pe_bm PySem.F.plainAttrs_list
    PySem.F.slot_list_extend PySem.F.type_list_extend mt_extend (pv 4) (pa_cons (pe_lc (own := [("_law_number", 6)]) (g := gName 6) (by rfl) sc_l_settings.nd (pi_range1
    (by rfl) T.z_range (pa_cons (pv 1) pa_nil)) (blkOk_by (N := ["_law_wires", "_law_size", "_law_found", "_law_top", "_law_longer", "_law_setting", "_law_number"]) (sc
    := defScope s_l_settings) (own := [("_law_number", 6)]) (by decide +kernel)) (fun _ _ _ _ _ => pg_name (i := 6) sc_l_settings.nd rfl (Or.inl rfl)) (fun _ _ _ _ _ =>
    pts_nil) (fun _ _ _ _ _ => (pe_op (r := rCatA K) op_catA (pv 5) (pe_tup (pa_cons (pv 6) pa_nil))))) pa_nil))))) (pss_one (ps_set (i := 2) sc_l_settings.nd rfl (.inl
    rfl) (pv 4)))))) (pss_one (ps_ret (pv 2))))), ?_⟩
    refine ⟨by show 0 ≤ sizeLine; decide, fun t0 nt0 => ?_⟩
    have s1 := same_new (o := .tup []) nt0
    refine ⟨by show 1 ≤ sizeLine; decide, fun p0 np0 => ?_⟩
    have s2 := same_new (o := .lst [V.ref t0]) np0
    refine ⟨_, rfl, _, rfl, by omega, by omega, ?_⟩
    rw [Int.toNat_natCast]
    refine for_range (lo := 0) (n := n) (fun i σ H' => ∃ (p : Addr) (as : List Addr) (v3 v4 v5 v6 : Option V), σ = [some (.int (n : Int)), some (.int (d : Int)), some (.ref p), v3, v4, v5, v6] ∧
      Same H H' ∧ H' p = some (.lst (vA as)) ∧ RowsAt H' as (setUp d i))
      ⟨p0, [t0], none, none, none, none, rfl, s1.trans s2, upd_same, TupAt.mono s2 (.inl upd_same), True.intro⟩ (fun i σ H' hi hp => ?_) (fun σ H' hp => ?_)
    · obtain ⟨p, as, v3, v4, v5, v6, rfl, sm, ep, ra⟩ := hp
      have sml := small (i + 1) (by omega)
      rw [← setUp_len] at sml
      refine ⟨Nat.zero_le _, fun L nL => ?_⟩
      have s3 := same_new (o := .lst []) nL
      refine ⟨_, rfl, p, rfl, ⟨_, seqL (s3 _ _ ep)⟩, ?_⟩
      refine for_list (K := K) (a := p) (xs := vA as) (fun j σ H2 => ∃ (bs : List Addr) (v3 v5 v6 : Option V), σ = [some (.int (n : Int)), some (.int (d : Int)), some (.ref p), v3, some (.ref L), v5, v6] ∧
        Same H' H2 ∧ H2 L = some (.lst (vA bs)) ∧ RowsAt H2 bs (((setUp d i).take j).flatMap (setNext d)))
        ⟨[], _, _, _, rfl, s3, upd_same, True.intro⟩ (fun j σ H2 _ ⟨_, _, _, _, _, s, _⟩ => seqL (s _ _ ep)) (fun j x σ H2 hx hp2 => ?_) (fun σ H2 hp2 => ?_)
      · obtain ⟨bs, w3, w5, w6, rfl, sm2, eL, rb⟩ := hp2
        rw [List.getElem?_map] at hx
        obtain ⟨a, ha, rfl⟩ := Option.map_eq_some_iff.mp hx
        obtain ⟨r, hr, er⟩ := RowsAt.get (ra.mono sm2) ha
        have lr : r.length ≤ 6 := by
          have := (mem_setUp.mp (List.mem_of_getElem? hr)).1
          omega
        refine ⟨_, rfl, .inl ⟨rfl, _, seqL eL⟩, ?_⟩
        -- the rows behind r
        refine ⟨_, rfl, _, rfl, by omega, by omega, ?_⟩
        rw [Int.toNat_natCast]
        intro D nD
        refine lc_range (lo := 0) (n := d) (fun b H3 => Same H2 H3 ∧ ∃ cs, H3 D = some (.lst (vA cs)) ∧ RowsAt H3 cs (setPart r b))
          ⟨same_new nD, [], upd_same, True.intro⟩ (fun b H3 hb ⟨s4, cs, eD, rc⟩ => ?_) (fun H3 ⟨s4, cs, eD, rc⟩ => ?_)
        · have e0 : (0 : Int) + (b : Int) = ((b : Nat) : Int) := by omega
          rw [e0]
          refine ⟨rfl, tyes ?_⟩
          refine iteT ⟨_, rfl, _, rfl, by show 1 ≤ sizeLine; decide, fun t nt => ?_⟩
          have s5 := same_new (o := .tup [V.int (b : Int)]) nt
          have fin : ∀ (H4 : Hp) (y : Addr), Same H3 H4 → TupAt H4 y (vN (r ++ [b])) → ∃ acc, H4 D = some (.lst acc) ∧ acc.length < sizeLine ∧
              (Same H2 (upd H4 D (.lst (acc ++ [V.ref y]))) ∧ ∃ cs, (upd H4 D (.lst (acc ++ [V.ref y]))) D = some (.lst (vA cs)) ∧ RowsAt (upd H4 D (.lst (acc ++ [V.ref y]))) cs (setPart r (b + 1))) := by
            intro H4 y s6 ey
            have eD4 := s6 _ _ eD
            have lc := rc.len
            rw [setPart_len] at lc
            refine ⟨_, eD4, small_of (by rw [List.length_map]; omega), keepD (xs := []) nD s4 s6, cs ++ [y], by rw [upd_same, vA_snoc], ?_⟩
            rw [setPart_succ]
            exact rows_upd (fun a xs => tup_ne eD4) (rows_snocT (rc.mono s6) ey)
          refine ⟨a, t, _, _, rfl, rfl, seqT (TupAt.mono (s4.trans s5) er), seqT (.inl upd_same), ?_, fun z => ?_, fun _ z => ?_, fun z _ z2 nz2 => ?_⟩
          · have := small_of (n := (vN r).length + 1) (by rw [vN_len]; omega)
            exact Nat.le_of_lt this
          · have z' : r = [] := by
              cases r with
              | nil => rfl
              | cons _ _ => cases z
            subst z'
            exact fin _ t s5 (.inl upd_same)
          · cases z
          · refine fin _ z2 (s5.trans (same_new nz2)) (.inl ?_)
            rw [upd_same, ← vN_snoc]
        · have enx : setPart r d = setNext d r := rfl
          have lc := rc.len
          rw [setPart_len] at lc
          have lb := rb.len
          have hj : (setUp d i).take (j + 1) = (setUp d i).take j ++ [r] := by
            rw [List.take_add_one, hr]
            rfl
          have tot : (((setUp d i).take j).flatMap (setNext d)).length ≤ 300 := by
            have h1 : ((setUp d i).flatMap (setNext d)).length ≤ 300 := sml
            conv at h1 => rw [← List.take_append_drop j (setUp d i)]
            rw [List.flatMap_append, List.length_append] at h1
            omega
          have eL3 := s4 _ _ eL
          have nDL : D ≠ L := fun e => by
            rw [e, eL] at nD
            cases nD
          refine ⟨L, D, _, _, rfl, rfl, eL3, eD, ?_, ?_⟩
          · have := small_of (n := (vA bs).length + (vA cs).length) (by rw [List.length_map, List.length_map]; omega)
            exact Nat.le_of_lt this
          · refine ⟨bs ++ cs, _, _, _, rfl, fun b o e => ?_, by rw [upd_same, vA_app], ?_⟩
            · have nb : b ≠ L := ne_of_none e nL
              rw [upd_ne nb]
              exact s4 _ _ (sm2 _ _ e)
            · rw [hj, List.flatMap_append]
              refine rows_upd (fun a xs => tup_ne eL3) (RowsAt.app (rb.mono s4) ?_)
              rw [List.flatMap_cons, List.flatMap_nil, List.append_nil, ← enx]
              exact rc
      · obtain ⟨bs, w3, w5, w6, rfl, sm2, eL, rb⟩ := hp2
        refine ⟨_, rfl, L, bs, _, _, _, _, rfl, sm.trans sm2, eL, ?_⟩
        have e9 : (vA as).length = (setUp d i).length := by rw [List.length_map, ra.len]
        rw [e9, List.take_length] at rb
        exact rb
    · obtain ⟨p, as, v3, v4, v5, v6, rfl, sm, ep, ra⟩ := hp
      exact ⟨_, rfl, want _ p as sm ep ra⟩
/-! ### led, by own looks -/
def sp_lled : Sp := fun vs H Q _ => ∃ (a t : Addr) (r ts : List Nat), vs = [.ref a, .ref t] ∧ TupN H a (vN r) ∧ SqV H t (vN ts) ∧ IsW r ∧ ts.length = r.length ∧
  ∀ H' p, Same H H' → H' p = some (.lst (vN (ledTo r ts))) → Q (.ref p) H'
def ledP (r t : List Nat) (i : Nat) : List Nat := (List.range i).map fun x => t.getD (r.idxOf x) 0
theorem ledP_succ (r t : List Nat) (i : Nat) : ledP r t (i + 1) = ledP r t i ++ [t.getD (r.idxOf i) 0] := by
  unfold ledP
  rw [List.range_succ, List.map_append]
  rfl
theorem idxOf_zz (r : List Nat) (i : Nat) : (zz r).idxOf (i : Int) = r.idxOf i := by
  induction r with
  | nil => rfl
  | cons x r ih =>
    show ((x : Int) :: zz r).idxOf (i : Int) = _
    rw [List.idxOf_cons, List.idxOf_cons, ih]
    by_cases e : x = i
    · subst e
      rw [beq_self_eq_true, beq_self_eq_true]
    · have n : ¬ (x : Int) = (i : Int) := by omega
      rw [beq_false_of_ne n, beq_false_of_ne e]
theorem mem_zz {r : List Nat} {i : Nat} (h : i ∈ r) : (i : Int) ∈ zz r := List.mem_map.mpr ⟨i, h, rfl⟩
theorem ok_l_led (T : Txt K mg) : FnOk P w K mg base CX0 1 T.a_l_led T.fd_l_led ["_law_row_here", "_law_tops"] sp_lled := by
  refine T.F_l_led.ok sc_l_led (fun vs H Q E h => ?_) (fun cdv A outer s0 H vs Q E hr h => ?_)
  · obtain ⟨a, t, r, ts, rfl, _⟩ := h
    rfl
  · obtain ⟨a, t, r, ts, rfl, ha, ht, hw, lt, want⟩ := h
    have l6 := hw.2.2
    refine ⟨_, (pss_cons (ps_set (i := 2) sc_l_led.nd rfl (.inl rfl) (pe_lst pa_nil)) (pss_cons (ps_for PassesOwn.never rfl (pi_range1 (by rfl) T.z_range (pa_cons (pe_callB call_len_seq
    (by rfl) T.z_len PySem.boot_len (pa_cons (pv 0) pa_nil)) pa_nil)) (pg_name (i := 3) sc_l_led.nd rfl (.inl rfl)) (pss_one (ps_expr (pe_bm PySem.F.plainAttrs_list
    PySem.F.slot_list_append PySem.F.type_list_append mt_append (pv 2) (pa_cons (pe_ix ix_seq (pv 1) (pe_tidx (pv 0) (pa_cons (pv 3) pa_nil)) (fun _ _ => rfl))
    pa_nil))))) (pss_one (ps_ret (pv 2))))), ?_⟩
    refine ⟨Nat.zero_le _, fun L nL => ?_⟩
    have s1 := same_new (o := .lst []) nL
    refine ⟨_, rfl, a, _, rfl, .inr (seqT (.inr (ha.mono s1))), ?_⟩
    rw [vN_len]
    refine ⟨_, rfl, by omega, by omega, ?_⟩
    rw [Int.toNat_natCast]
    refine for_range (lo := 0) (n := r.length) (fun i σ H' => ∃ v3, σ = [some (.ref a), some (.ref t), some (.ref L), v3] ∧ Same H H' ∧ H' L = some (.lst (vN (ledP r ts i))))
      ⟨none, rfl, s1, upd_same⟩ (fun i σ H' hi hp => ?_) (fun σ H' hp => ?_)
    · obtain ⟨v3, rfl, sm, eL⟩ := hp
      have e0 : (0 : Int) + (i : Int) = ((i : Nat) : Int) := by omega
      rw [e0]
      have im : i ∈ r := hw.1.mem_iff.mpr (List.mem_range.mpr hi)
      have ij : r.idxOf i < r.length := List.idxOf_lt_length_iff.mpr im
      refine ⟨_, rfl, .inl ⟨rfl, _, seqL eL⟩, ?_⟩
      refine ⟨_, rfl, _, rfl, a, zz r, rfl, ha.mono sm, _, rfl, _, rfl, ha.mono sm, mem_zz im, ?_⟩
      rw [idxOf_zz]
      refine ixQ (ht.mono sm) (vN_at (by omega)) ?_
      refine ⟨L, _, _, rfl, rfl, eL, small_of (by rw [vN_len]; unfold ledP; rw [List.length_map, List.length_range]; omega), ?_⟩
      refine ⟨_, rfl, fun b o e => ?_, by rw [upd_same, vN_snoc, ledP_succ]⟩
      rw [upd_ne (ne_of_none e nL)]
      exact sm _ _ e
    · obtain ⟨v3, rfl, sm, eL⟩ := hp
      refine ⟨_, rfl, want _ L sm ?_⟩
      rw [eL, ← ledL_eq hw lt]
      rfl
/-! ### the earliest -/
def sp_earliest : Sp := fun vs H Q _ => ∃ (t b : Addr) (ts bs : List Nat), vs = [.ref t, .ref b] ∧ SqV H t (vN ts) ∧ SqV H b (vN bs) ∧ ts.Perm bs ∧ ts.length ≤ 6 ∧
  ∀ H' p, Same H H' → TupN H' p (vN (earliest ts bs)) → Q (.ref p) H'
theorem cand_succ (b f : List Nat) (v i : Nat) : cand b f v (i + 1) = cand b f v i ++ (if b.getD i 0 = v ∧ i ∉ f then [i] else []) := by
  unfold cand
  rw [List.range_succ, List.filter_append]
  congr 1
  by_cases c : b.getD i 0 = v ∧ i ∉ f
  · rw [if_pos c]
    exact List.filter_cons_of_pos (p := fun p => decide (b.getD p 0 = v) && !f.contains p) (by
      show (decide (b.getD i 0 = v) && !f.contains i) = true
      rw [decide_eq_true c.1]
      simp [c.2])
  · rw [if_neg c]
    refine List.filter_cons_of_neg (p := fun p => decide (b.getD p 0 = v) && !f.contains p) ?_
    intro h
    rw [Bool.and_eq_true, decide_eq_true_eq] at h
    exact c ⟨h.1, by simpa using h.2⟩
theorem cand_len (b f : List Nat) (v i : Nat) : (cand b f v i).length ≤ i := by
  unfold cand
  have := List.length_filter_le (fun p => decide (b.getD p 0 = v) && !f.contains p) (List.range i)
  rw [List.length_range] at this
  exact this
theorem cand_some {t b : List Nat} (hp : t.Perm b) {k : Nat} (hk : k < t.length) : ∃ x, x ∈ cand b (earUp t b k) (t.getD k 0) b.length := by
  have hn : b.length = t.length := hp.length_eq.symm
  obtain ⟨h1, h2⟩ := earUp_ok hn rfl hp k (by omega)
  have w := ways hn rfl hp h1 (by omega) h2
  have ne : ∃ e, e ∈ (nexts t.length (earUp t b k)).filter fun e => leadsUp t b e (k + 1) := by
    cases q : (nexts t.length (earUp t b k)).filter fun e => leadsUp t b e (k + 1) with
    | nil =>
      rw [q] at w
      simp at w
      omega
    | cons e l => exact ⟨e, List.mem_cons_self⟩
  obtain ⟨e, he⟩ := ne
  rw [List.mem_filter] at he
  obtain ⟨x, x1, x2, rfl⟩ := mem_nexts.mp he.1
  have l1 := (mem_allUp.mp h1).1
  have q := he.2
  rw [leadsUp_snoc l1, h2, Bool.true_and, decide_eq_true_eq] at q
  exact ⟨x, mem_cand.mpr ⟨by omega, q, x2⟩⟩
theorem ok_l_earliest (T : Txt K mg) : FnOk P w K mg base CX0 1 T.a_l_earliest T.fd_l_earliest ["_law_tops", "_law_bottoms"] sp_earliest := by
  refine T.F_l_earliest.ok sc_l_earliest (fun vs H Q E h => ?_) (fun cdv A outer s0 H vs Q E hr h => ?_)
  · obtain ⟨t, b, ts, bs, rfl, _⟩ := h
    rfl
  · obtain ⟨t, b, ts, bs, rfl, ht, hb, hpm, l6, want⟩ := h
    have lb : bs.length = ts.length := hpm.length_eq.symm
    refine ⟨_, (pss_cons (ps_set (i := 2) sc_l_earliest.nd rfl (.inr rfl) (pe_lst pa_nil)) (pss_cons (ps_for PassesOwn.never rfl (pi_seq (pv 0)) (pg_name (i := 3) sc_l_earliest.nd rfl
    (.inr rfl)) (pss_one (ps_expr (pe_bm PySem.F.plainAttrs_list PySem.F.slot_list_append PySem.F.type_list_append mt_append (pv 2) (pa_cons (pe_ix ix_list (pe_lc (own :=
    [("_law_place", 4)]) (g := gName 4) (by rfl) sc_l_earliest.nd (pi_range1 (by rfl) T.z_range (pa_cons (pe_callB call_len_seq (by rfl) T.z_len PySem.boot_len (pa_cons
    (pv 1) pa_nil)) pa_nil)) (blkOk_by (N := ["_law_tops", "_law_bottoms", "_law_found", "_law_number", "_law_place"]) (sc := defScope s_l_earliest) (own :=
    [("_law_place", 4)]) (by decide +kernel)) (fun _ _ _ _ _ => pg_name (i := 4) sc_l_earliest.nd rfl (Or.inl rfl)) (fun _ _ _ _ _ => pts_one (PW.pt (pw_and (pt_cmpR
    op_eq (pe_ix (r := rIx K) ix_seq (pv 1) (pv 4) (fun _ _ => rfl)) (pv 3) (nomark _)) (pw_and1 (pt_cmpR (r := rIn K true) op_notIn_seq (pv 4) (pv 2) (by rfl)))))) (fun
    _ _ _ _ _ => (pv 4))) pe_int (fun _ _ => rfl)) pa_nil))))) (pss_one (ps_ret (pe_callTy call_tupleN (by rfl) T.z_tuple (by decide +kernel) (pa_cons (pv 2) pa_nil)))))), ?_⟩
    refine ⟨Nat.zero_le _, fun L nL => ?_⟩
    have s1 := same_new (o := .lst []) nL
    unfold tSeq
    refine for_seqV (a := t) (xs := vN ts) (fun R h => ⟨_, rfl, h⟩) (ht.mono s1) (fun i σ H' => ∃ v3 v4, σ = [some (.ref t), some (.ref b), some (.ref L), v3, v4] ∧ Same H H' ∧ H' L = some (.lst (vN (earUp ts bs i))))
      ⟨none, none, rfl, s1, upd_same⟩ (fun i σ H' hp => ?_) (fun i x σ H' hx hp2 => ?_) (fun σ H' hp => ?_)
    · obtain ⟨v3, v4, rfl, sm, eL⟩ := hp
      constructor
      · intro e
        rcases ht with ht | ht
        · exact sm _ _ ht
        · exact (lst_tup e (ht.mono s1)).elim
      · intro e
        rcases ht with ht | ht
        · exact (lst_tup (s1 _ _ ht) e).elim
        · exact ht.mono sm
    · obtain ⟨v3, v4, rfl, sm, eL⟩ := hp2
      obtain ⟨n, hn, rfl⟩ := vN_some hx
      have hi : i < ts.length := (List.getElem?_eq_some_iff.mp hn).1
      have gn : ts.getD i 0 = n := getD_of hn
      obtain ⟨x0, hx0⟩ := cand_some hpm hi
      rw [gn] at hx0
      refine ⟨_, rfl, .inl ⟨rfl, _, seqL eL⟩, ?_⟩
      unfold tCons tOp
      refine lcr (n := bs.length) (H1 := H') (fun R h => ⟨_, rfl, b, _, rfl, (hb.mono sm).or, by rw [vN_len]; exact h⟩) (by omega) (fun j => vN (cand bs (earUp ts bs i) n j)) rfl
        (fun j hj => small_of (by have := cand_len bs (earUp ts bs i) n j; rw [vN_len]; omega)) (fun j H2 Kt Kf hj s kt kf => ?_) (fun D H2 s nD eD => ?_)
      · have e0 : (0 : Int) + (j : Int) = ((j : Nat) : Int) := by omega
        rw [e0]
        refine ⟨rfl, ?_⟩
        refine ⟨_, rfl, _, rfl, ixQ (hb.mono (sm.trans s)) (vN_at (by omega)) ?_⟩
        refine ⟨_, rfl, rfl, _, rfl, ?_⟩
        rw [bl_eq]
        by_cases c : bs.getD j 0 = n
        · rw [decide_eq_true c]
          refine iteT ?_
          refine ⟨_, rfl, _, rfl, L, _, rfl, .inl (seqL (s _ _ eL)), rfl, flat_vN _, _, rfl, ?_⟩
          rw [if_pos rfl, in_vN]
          by_cases c2 : j ∈ earUp ts bs i
          · have e1 : (!(earUp ts bs i).contains j) = false := by simp [c2]
            rw [e1]
            refine iteF (kf _ (Same.refl _) ?_)
            rw [cand_succ, if_neg (fun z => z.2 c2), List.append_nil]
          · have e1 : (!(earUp ts bs i).contains j) = true := by simp [c2]
            rw [e1]
            refine iteT ⟨_, rfl, kt _ _ (Same.refl _) ?_⟩
            rw [cand_succ, if_pos ⟨c, c2⟩, vN_snoc]
        · rw [decide_eq_false c]
          refine iteF (iteF (kf _ (Same.refl _) ?_))
          rw [cand_succ, if_neg (fun z => c z.1), List.append_nil]
      · have lpos : 0 < (cand bs (earUp ts bs i) n bs.length).length := List.length_pos_of_mem hx0
        refine ⟨D, _, 0, _, rfl, rfl, seqL eD, vN_at lpos, ?_⟩
        refine ⟨L, _, _, rfl, rfl, s _ _ eL, small_of (by rw [vN_len, earUp_len]; omega), ?_⟩
        refine ⟨_, _, rfl, fun b o e => ?_, ?_⟩
        · rw [upd_ne (ne_of_none e nL)]
          exact s _ _ (sm _ _ e)
        · rw [upd_same, vN_snoc]
          show _ = some (HO.lst (vN (earUp ts bs i ++ [(cand bs (earUp ts bs i) (ts.getD i 0) bs.length).getD 0 0])))
          rw [gn]
    · obtain ⟨v3, v4, rfl, sm, eL⟩ := hp
      rw [vN_len] at eL
      refine ⟨_, rfl, L, _, rfl, .inl ⟨seqL eL, fun l o nl do_ => ?_⟩⟩
      exact want _ l (sm.trans (same_new nl)) ⟨o, do_, upd_same⟩
end
end My

namespace My
open PySem PySem.Spec PyProof.Rows L2
def PL : List (Nat × Nat) := [(4, 3), (3, 2), (4, 2), (5, 2), (3, 3), (2, 1), (5, 3), (4, 1), (1, 1), (2, 2), (3, 1)]
def PR : List (List Nat) := PL.map fun p => [p.1, p.2]
theorem PL_ok : PL.all (fun p => decide (1 ≤ p.1) && decide (p.1 ≤ 6) && decide (1 ≤ p.2) && decide (p.2 ≤ 6) && (List.range (p.1 + 1)).all fun k => decide (p.2 ^ k ≤ 300)) = true := by decide +kernel
theorem PL_at {j : Nat} (h : j < 11) : ∃ n d, PR[j]? = some [n, d] ∧ 1 ≤ n ∧ n ≤ 6 ∧ 1 ≤ d ∧ d ≤ 6 ∧ ∀ k, k ≤ n → d ^ k ≤ 300 := by
  have hj : j < PL.length := h
  have m := List.all_eq_true.mp PL_ok _ (List.getElem_mem hj)
  rw [Bool.and_eq_true, Bool.and_eq_true, Bool.and_eq_true, Bool.and_eq_true, decide_eq_true_eq, decide_eq_true_eq, decide_eq_true_eq, decide_eq_true_eq, List.all_eq_true] at m
  refine ⟨PL[j].1, PL[j].2, ?_, m.1.1.1.1, m.1.1.1.2, m.1.1.2, m.1.2, fun k hk => of_decide_eq_true (m.2 k (List.mem_range.mpr (by omega)))⟩
  unfold PR
  rw [List.getElem?_map, List.getElem?_eq_getElem hj]
  rfl
/-- what was made before, and one row more -/
theorem step_row {H0 H : Hp} {as : List Addr} {rs : List (List Nat)} {t : Addr} (n d : Nat) (g : Same H0 H ∧ RowsAt H as rs) (nt : H t = none) :
    Same H0 (upd H t (.tup [V.int (n : Int), V.int (d : Int)])) ∧ RowsAt (upd H t (.tup [V.int (n : Int), V.int (d : Int)])) (as ++ [t]) (rs ++ [[n, d]]) :=
  ⟨g.1.trans (same_new nt), rows_snocT (g.2.mono (same_new nt)) (.inl upd_same)⟩
section
variable {P : Program} {w : World} {K : PySem.W.Frag} {mg : Str → Option Value} {base : Heap}
/-! ### small ones: kept just if the earliest -/
def sp_right : Sp := fun vs H Q _ => ∃ (q c : Addr) (cells : List Int) (k : Nat), vs = [.ref q] ∧ QA H q c cells k ∧ k ≤ 8000 ∧
  ∀ H', QA H' q c cells (k + 20) → Q (.bl true) H'
theorem ok_l_small_right (T : Txt K mg) : FnOk P w K mg base CX0 6 T.a_l_small_right T.fd_l_small_right ["_law_cup_here"] sp_right := by
  refine T.F_l_small_right.ok sc_l_small_right (fun vs H Q E h => ?_) (fun cdv A outer s0 H vs Q E hr h => ?_)
  · obtain ⟨q, c, cells, k, rfl, _⟩ := h
    rfl
  · obtain ⟨q, c, cells, k, rfl, hq, hk, want⟩ := h
    refine ⟨_, (pss_cons (ps_asg (pe_ix ix_list (pe_lst (pa_cons (pe_tup (pa_cons pe_int (pa_cons pe_int pa_nil))) (pa_cons (pe_tup (pa_cons pe_int (pa_cons pe_int pa_nil))) (pa_cons
    (pe_tup (pa_cons pe_int (pa_cons pe_int pa_nil))) (pa_cons (pe_tup (pa_cons pe_int (pa_cons pe_int pa_nil))) (pa_cons (pe_tup (pa_cons pe_int (pa_cons pe_int
    pa_nil))) (pa_cons (pe_tup (pa_cons pe_int (pa_cons pe_int pa_nil))) (pa_cons (pe_tup (pa_cons pe_int (pa_cons pe_int pa_nil))) (pa_cons (pe_tup (pa_cons pe_int
    (pa_cons pe_int pa_nil))) (pa_cons (pe_tup (pa_cons pe_int (pa_cons pe_int pa_nil))) (pa_cons (pe_tup (pa_cons pe_int (pa_cons pe_int pa_nil))) (pa_cons (pe_tup
    (pa_cons pe_int (pa_cons pe_int pa_nil))) pa_nil)))))))))))) (pe_call (ok_l_scoop T) (hr.mono (by decide)) (by rfl) T.g_l_scoop T.F_l_scoop.kp T.b_l_scoop .nil pass0
    (pa_cons (pv 0) (pa_cons pe_int pa_nil))) (fun _ _ => rfl)) (pg_tup (by rfl) (pgs_cons (pg_name (i := 1) sc_l_small_right.nd rfl (.inl rfl)) (pgs_cons (pg_name (i :=
    2) sc_l_small_right.nd rfl (.inl rfl)) pgs_nil)))) (pss_cons (ps_set (i := 3) sc_l_small_right.nd rfl (.inr rfl) (pe_call (ok_l_row T) (hr.mono (by decide)) (by rfl)
    T.g_l_row T.F_l_row.kp T.b_l_row .nil pass0 (pa_cons (pv 0) (pa_cons (pv 1) pa_nil)))) (pss_cons (ps_setLc (i := 4) (own := [("_law_setting", 5)]) (g := gName 5)
    (by rfl) sc_l_small_right.nd rfl rfl (sw_true rfl rfl rfl (by decide +kernel)) (pi_list (pe_call (ok_l_settings T) (hr.mono (by decide)) (by rfl) T.g_l_settings
    T.F_l_settings.kp T.b_l_settings .nil pass0 (pa_cons (pv 1) (pa_cons (pv 2) pa_nil)))) (blkOk_by (N := ["_law_cup_here", "_law_wires", "_law_size", "_law_row_here",
    "_law_best", "_law_setting"]) (sc := defScope s_l_small_right) (own := [("_law_setting", 5)]) (by decide +kernel)) (fun _ _ _ _ _ => pg_name (i := 5)
    sc_l_small_right.nd rfl (Or.inl rfl)) (fun _ _ _ _ _ => pts_one (pt_cmpR (r := rEqD K) (op_eqD hr.units) (pe_call (ok_l_earliest T) (hr.mono (by decide)) (by rfl)
    T.g_l_earliest T.F_l_earliest.kp T.b_l_earliest .nil pass0 (pa_cons (pv 5) (pa_cons (pe_call (ok_l_led T) (hr.mono (by decide)) (by rfl) T.g_l_led T.F_l_led.kp
    T.b_l_led .nil pass0 (pa_cons (pv 3) (pa_cons (pv 5) pa_nil))) pa_nil))) (pv 3) (nomark _))) (fun _ _ _ _ _ => (pv 5))) (pss_one (ps_ret (pe_cmpR op_eq (pe_callB
    call_repr_bl (by rfl) T.z_repr (by decide +kernel) (pa_cons (pe_call (ok_is_kept T) (hr.mono (by decide)) (by rfl) T.g_is_kept T.F_is_kept.kp T.b_is_kept .nil pass0
    (pa_cons (pv 3) (pa_cons (pv 2) pa_nil))) pa_nil)) (pe_callB call_repr_bl (by rfl) T.z_repr (by decide +kernel) (pa_cons (pe_cmpR (op_neD hr.units) (pv 4) (pe_lst
    pa_nil) (nomark _)) pa_nil)) (nomark _))))))), ?_⟩
    have g0 : Same H H ∧ RowsAt H [] [] := ⟨Same.refl _, True.intro⟩
    refine ⟨by show 2 ≤ sizeLine; decide, fun t0 nt => ?_⟩
    have g1 := step_row 4 3 g0 nt
    clear nt
    refine ⟨by show 2 ≤ sizeLine; decide, fun t1 nt => ?_⟩
    have g2 := step_row 3 2 g1 nt
    clear nt
    refine ⟨by show 2 ≤ sizeLine; decide, fun t2 nt => ?_⟩
    have g3 := step_row 4 2 g2 nt
    clear nt
    refine ⟨by show 2 ≤ sizeLine; decide, fun t3 nt => ?_⟩
    have g4 := step_row 5 2 g3 nt
    clear nt
    refine ⟨by show 2 ≤ sizeLine; decide, fun t4 nt => ?_⟩
    have g5 := step_row 3 3 g4 nt
    clear nt
    refine ⟨by show 2 ≤ sizeLine; decide, fun t5 nt => ?_⟩
    have g6 := step_row 2 1 g5 nt
    clear nt
    refine ⟨by show 2 ≤ sizeLine; decide, fun t6 nt => ?_⟩
    have g7 := step_row 5 3 g6 nt
    clear nt
    refine ⟨by show 2 ≤ sizeLine; decide, fun t7 nt => ?_⟩
    have g8 := step_row 4 1 g7 nt
    clear nt
    refine ⟨by show 2 ≤ sizeLine; decide, fun t8 nt => ?_⟩
    have g9 := step_row 1 1 g8 nt
    clear nt
    refine ⟨by show 2 ≤ sizeLine; decide, fun t9 nt => ?_⟩
    have g10 := step_row 2 2 g9 nt
    clear nt
    refine ⟨by show 2 ≤ sizeLine; decide, fun t10 nt => ?_⟩
    have g11 := step_row 3 1 g10 nt
    clear nt
    obtain ⟨s1, ra⟩ := g11
    clear g0 g1 g2 g3 g4 g5 g6 g7 g8 g9 g10
    generalize hH1 : upd (upd _ t9 _) t10 _ = H1 at *
    refine ⟨by show 11 ≤ sizeLine; decide, fun l nl => ?_⟩
    have s2 := same_new (o := .lst [V.ref t0, V.ref t1, V.ref t2, V.ref t3, V.ref t4, V.ref t5, V.ref t6, V.ref t7, V.ref t8, V.ref t9, V.ref t10]) nl
    have qa2 := (hq.mono s1).mono s2
    refine ⟨_, rfl, q, c, cells, 11, k, rfl, qa2, by omega, by omega, by omega, fun H2 j hj mv qa3 => ?_⟩
    have lq : l ≠ q := (hq.mono s1).ne l nl
    have el : H2 l = some (.lst (vA [t0, t1, t2, t3, t4, t5, t6, t7, t8, t9, t10])) := mv _ _ lq upd_same
    have rb : RowsAt H2 [t0, t1, t2, t3, t4, t5, t6, t7, t8, t9, t10] PR := qa2.rows mv (RowsAt.mono s2 ra)
    obtain ⟨n, d, hpr, n1, n6, d1, d6, small⟩ := PL_at hj
    obtain ⟨a, ha⟩ : ∃ a, [t0, t1, t2, t3, t4, t5, t6, t7, t8, t9, t10][j]? = some a := ⟨_, List.getElem?_eq_getElem hj⟩
    obtain ⟨r0, hr0, ea⟩ := RowsAt.get rb ha
    rw [hpr] at hr0
    have e0 : [n, d] = r0 := Option.some.inj hr0
    subst e0
    refine ⟨l, _, _, .ref a, rfl, rfl, seqL el, atI_nat (by rw [List.getElem?_map, ha]; rfl), ?_⟩
    refine ⟨a, _, rfl, seqT ea, rfl, _, [.int (d : Int)], rfl, _, [], rfl, rfl, ?_⟩
    -- the row
    refine ⟨_, rfl, _, rfl, q, c, cells, n, k + 1, rfl, qa3, by omega, n1, n6, fun H3 p1 r hw lr mv1 qa4 e1 => ?_⟩
    have len := setUp_len d n
    have len300 : (setUp d n).length ≤ 300 := by
      rw [len]
      exact small n (Nat.le_refl _)
    unfold tSeq
    refine ⟨_, rfl, _, rfl, n, d, rfl, n6, d6, small, fun H4 ps as s4 ep ras => ?_⟩
    refine ⟨ps, rfl, ⟨_, seqL ep⟩, ?_⟩
    have lenas := ras.len
    have e14 := e1.mono s4
    refine lcL (xs := vA as) ep (fun i => vA (pick (fun e => decide (earliest e (ledTo r e) = r)) (as.take i) ((setUp d n).take i))) rfl
      (fun i hi => small_of (by have := pick_len (fun e => decide (earliest e (ledTo r e) = r)) (as.take i) ((setUp d n).take i); rw [List.length_map]; rw [List.length_take] at this; omega))
      (fun i x H6 Kt Kf hx s kt kf => ?_) (fun D H6 s6 nD eD => ?_)
    · rw [List.getElem?_map] at hx
      obtain ⟨b, hb, rfl⟩ := Option.map_eq_some_iff.mp hx
      obtain ⟨e, he, eb⟩ := RowsAt.get (ras.mono s) hb
      have le : e.length = n := (mem_setUp.mp (List.mem_of_getElem? he)).1
      have lt : e.length = r.length := by omega
      refine ⟨rfl, ?_⟩
      refine ⟨_, rfl, _, rfl, _, rfl, p1, b, r, e, rfl, e14.mono s, .inr eb, hw, lt, fun H7 p7 s7 e7 => ?_⟩
      refine ⟨b, p7, e, ledTo r e, rfl, .inr (eb.mono s7), .inl e7, led_perm hw lt, by omega, fun H8 p8 s8 e8 => ?_⟩
      refine ⟨_, rfl, dI (earliest e (ledTo r e)), dI r, dp_tup (.inr e8), dp_tup (.inr (e14.mono (s.trans (s7.trans s8)))), shaped_tup _, shaped_tup _, _, rfl, ?_⟩
      rw [eqv_dI]
      have stp := pick_at (f := fun e => decide (earliest e (ledTo r e) = r)) lenas hb he
      by_cases hc : earliest e (ledTo r e) = r
      · rw [decide_eq_true hc]
        exact iteT ⟨_, rfl, kt _ _ (s7.trans s8) (by rw [stp, if_pos (decide_eq_true hc)])⟩
      · rw [decide_eq_false hc]
        exact iteF (kf _ (s7.trans s8) (by rw [stp, if_neg (by rw [decide_eq_false hc]; exact Bool.false_ne_true), List.append_nil]))
    rw [show (vA as).length = as.length from List.length_map _, List.take_length, lenas, List.take_length] at eD
    have rl : RowsAt H6 (pick (fun e => decide (earliest e (ledTo r e) = r)) as (setUp d n)) ((setUp d n).filter fun e => decide (earliest e (ledTo r e) = r)) := pick_rows (ras.mono s6)
    have key := kept_some hw (show 0 < d by omega)
    rw [lr] at key
    generalize hls : pick (fun e => decide (earliest e (ledTo r e) = r)) as (setUp d n) = ls at *
    generalize hLL : ((setUp d n).filter fun e => decide (earliest e (ledTo r e) = r)) = L at *
    refine ⟨_, rfl, _, rfl, p1, r, d, rfl, .inr (.inr (e14.mono s6)), hw, d1, fun H7 s7 => ?_⟩
    refine ⟨_, rfl, _, rfl, ?_⟩
    refine ⟨Nat.zero_le _, fun z nz => ?_⟩
    have s8 := same_new (o := .lst []) nz
    refine ⟨.list (dTs L), .list [], .lst (seqL (s8 _ _ (s7 _ _ eD))) (dp_rows (rl.mono (s7.trans s8))), .lst (seqL upd_same) .nil, shaped_dTs _, shaped_lst [], ?_⟩
    refine ⟨_, rfl, rfl, ?_⟩
    have e9 : (!PyData.eqv (.list (dTs L)) (.list [])) = decide (mxN (coloursOf r) < d) := by
      show (!PyData.eqvAll (dTs L) (dTs [])) = _
      rw [eqv_dTs, key]
      by_cases c : L = []
      · rw [c]
        rfl
      · rw [decide_eq_false c, decide_eq_true c]
        rfl
    rw [e9]
    have qz : QA (upd H7 z (.lst [])) q c cells (k + 20) := ((((qa4.mono s4).mono s6).mono s7).mono s8).le (by omega)
    have v : V.bl (decide (V.str (if keptN r d = true then "True" else "False") = V.str (if decide (mxN (coloursOf r) < d) = true then "True" else "False"))) = V.bl true := bl_true rfl
    rw [v]
    exact want _ qz
end
end My

namespace My
open PySem PySem.Spec PyProof.Rows L2
theorem zz_get (r : List Nat) (j : Nat) : (zz r).getD j 0 = ((r.getD j 0 : Nat) : Int) := by
  unfold zz
  rw [List.getD_eq_getElem?_getD, List.getD_eq_getElem?_getD, List.getElem?_map]
  cases r[j]? <;> rfl
theorem take_of_same {xs ys : List Nat} (hl : xs.length = ys.length) : ∀ k, k ≤ xs.length → (∀ m, m < k → xs.getD m 0 = ys.getD m 0) → xs.take k = ys.take k
  | 0, _, _ => rfl
  | k + 1, hk, h => by
    have ih := take_of_same hl k (by omega) fun m hm => h m (by omega)
    have e := h k (Nat.lt_succ_self k)
    rw [List.take_add_one, List.take_add_one, ih, getD_at (l := xs) (by omega), getD_at (l := ys) (by omega), e]
/-- the earliest is not behind the wiring itself -/
theorem ear_not_gt {r t : List Nat} (hw : IsW r) (ht : t.length = r.length) :
    Ob.lexAt (fun j => decide ((zz (earliest t (ledTo r t))).getD j 0 = (zz r).getD j 0)) (fun j => decide ((zz r).getD j 0 < (zz (earliest t (ledTo r t))).getD j 0)) (decide ((zz (earliest t (ledTo r t))).length > (zz r).length)) 0
      (min (zz (earliest t (ledTo r t))).length (zz r).length) = false := by
  obtain ⟨w1, l1, _⟩ := ear_in hw ht
  have hl : leads r t (ledTo r t) = true := (led_leads hw ht (ledTo_len r _)).mpr rfl
  rw [zz_len, zz_len, l1, decide_eq_false (by omega), Nat.min_self]
  refine lexAt_no r.length 0 fun j _ hj hm => ?_
  have same : (earliest t (ledTo r t)).take j = r.take j := take_of_same l1 j (by omega) fun m hmj => by
    have := of_decide_eq_true (hm m (Nat.zero_le _) hmj)
    rw [zz_get, zz_get] at this
    omega
  have := ear_le hw ht hw rfl hl (by omega : j < r.length) same
  rw [zz_get, zz_get]
  exact decide_eq_false (by omega)
theorem ear_lt {r t : List Nat} (hw : IsW r) (ht : t.length = r.length) (ne : earliest t (ledTo r t) ≠ r) : HT.lexLt (zz (earliest t (ledTo r t))) (zz r) = true := by
  obtain ⟨w1, l1, _⟩ := ear_in hw ht
  have hl : leads r t (ledTo r t) = true := (led_leads hw ht (ledTo_len r _)).mpr rfl
  exact lex_less _ _ l1 (fun k hk same => ear_le hw ht hw rfl hl (by omega) same) ne
section
variable {P : Program} {w : World} {K : PySem.W.Frag} {mg : Str → Option Value} {base : Heap}
theorem ok_l_great_right (T : Txt K mg) : FnOk P w K mg base CX0 6 T.a_l_great_right T.fd_l_great_right ["_law_cup_here"] sp_right := by
  refine T.F_l_great_right.ok sc_l_great_right (fun vs H Q E h => ?_) (fun cdv A outer s0 H vs Q E hr h => ?_)
  · obtain ⟨q, c, cells, k, rfl, _⟩ := h
    rfl
  · obtain ⟨q, c, cells, k, rfl, hq, hk, want⟩ := h
    refine ⟨_, (pss_cons (ps_set (i := 1) sc_l_great_right.nd rfl (.inr rfl) (pe_op op_add pe_int (pe_call (ok_l_scoop T) (hr.mono (by decide)) (by rfl) T.g_l_scoop T.F_l_scoop.kp
    T.b_l_scoop .nil pass0 (pa_cons (pv 0) (pa_cons pe_int pa_nil))))) (pss_cons (ps_par (i := 2) (j := 3) (by rfl) sc_l_great_right.nd rfl rfl (by decide) rfl rfl
    (pa_cons (pe_call (ok_l_row T) (hr.mono (by decide)) (by rfl) T.g_l_row T.F_l_row.kp T.b_l_row .nil pass0 (pa_cons (pv 0) (pa_cons pe_int pa_nil))) (pa_cons (pe_lc
    (own := [("_law_top", 7)]) (g := gName 7) (by rfl) sc_l_great_right.nd (pi_range1 (by rfl) T.z_range (pa_cons pe_int pa_nil)) (blkOk_by (N := ["_law_cup_here",
    "_law_size", "_law_row_here", "_law_tops", "_law_bottoms", "_law_first", "_law_pair", "_law_top", "_law_number"]) (sc := defScope s_l_great_right) (own :=
    [("_law_top", 7)]) (by decide +kernel)) (fun _ _ _ _ _ => pg_name (i := 7) sc_l_great_right.nd rfl (Or.inl rfl)) (fun _ _ _ _ _ => pts_nil) (fun _ _ _ _ _ => (pe_call
    (ok_l_scoop T) (hr.mono (by decide)) (by rfl) T.g_l_scoop T.F_l_scoop.kp T.b_l_scoop .nil pass0 (pa_cons (pv 0) (pa_cons (pv 1) pa_nil))))) pa_nil)) (by rfl))
    (pss_cons (ps_set (i := 4) sc_l_great_right.nd rfl (.inl rfl) (pe_call (ok_led T) (hr.mono (by decide)) (by rfl) T.g_led T.F_led.kp T.b_led .nil pass0 (pa_cons (pv 2)
    (pa_cons (pv 3) pa_nil)))) (pss_cons (ps_set (i := 5) sc_l_great_right.nd rfl (.inl rfl) (pe_call (ok_l_earliest T) (hr.mono (by decide)) (by rfl) T.g_l_earliest
    T.F_l_earliest.kp T.b_l_earliest .nil pass0 (pa_cons (pv 3) (pa_cons (pv 4) pa_nil)))) (pss_cons (ps_if (PW.pt (pw_or (pt_not (pt_val (pe_callB call_isi (by rfl)
    T.z_isinstance (by decide +kernel) (pa_cons (pv 4) (pa_cons (pe_bltn (v := .ty "tuple") (by rfl) T.z_tuple PyProof.Rows.boot_tuple rfl) pa_nil))))) (pw_or (pt_cmpR
    (op_neD hr.units) (pe_callTy call_list_of (by rfl) T.z_list (by decide +kernel) (pa_cons (pv 4) pa_nil)) (pe_call (ok_l_led T) (hr.mono (by decide)) (by rfl)
    T.g_l_led T.F_l_led.kp T.b_l_led .nil pass0 (pa_cons (pv 2) (pa_cons (pv 3) pa_nil))) (nomark _)) (pw_or (pt_cmpR (op_gtT hr.units0) (pv 5) (pv 2) (nomark _)) (pw_or
    (pt_cmpR op_isnot_bl (pe_call (ok_is_kept T) (hr.mono (by decide)) (by rfl) T.g_is_kept T.F_is_kept.kp T.b_is_kept .nil pass0 (pa_cons (pv 5) (pa_cons (pv 1)
    pa_nil))) pe_bl (nomark _)) (pw_or1 (pt_cmpR (op_neD hr.units) (pe_call (ok_led T) (hr.mono (by decide)) (by rfl) T.g_led T.F_led.kp T.b_led .nil pass0 (pa_cons (pv
    5) (pa_cons (pv 3) pa_nil))) (pv 4) (nomark _)))))))) (pss_one (ps_ret pe_bl)) pss_nil) (pss_cons (ps_if (pt_not (pt_val (pe_call (ok_is_kept T) (hr.mono (by decide))
    (by rfl) T.g_is_kept T.F_is_kept.kp T.b_is_kept .nil pass0 (pa_cons (pv 2) (pa_cons (pv 1) pa_nil))))) (pss_one (ps_ret (pe_cmpR (op_ltT hr.units0) (pv 5) (pv 2)
    (nomark _)))) pss_nil) (pss_cons (ps_set (i := 6) sc_l_great_right.nd rfl (.inl rfl) (pe_call (ok_settings_of T) (hr.mono (by decide)) (by rfl) T.g_settings_of
    T.F_settings_of.kp T.b_settings_of .nil pass0 (pa_cons (pv 2) pa_nil))) (pss_cons (ps_if (PW.pt (pw_or (pt_cmpR (op_neD hr.units) (pe_lc (own := [("_law_number", 8)])
    (g := gName 8) (by rfl) sc_l_great_right.nd (pi_tup (pe_op op_catA (pe_ix ix_tup (pv 6) pe_int (fun _ _ => rfl)) (pe_ix ix_tup (pv 6) pe_int (fun _ _ => rfl))))
    (blkOk_by (N := ["_law_cup_here", "_law_size", "_law_row_here", "_law_tops", "_law_bottoms", "_law_first", "_law_pair", "_law_top", "_law_number"]) (sc := defScope
    s_l_great_right) (own := [("_law_number", 8)]) (by decide +kernel)) (fun _ _ _ _ _ => pg_name (i := 8) sc_l_great_right.nd rfl (Or.inl rfl)) (fun _ _ _ _ _ => pts_one
    (pt_not (pt_chain op_le op_lt pe_int (pv 8) (pv 1)))) (fun _ _ _ _ _ => (pv 8))) (pe_lst pa_nil) (nomark _)) (pw_or1 (pt_cmpR (op_neD hr.units) (pe_call
    (ok_l_earliest T) (hr.mono (by decide)) (by rfl) T.g_l_earliest T.F_l_earliest.kp T.b_l_earliest .nil pass0 (pa_cons (pe_ix ix_tup (pv 6) pe_int (fun _ _ => rfl))
    (pa_cons (pe_ix ix_tup (pv 6) pe_int (fun _ _ => rfl)) pa_nil))) (pv 2) (nomark _))))) (pss_one (ps_ret pe_bl)) pss_nil) (pss_one (ps_ret (pe_and (pe_cmpR op_is_bl
    (pe_call (ok_is_kept T) (hr.mono (by decide)) (by rfl) T.g_is_kept T.F_is_kept.kp T.b_is_kept .nil pass0 (pa_cons (pv 2) (pa_cons (pe_op op_add (pv 1) pe_int)
    pa_nil))) pe_bl (nomark _)) (pe_one (pe_cmpR op_is_bl (pe_call (ok_is_kept T) (hr.mono (by decide)) (by rfl) T.g_is_kept T.F_is_kept.kp T.b_is_kept .nil pass0
    (pa_cons (pv 2) (pa_cons pe_int pa_nil))) pe_bl (nomark _)))))))))))))), ?_⟩
    refine ⟨_, rfl, q, c, cells, 4, k, rfl, hq, by omega, by omega, by omega, fun H1 j hj mv1 qa1 => ?_⟩
    refine ⟨_, _, rfl, rfl, ?_⟩
    have ed : (1 : Int) + (j : Int) = ((1 + j : Nat) : Int) := by omega
    dsimp only
    rw [ed]
    have d1 : 1 ≤ 1 + j := by omega
    have d4 : 1 + j ≤ 4 := by omega
    generalize 1 + j = d at *
    refine ⟨_, rfl, q, c, cells, 6, k + 1, rfl, qa1, by omega, by omega, by omega, fun H2 p1 r hw lr mv2 qa2 e1 => ?_⟩
    unfold tCons
    refine ⟨6, rfl, by decide, by decide, ?_⟩
    intro D nD
    have Dq := qa2.ne D nD
    have cD := qa2.cne D nD
    refine lc_range (lo := 0) (n := 6) (fun i H4 => Mv q H2 H4 ∧ QA H4 q c cells (k + 1 + 6 + i) ∧ ∃ ts, H4 D = some (.lst (vN ts)) ∧ ts.length = i ∧ ∀ x ∈ ts, x < d)
      ⟨Same.mv (same_new nD), qa2.upd Dq cD, [], upd_same, rfl, fun x hx => nomatch hx⟩ (fun i H4 hi hp => ?_) (fun H4 hp => ?_)
    · obtain ⟨mv4, qa4, ts, eD, lts, lo⟩ := hp
      refine ⟨rfl, tyes ?_⟩
      refine iteT ⟨_, rfl, _, rfl, q, c, cells, d, k + 1 + 6 + i, rfl, qa4, by omega, by omega, by omega, fun H5 z hz mv5 qa5 => ?_⟩
      have eD5 := mv5 _ _ Dq eD
      refine ⟨_, eD5, small_of (by rw [vN_len]; omega), fun b o nb e => ?_, qa5.upd Dq cD, ts ++ [z], by rw [upd_same, vN_snoc], by rw [List.length_append, lts]; rfl, fun x hx => ?_⟩
      · rw [upd_ne (ne_of_none e nD)]
        exact mv5 _ _ nb (mv4 _ _ nb e)
      · rcases List.mem_append.mp hx with hx | hx
        · exact lo x hx
        · rw [List.mem_singleton.mp hx]
          exact hz
    obtain ⟨mv4, qa4, ts, eD, lts, lo⟩ := hp
    have e14 : TupN H4 p1 (vN r) := qa2.tupN mv4 e1
    have lt : ts.length = r.length := by omega
    refine ⟨_, _, rfl, ?_⟩
    -- what they are led to
    refine ⟨_, rfl, _, rfl, p1, D, r, ts, rfl, .inr (.inr e14), .inl eD, hw, lt, fun H5 b s5 eb => ?_⟩
    have e15 := e14.mono s5
    have eD5 := s5 _ _ eD
    refine ⟨_, rfl, _, rfl, D, b, ts, ledTo r ts, rfl, .inl eD5, .inr (.inr eb), led_perm hw lt, by omega, fun H6 f s6 ef => ?_⟩
    have e16 := e15.mono s6
    have eD6 := s6 _ _ eD5
    have eb6 := eb.mono s6
    obtain ⟨we, le, _⟩ := ear_in hw lt
    have ekept := ear_kept hw lt (by omega : 0 < d) lo
    have eled := ear_led hw lt
    have ngt := ear_not_gt hw lt
    have lss := ear_lt hw lt
    generalize hE : earliest ts (ledTo r ts) = e at *
    have bty : TyX K H6 (.ref b) (.type "tuple") := by
      obtain ⟨o, _, h⟩ := eb6
      exact .fTuple h
    refine ⟨_, rfl, .ref b, .ty "tuple", _, .type "tuple", true, rfl, .ty "tuple", bty, kit_ty (by decide +kernel), ?_⟩
    refine ⟨true, rfl, iteF ?_⟩
    -- list(bottoms) != ..
    refine ⟨_, rfl, b, _, rfl, .inr (seqT (.inr eb6)), fun l nl => ?_⟩
    have s7 := same_new (o := .lst (vN (ledTo r ts))) nl
    refine ⟨_, rfl, _, rfl, p1, D, r, ts, rfl, e16.mono s7, .inl (s7 _ _ eD6), hw, lt, fun H8 m s8 em => ?_⟩
    refine ⟨.list ((zz (ledTo r ts)).map PyData.int), .list ((zz (ledTo r ts)).map PyData.int), .lst (seqL (s8 _ _ upd_same)) (dp_ints _), .lst (seqL em) (dp_ints _), shaped_lst _, shaped_lst _, ?_⟩
    have q1 : (!PyData.eqv (.list ((zz (ledTo r ts)).map PyData.int)) (.list ((zz (ledTo r ts)).map PyData.int))) = false := by
      show (!PyData.eqvAll _ _) = false
      rw [eqv_ints, decide_eq_true rfl]
      rfl
    refine ⟨_, rfl, ?_⟩
    rw [q1]
    refine iteF ?_
    have sA := s7.trans s8
    -- first > row
    refine ⟨_, rfl, _, rfl, f, p1, zz e, zz r, rfl, rfl, seqT (.inr (ef.mono sA)), seqT (.inr (e16.mono sA)), _, rfl, ?_⟩
    rw [ngt]
    refine iteF ?_
    -- kept
    refine ⟨_, rfl, _, rfl, f, e, d, rfl, .inr (.inr (ef.mono sA)), we, d1, fun H9 s9 => ?_⟩
    have kk : keptN e d = true := decide_eq_true ekept
    rw [kk]
    refine ⟨true, true, rfl, rfl, _, rfl, iteF ?_⟩
    have sB := sA.trans s9
    refine ⟨_, rfl, _, rfl, f, D, e, ts, rfl, .inr (.inr (ef.mono sB)), .inl (sB _ _ eD6), we, by omega, fun H10 b2 s10 eb2 => ?_⟩
    have sC := sB.trans s10
    rw [eled] at eb2
    refine ⟨_, rfl, dI (ledTo r ts), dI (ledTo r ts), dp_tup (.inr eb2), dp_tup (.inr (eb6.mono sC)), shaped_tup _, shaped_tup _, _, rfl, ?_⟩
    rw [eqv_dI, decide_eq_true rfl]
    refine iteF ?_
    -- kept or not
    have mvA : Mv q H H10 := mv1.trans (mv2.trans (mv4.trans (Same.mv (s5.trans (s6.trans sC)))))
    have qaC : QA H10 q c cells (k + 13) := ((qa4.mono s5).mono s6).mono sC
    have eC := e16.mono sC
    refine ⟨_, rfl, _, rfl, p1, r, d, rfl, .inr (.inr eC), hw, d1, fun H11 s11 => ?_⟩
    refine ⟨_, rfl, ?_⟩
    by_cases kr : mxN (coloursOf r) < d
    · have kk2 : keptN r d = true := decide_eq_true kr
      rw [kk2]
      refine iteF ?_
      have eE := eC.mono s11
      refine ⟨_, rfl, p1, r, rfl, .inr (.inr eE), hw, fun H12 pp t1 b1 s12 ep et eb1 => ?_⟩
      refine ⟨_, rfl, pp, _, 0, .ref t1, rfl, rfl, seqT (.inl ep), rfl, ?_⟩
      refine ⟨_, rfl, pp, _, 1, .ref b1, rfl, rfl, seqT (.inl ep), rfl, ?_⟩
      have lc : (coloursOf r).length = r.length := coloursOf_len r
      have lbb : (ledTo r (coloursOf r)).length = r.length := ledTo_len r _
      have nc : vN (coloursOf r) ≠ [] := fun z => by
        have := congrArg List.length z
        rw [vN_len, lc] at this
        exact absurd this (by show ¬ r.length = 0; omega)
      have nb : vN (ledTo r (coloursOf r)) ≠ [] := fun z => by
        have := congrArg List.length z
        rw [vN_len, lbb] at this
        exact absurd this (by show ¬ r.length = 0; omega)
      refine ⟨t1, b1, _, _, rfl, rfl, seqT (.inr et), seqT (.inr eb1), ?_, fun z => absurd z nc, fun _ z => absurd z nb, fun _ _ z nz => ?_⟩
      · have := small_of (n := (vN (coloursOf r)).length + (vN (ledTo r (coloursOf r))).length) (by rw [vN_len, vN_len]; omega)
        exact Nat.le_of_lt this
      have s13 := same_new (o := .tup (vN (coloursOf r) ++ vN (ledTo r (coloursOf r)))) nz
      refine ⟨z, rfl, ⟨_, seqT (.inl upd_same)⟩, ?_⟩
      refine lcT (xs := vN (coloursOf r) ++ vN (ledTo r (coloursOf r))) (.inl upd_same) (fun _ => []) rfl (fun i hi => small_of (Nat.zero_le _)) (fun i x H13 Kt Kf hx s kt kf => ?_) (fun D2 H13 s14 nD2 eD2 => ?_)
      · have hm : x ∈ vN (coloursOf r) ++ vN (ledTo r (coloursOf r)) := List.mem_of_getElem? hx
        have hn : ∃ n : Nat, x = .int (n : Int) ∧ n < d := by
          have pm : ∀ x, x ∈ ledTo r (coloursOf r) → x ∈ coloursOf r := fun x => (led_perm hw lc).mem_iff.mpr
          have go : ∀ n, n ∈ coloursOf r → n < d := fun n hn => Nat.lt_of_le_of_lt (mxN_ge hn) kr
          rcases List.mem_append.mp hm with hm | hm
          · obtain ⟨y, hy, rfl⟩ := List.mem_map.mp hm
            obtain ⟨n, hn, rfl⟩ := List.mem_map.mp hy
            exact ⟨n, rfl, go n hn⟩
          · obtain ⟨y, hy, rfl⟩ := List.mem_map.mp hm
            obtain ⟨n, hn, rfl⟩ := List.mem_map.mp hy
            exact ⟨n, rfl, go n (pm n hn)⟩
        obtain ⟨n, rfl, hnd⟩ := hn
        refine ⟨rfl, ?_⟩
        refine ⟨_, rfl, _, _, rfl, rfl, true, bl_true (by omega), iteT ?_⟩
        refine ⟨_, rfl, _, _, rfl, rfl, true, bl_true (by omega), iteF ?_⟩
        exact kf _ (Same.refl _) rfl
      refine ⟨Nat.zero_le _, fun z2 nz2 => ?_⟩
      have s15 := same_new (o := .lst []) nz2
      refine ⟨.list [], .list [], .lst (seqL (s15 _ _ eD2)) .nil, .lst (seqL upd_same) .nil, shaped_lst [], shaped_lst [], _, rfl, ?_⟩
      refine iteF ?_
      have sD := s13.trans (s14.trans s15)
      have ep2 := sD _ _ ep
      refine ⟨_, rfl, pp, _, 0, .ref t1, rfl, rfl, seqT (.inl ep2), rfl, ?_⟩
      refine ⟨_, rfl, pp, _, 1, .ref b1, rfl, rfl, seqT (.inl ep2), rfl, ?_⟩
      refine ⟨t1, b1, coloursOf r, ledTo r (coloursOf r), rfl, .inr (.inr (et.mono sD)), .inr (.inr (eb1.mono sD)), led_perm hw lc, by omega, fun H14 f2 s16 ef2 => ?_⟩
      rw [ear_own hw] at ef2
      have eF := ((eE.mono s12).mono sD).mono s16
      refine ⟨_, rfl, dI r, dI r, dp_tup (.inr ef2), dp_tup (.inr eF), shaped_tup _, shaped_tup _, _, rfl, ?_⟩
      rw [eqv_dI, decide_eq_true rfl]
      refine iteF ?_
      have es : (d : Int) + 1 = ((d + 1 : Nat) : Int) := by omega
      refine ⟨_, rfl, _, rfl, _, _, rfl, rfl, ?_⟩
      dsimp only
      rw [es]
      refine ⟨p1, r, d + 1, rfl, .inr (.inr eF), hw, by omega, fun H15 s17 => ?_⟩
      have k1 : keptN r (d + 1) = true := decide_eq_true (by omega)
      rw [k1]
      refine ⟨true, true, rfl, rfl, true, rfl, iteT ?_⟩
      refine ⟨_, rfl, p1, r, 6, rfl, .inr (.inr (eF.mono s17)), hw, by omega, fun H16 s18 => ?_⟩
      have k6 : keptN r 6 = true := decide_eq_true (kept_six hw)
      rw [k6]
      refine ⟨true, true, rfl, rfl, ?_⟩
      exact want _ ((((((qaC.mono s11).mono s12).mono sD).mono s16).mono s17).mono s18 |>.le (by omega))
    · have kk2 : keptN r d = false := decide_eq_false kr
      rw [kk2]
      refine iteT ?_
      have ne : e ≠ r := fun z => kr (by rw [← z]; exact ekept)
      refine ⟨_, rfl, _, rfl, f, p1, zz e, zz r, rfl, rfl, seqT (.inr ((ef.mono sC).mono s11)), seqT (.inr (eC.mono s11)), ?_⟩
      rw [lss ne]
      exact want _ ((qaC.mono s11).le (by omega))
/-! ### the law -/
def sp_law (K : PySem.W.Frag) : Sp := fun vs H Q _ => ∃ (a : Addr) (ns : List Int), vs = [.ref a] ∧ SqL K H a (ns.map V.int) ∧ ns.length ≤ 63 ∧ ∀ H', Q (.bl true) H'
theorem ok_law (T : Txt K mg) : FnOk P w K mg base CX0 7 T.a_law T.fd_law ["_law_script"] (sp_law K) := by
  refine T.F_law.ok sc_law (fun vs H Q E h => ?_) (fun cdv A outer s0 H vs Q E hr h => ?_)
  · obtain ⟨a, ns, rfl, _⟩ := h
    rfl
  · obtain ⟨a, ns, rfl, hS, hl, want⟩ := h
    refine ⟨_, (pss_cons (ps_set (i := 1) sc_law.nd rfl (.inl rfl) (pe_call (ok_l_cup T) (hr.mono (by decide)) (by rfl) T.g_l_cup T.F_l_cup.kp T.b_l_cup .nil pass0 (pa_cons (pv 0)
    pa_nil))) (pss_cons (ps_for PassesOwn.never rfl (pi_range1 (by rfl) T.z_range (pa_cons pe_int pa_nil)) (pg_name (i := 2) sc_law.nd rfl (.inl rfl)) (pss_one (ps_if
    (PW.pt (pw_or (pt_not (pt_val (pe_call (ok_l_small_right T) (hr.mono (by decide)) (by rfl) T.g_l_small_right T.F_l_small_right.kp T.b_l_small_right .nil pass0
    (pa_cons (pv 1) pa_nil)))) (pw_or1 (pt_not (pt_val (pe_call (ok_l_great_right T) (hr.mono (by decide)) (by rfl) T.g_l_great_right T.F_l_great_right.kp
    T.b_l_great_right .nil pass0 (pa_cons (pv 1) pa_nil))))))) (pss_one (ps_ret pe_bl)) pss_nil))) (pss_one (ps_ret pe_bl)))), ?_⟩
    refine ⟨_, rfl, a, ns, rfl, hS, by omega, fun H1 q c cells s1 qa1 => ?_⟩
    refine ⟨3, rfl, by decide, by decide, ?_⟩
    refine for_range (lo := 0) (n := 3) (fun i σ H' => ∃ v2, σ = [some (.ref a), some (.ref q), v2] ∧ QA H' q c cells (100 * i))
      ⟨none, rfl, qa1⟩ (fun i σ H2 hi hp => ?_) (fun σ H' hp => ?_)
    · obtain ⟨v2, rfl, qa2⟩ := hp
      refine ⟨_, rfl, q, c, cells, 100 * i, rfl, qa2, by omega, fun H3 qa3 => ?_⟩
      refine ⟨true, rfl, iteF ?_⟩
      refine ⟨_, rfl, q, c, cells, 100 * i + 20, rfl, qa3, by omega, fun H4 qa4 => ?_⟩
      refine ⟨true, rfl, iteF ?_⟩
      exact ⟨_, rfl, qa4.le (by omega)⟩
    · exact want _
end
end My

namespace My
open PySem PySem.Spec PyProof.Rows L2
theorem all_mk {l : PySem.W.OpenLaw} {w : World} {K : PySem.W.Frag} {h : Heap} {mg : Str → Option Value} {fa f0 f1 f2 f3 f4 f5 f6 f7 f8 f9 f10 f11 f12 f13 f14 f15 f16 f17 f18 f19 f20 f21 f22 f23 f24 : Addr} (X : K.In h) (G : h.Ns mainGlobals mg) (hfa : mg "law" = some (.ref fa))
    {od0 an0 : Option Addr} {sl0 : Array (Option Value)} {oc0 kV0 dc0 pm0 cd0 ct0 : Value}
    (a0 : PySem.W.nsIn K mainGlobals "is_integer" = some (some (.ref f0))) (l0 : K.lookup f0 = some ⟨oc0, od0, .func (PySem.W.fnOf "is_integer" "is_integer" (defArgs s_is_integer) (defBody s_is_integer) (defScope s_is_integer) .none kV0 dc0 pm0 an0 cd0 ct0), sl0⟩)
    (c0 : PySem.W.codeIn K cd0 "is_integer" = true) (k0 : PySem.W.keepIn K (.ref f0) = true)
    {od1 an1 : Option Addr} {sl1 : Array (Option Value)} {oc1 kV1 dc1 pm1 cd1 ct1 : Value}
    (a1 : PySem.W.nsIn K mainGlobals "is_within" = some (some (.ref f1))) (l1 : K.lookup f1 = some ⟨oc1, od1, .func (PySem.W.fnOf "is_within" "is_within" (defArgs s_is_within) (defBody s_is_within) (defScope s_is_within) .none kV1 dc1 pm1 an1 cd1 ct1), sl1⟩)
    (c1 : PySem.W.codeIn K cd1 "is_within" = true) (k1 : PySem.W.keepIn K (.ref f1) = true)
    {od2 an2 : Option Addr} {sl2 : Array (Option Value)} {oc2 kV2 dc2 pm2 cd2 ct2 : Value}
    (a2 : PySem.W.nsIn K mainGlobals "is_list" = some (some (.ref f2))) (l2 : K.lookup f2 = some ⟨oc2, od2, .func (PySem.W.fnOf "is_list" "is_list" (defArgs s_is_list) (defBody s_is_list) (defScope s_is_list) .none kV2 dc2 pm2 an2 cd2 ct2), sl2⟩)
    (c2 : PySem.W.codeIn K cd2 "is_list" = true) (k2 : PySem.W.keepIn K (.ref f2) = true)
    {od3 an3 : Option Addr} {sl3 : Array (Option Value)} {oc3 kV3 dc3 pm3 cd3 ct3 : Value}
    (a3 : PySem.W.nsIn K mainGlobals "is_numbers" = some (some (.ref f3))) (l3 : K.lookup f3 = some ⟨oc3, od3, .func (PySem.W.fnOf "is_numbers" "is_numbers" (defArgs s_is_numbers) (defBody s_is_numbers) (defScope s_is_numbers) .none kV3 dc3 pm3 an3 cd3 ct3), sl3⟩)
    (c3 : PySem.W.codeIn K cd3 "is_numbers" = true) (k3 : PySem.W.keepIn K (.ref f3) = true)
    {od4 an4 : Option Addr} {sl4 : Array (Option Value)} {oc4 kV4 dc4 pm4 cd4 ct4 : Value}
    (a4 : PySem.W.nsIn K mainGlobals "is_size" = some (some (.ref f4))) (l4 : K.lookup f4 = some ⟨oc4, od4, .func (PySem.W.fnOf "is_size" "is_size" (defArgs s_is_size) (defBody s_is_size) (defScope s_is_size) .none kV4 dc4 pm4 an4 cd4 ct4), sl4⟩)
    (c4 : PySem.W.codeIn K cd4 "is_size" = true) (k4 : PySem.W.keepIn K (.ref f4) = true)
    {od5 an5 : Option Addr} {sl5 : Array (Option Value)} {oc5 kV5 dc5 pm5 cd5 ct5 : Value}
    (a5 : PySem.W.nsIn K mainGlobals "is_setting" = some (some (.ref f5))) (l5 : K.lookup f5 = some ⟨oc5, od5, .func (PySem.W.fnOf "is_setting" "is_setting" (defArgs s_is_setting) (defBody s_is_setting) (defScope s_is_setting) .none kV5 dc5 pm5 an5 cd5 ct5), sl5⟩)
    (c5 : PySem.W.codeIn K cd5 "is_setting" = true) (k5 : PySem.W.keepIn K (.ref f5) = true)
    {od6 an6 : Option Addr} {sl6 : Array (Option Value)} {oc6 kV6 dc6 pm6 cd6 ct6 : Value}
    (a6 : PySem.W.nsIn K mainGlobals "need_size" = some (some (.ref f6))) (l6 : K.lookup f6 = some ⟨oc6, od6, .func (PySem.W.fnOf "need_size" "need_size" (defArgs s_need_size) (defBody s_need_size) (defScope s_need_size) .none kV6 dc6 pm6 an6 cd6 ct6), sl6⟩)
    (c6 : PySem.W.codeIn K cd6 "need_size" = true) (k6 : PySem.W.keepIn K (.ref f6) = true)
    {od7 an7 : Option Addr} {sl7 : Array (Option Value)} {oc7 kV7 dc7 pm7 cd7 ct7 : Value}
    (a7 : PySem.W.nsIn K mainGlobals "is_wiring" = some (some (.ref f7))) (l7 : K.lookup f7 = some ⟨oc7, od7, .func (PySem.W.fnOf "is_wiring" "is_wiring" (defArgs s_is_wiring) (defBody s_is_wiring) (defScope s_is_wiring) .none kV7 dc7 pm7 an7 cd7 ct7), sl7⟩)
    (c7 : PySem.W.codeIn K cd7 "is_wiring" = true) (k7 : PySem.W.keepIn K (.ref f7) = true)
    {od8 an8 : Option Addr} {sl8 : Array (Option Value)} {oc8 kV8 dc8 pm8 cd8 ct8 : Value}
    (a8 : PySem.W.nsIn K mainGlobals "led" = some (some (.ref f8))) (l8 : K.lookup f8 = some ⟨oc8, od8, .func (PySem.W.fnOf "led" "led" (defArgs s_led) (defBody s_led) (defScope s_led) .none kV8 dc8 pm8 an8 cd8 ct8), sl8⟩)
    (c8 : PySem.W.codeIn K cd8 "led" = true) (k8 : PySem.W.keepIn K (.ref f8) = true)
    {od9 an9 : Option Addr} {sl9 : Array (Option Value)} {oc9 kV9 dc9 pm9 cd9 ct9 : Value}
    (a9 : PySem.W.nsIn K mainGlobals "need_wiring" = some (some (.ref f9))) (l9 : K.lookup f9 = some ⟨oc9, od9, .func (PySem.W.fnOf "need_wiring" "need_wiring" (defArgs s_need_wiring) (defBody s_need_wiring) (defScope s_need_wiring) .none kV9 dc9 pm9 an9 cd9 ct9), sl9⟩)
    (c9 : PySem.W.codeIn K cd9 "need_wiring" = true) (k9 : PySem.W.keepIn K (.ref f9) = true)
    {od10 an10 : Option Addr} {sl10 : Array (Option Value)} {oc10 kV10 dc10 pm10 cd10 ct10 : Value}
    (a10 : PySem.W.nsIn K mainGlobals "led_to" = some (some (.ref f10))) (l10 : K.lookup f10 = some ⟨oc10, od10, .func (PySem.W.fnOf "led_to" "led_to" (defArgs s_led_to) (defBody s_led_to) (defScope s_led_to) .none kV10 dc10 pm10 an10 cd10 ct10), sl10⟩)
    (c10 : PySem.W.codeIn K cd10 "led_to" = true) (k10 : PySem.W.keepIn K (.ref f10) = true)
    {od11 an11 : Option Addr} {sl11 : Array (Option Value)} {oc11 kV11 dc11 pm11 cd11 ct11 : Value}
    (a11 : PySem.W.nsIn K mainGlobals "settings_of" = some (some (.ref f11))) (l11 : K.lookup f11 = some ⟨oc11, od11, .func (PySem.W.fnOf "settings_of" "settings_of" (defArgs s_settings_of) (defBody s_settings_of) (defScope s_settings_of) .none kV11 dc11 pm11 an11 cd11 ct11), sl11⟩)
    (c11 : PySem.W.codeIn K cd11 "settings_of" = true) (k11 : PySem.W.keepIn K (.ref f11) = true)
    {od12 an12 : Option Addr} {sl12 : Array (Option Value)} {oc12 kV12 dc12 pm12 cd12 ct12 : Value}
    (a12 : PySem.W.nsIn K mainGlobals "is_kept" = some (some (.ref f12))) (l12 : K.lookup f12 = some ⟨oc12, od12, .func (PySem.W.fnOf "is_kept" "is_kept" (defArgs s_is_kept) (defBody s_is_kept) (defScope s_is_kept) .none kV12 dc12 pm12 an12 cd12 ct12), sl12⟩)
    (c12 : PySem.W.codeIn K cd12 "is_kept" = true) (k12 : PySem.W.keepIn K (.ref f12) = true)
    {od13 an13 : Option Addr} {sl13 : Array (Option Value)} {oc13 kV13 dc13 pm13 cd13 ct13 : Value}
    (a13 : PySem.W.nsIn K mainGlobals "colours_of" = some (some (.ref f13))) (l13 : K.lookup f13 = some ⟨oc13, od13, .func (PySem.W.fnOf "colours_of" "colours_of" (defArgs s_colours_of) (defBody s_colours_of) (defScope s_colours_of) .none kV13 dc13 pm13 an13 cd13 ct13), sl13⟩)
    (c13 : PySem.W.codeIn K cd13 "colours_of" = true) (k13 : PySem.W.keepIn K (.ref f13) = true)
    {od14 an14 : Option Addr} {sl14 : Array (Option Value)} {oc14 kV14 dc14 pm14 cd14 ct14 : Value}
    (a14 : PySem.W.nsIn K mainGlobals "both_settings" = some (some (.ref f14))) (l14 : K.lookup f14 = some ⟨oc14, od14, .func (PySem.W.fnOf "both_settings" "both_settings" (defArgs s_both_settings) (defBody s_both_settings) (defScope s_both_settings) .none kV14 dc14 pm14 an14 cd14 ct14), sl14⟩)
    (c14 : PySem.W.codeIn K cd14 "both_settings" = true) (k14 : PySem.W.keepIn K (.ref f14) = true)
    {od15 an15 : Option Addr} {sl15 : Array (Option Value)} {oc15 kV15 dc15 pm15 cd15 ct15 : Value}
    (a15 : PySem.W.nsIn K mainGlobals "kept_at" = some (some (.ref f15))) (l15 : K.lookup f15 = some ⟨oc15, od15, .func (PySem.W.fnOf "kept_at" "kept_at" (defArgs s_kept_at) (defBody s_kept_at) (defScope s_kept_at) .none kV15 dc15 pm15 an15 cd15 ct15), sl15⟩)
    (c15 : PySem.W.codeIn K cd15 "kept_at" = true) (k15 : PySem.W.keepIn K (.ref f15) = true)
    {od16 an16 : Option Addr} {sl16 : Array (Option Value)} {oc16 kV16 dc16 pm16 cd16 ct16 : Value}
    (a16 : PySem.W.nsIn K mainGlobals "_law_cup" = some (some (.ref f16))) (l16 : K.lookup f16 = some ⟨oc16, od16, .func (PySem.W.fnOf "_law_cup" "_law_cup" (defArgs s_l_cup) (defBody s_l_cup) (defScope s_l_cup) .none kV16 dc16 pm16 an16 cd16 ct16), sl16⟩)
    (c16 : PySem.W.codeIn K cd16 "_law_cup" = true) (k16 : PySem.W.keepIn K (.ref f16) = true)
    {od17 an17 : Option Addr} {sl17 : Array (Option Value)} {oc17 kV17 dc17 pm17 cd17 ct17 : Value}
    (a17 : PySem.W.nsIn K mainGlobals "_law_scoop" = some (some (.ref f17))) (l17 : K.lookup f17 = some ⟨oc17, od17, .func (PySem.W.fnOf "_law_scoop" "_law_scoop" (defArgs s_l_scoop) (defBody s_l_scoop) (defScope s_l_scoop) .none kV17 dc17 pm17 an17 cd17 ct17), sl17⟩)
    (c17 : PySem.W.codeIn K cd17 "_law_scoop" = true) (k17 : PySem.W.keepIn K (.ref f17) = true)
    {od18 an18 : Option Addr} {sl18 : Array (Option Value)} {oc18 kV18 dc18 pm18 cd18 ct18 : Value}
    (a18 : PySem.W.nsIn K mainGlobals "_law_row" = some (some (.ref f18))) (l18 : K.lookup f18 = some ⟨oc18, od18, .func (PySem.W.fnOf "_law_row" "_law_row" (defArgs s_l_row) (defBody s_l_row) (defScope s_l_row) .none kV18 dc18 pm18 an18 cd18 ct18), sl18⟩)
    (c18 : PySem.W.codeIn K cd18 "_law_row" = true) (k18 : PySem.W.keepIn K (.ref f18) = true)
    {od19 an19 : Option Addr} {sl19 : Array (Option Value)} {oc19 kV19 dc19 pm19 cd19 ct19 : Value}
    (a19 : PySem.W.nsIn K mainGlobals "_law_settings" = some (some (.ref f19))) (l19 : K.lookup f19 = some ⟨oc19, od19, .func (PySem.W.fnOf "_law_settings" "_law_settings" (defArgs s_l_settings) (defBody s_l_settings) (defScope s_l_settings) .none kV19 dc19 pm19 an19 cd19 ct19), sl19⟩)
    (c19 : PySem.W.codeIn K cd19 "_law_settings" = true) (k19 : PySem.W.keepIn K (.ref f19) = true)
    {od20 an20 : Option Addr} {sl20 : Array (Option Value)} {oc20 kV20 dc20 pm20 cd20 ct20 : Value}
    (a20 : PySem.W.nsIn K mainGlobals "_law_led" = some (some (.ref f20))) (l20 : K.lookup f20 = some ⟨oc20, od20, .func (PySem.W.fnOf "_law_led" "_law_led" (defArgs s_l_led) (defBody s_l_led) (defScope s_l_led) .none kV20 dc20 pm20 an20 cd20 ct20), sl20⟩)
    (c20 : PySem.W.codeIn K cd20 "_law_led" = true) (k20 : PySem.W.keepIn K (.ref f20) = true)
    {od21 an21 : Option Addr} {sl21 : Array (Option Value)} {oc21 kV21 dc21 pm21 cd21 ct21 : Value}
    (a21 : PySem.W.nsIn K mainGlobals "_law_earliest" = some (some (.ref f21))) (l21 : K.lookup f21 = some ⟨oc21, od21, .func (PySem.W.fnOf "_law_earliest" "_law_earliest" (defArgs s_l_earliest) (defBody s_l_earliest) (defScope s_l_earliest) .none kV21 dc21 pm21 an21 cd21 ct21), sl21⟩)
    (c21 : PySem.W.codeIn K cd21 "_law_earliest" = true) (k21 : PySem.W.keepIn K (.ref f21) = true)
    {od22 an22 : Option Addr} {sl22 : Array (Option Value)} {oc22 kV22 dc22 pm22 cd22 ct22 : Value}
    (a22 : PySem.W.nsIn K mainGlobals "_law_small_right" = some (some (.ref f22))) (l22 : K.lookup f22 = some ⟨oc22, od22, .func (PySem.W.fnOf "_law_small_right" "_law_small_right" (defArgs s_l_small_right) (defBody s_l_small_right) (defScope s_l_small_right) .none kV22 dc22 pm22 an22 cd22 ct22), sl22⟩)
    (c22 : PySem.W.codeIn K cd22 "_law_small_right" = true) (k22 : PySem.W.keepIn K (.ref f22) = true)
    {od23 an23 : Option Addr} {sl23 : Array (Option Value)} {oc23 kV23 dc23 pm23 cd23 ct23 : Value}
    (a23 : PySem.W.nsIn K mainGlobals "_law_great_right" = some (some (.ref f23))) (l23 : K.lookup f23 = some ⟨oc23, od23, .func (PySem.W.fnOf "_law_great_right" "_law_great_right" (defArgs s_l_great_right) (defBody s_l_great_right) (defScope s_l_great_right) .none kV23 dc23 pm23 an23 cd23 ct23), sl23⟩)
    (c23 : PySem.W.codeIn K cd23 "_law_great_right" = true) (k23 : PySem.W.keepIn K (.ref f23) = true)
    {od24 an24 : Option Addr} {sl24 : Array (Option Value)} {oc24 kV24 dc24 pm24 cd24 ct24 : Value}
    (a24 : PySem.W.nsIn K mainGlobals "law" = some (some (.ref f24))) (l24 : K.lookup f24 = some ⟨oc24, od24, .func (PySem.W.fnOf "law" "law" (defArgs s_law) (defBody s_law) (defScope s_law) .none kV24 dc24 pm24 an24 cd24 ct24), sl24⟩)
    (c24 : PySem.W.codeIn K cd24 "law" = true) (k24 : PySem.W.keepIn K (.ref f24) = true)
    {tc_MOST_WIRES : Tok} (ac_MOST_WIRES : PySem.W.nsIn K mainGlobals "MOST_WIRES" = some (some (.int 6 tc_MOST_WIRES)))
    (z_isinstance : PySem.W.nsIn K mainGlobals "isinstance" = some none)
    (z_type : PySem.W.nsIn K mainGlobals "type" = some none)
    (z_int : PySem.W.nsIn K mainGlobals "int" = some none)
    (z_bool : PySem.W.nsIn K mainGlobals "bool" = some none)
    (z_list : PySem.W.nsIn K mainGlobals "list" = some none)
    (z_tuple : PySem.W.nsIn K mainGlobals "tuple" = some none)
    (z_all : PySem.W.nsIn K mainGlobals "all" = some none)
    (z_len : PySem.W.nsIn K mainGlobals "len" = some none)
    (z_sorted : PySem.W.nsIn K mainGlobals "sorted" = some none)
    (z_range : PySem.W.nsIn K mainGlobals "range" = some none)
    (z_zip : PySem.W.nsIn K mainGlobals "zip" = some none)
    (z_enumerate : PySem.W.nsIn K mainGlobals "enumerate" = some none)
    (z_max : PySem.W.nsIn K mainGlobals "max" = some none)
    (z_abs : PySem.W.nsIn K mainGlobals "abs" = some none)
    (z_repr : PySem.W.nsIn K mainGlobals "repr" = some none)
    : ∃ fd : FuncData, (∀ (s : Shared) (v : Value), BindsTo s fd ⟨[v], []⟩ [("_law_script", v)]) ∧ ∀ base : Heap, K.In base → base.Ns mainGlobals mg → FnOk l.prog w K mg base CX0 7 fa fd ["_law_script"] (sp_law K) := by
  have e := hfa.symm.trans (PySem.W.mg_of X G a24)
  cases e
  have F0 := fun_mk (st := s_is_integer) l0 c0 k0
  have b0 := F0.binds (ps := ["value"]) fun _ _ _ _ _ _ us hl => match us, hl with | [_], _ => rfl
  have F1 := fun_mk (st := s_is_within) l1 c1 k1
  have b1 := F1.binds (ps := ["value", "least", "most"]) fun _ _ _ _ _ _ us hl => match us, hl with | [_, _, _], _ => rfl
  have F2 := fun_mk (st := s_is_list) l2 c2 k2
  have b2 := F2.binds (ps := ["value"]) fun _ _ _ _ _ _ us hl => match us, hl with | [_], _ => rfl
  have F3 := fun_mk (st := s_is_numbers) l3 c3 k3
  have b3 := F3.binds (ps := ["value"]) fun _ _ _ _ _ _ us hl => match us, hl with | [_], _ => rfl
  have F4 := fun_mk (st := s_is_size) l4 c4 k4
  have b4 := F4.binds (ps := ["value"]) fun _ _ _ _ _ _ us hl => match us, hl with | [_], _ => rfl
  have F5 := fun_mk (st := s_is_setting) l5 c5 k5
  have b5 := F5.binds (ps := ["value", "many"]) fun _ _ _ _ _ _ us hl => match us, hl with | [_, _], _ => rfl
  have F6 := fun_mk (st := s_need_size) l6 c6 k6
  have b6 := F6.binds (ps := ["size"]) fun _ _ _ _ _ _ us hl => match us, hl with | [_], _ => rfl
  have F7 := fun_mk (st := s_is_wiring) l7 c7 k7
  have b7 := F7.binds (ps := ["value"]) fun _ _ _ _ _ _ us hl => match us, hl with | [_], _ => rfl
  have F8 := fun_mk (st := s_led) l8 c8 k8
  have b8 := F8.binds (ps := ["row", "setting"]) fun _ _ _ _ _ _ us hl => match us, hl with | [_, _], _ => rfl
  have F9 := fun_mk (st := s_need_wiring) l9 c9 k9
  have b9 := F9.binds (ps := ["value", "part"]) fun _ _ _ _ _ _ us hl => match us, hl with | [_, _], _ => rfl
  have F10 := fun_mk (st := s_led_to) l10 c10 k10
  have b10 := F10.binds (ps := ["row", "setting"]) fun _ _ _ _ _ _ us hl => match us, hl with | [_, _], _ => rfl
  have F11 := fun_mk (st := s_settings_of) l11 c11 k11
  have b11 := F11.binds (ps := ["row"]) fun _ _ _ _ _ _ us hl => match us, hl with | [_], _ => rfl
  have F12 := fun_mk (st := s_is_kept) l12 c12 k12
  have b12 := F12.binds (ps := ["row", "size"]) fun _ _ _ _ _ _ us hl => match us, hl with | [_, _], _ => rfl
  have F13 := fun_mk (st := s_colours_of) l13 c13 k13
  have b13 := F13.binds (ps := ["row"]) fun _ _ _ _ _ _ us hl => match us, hl with | [_], _ => rfl
  have F14 := fun_mk (st := s_both_settings) l14 c14 k14
  have b14 := F14.binds (ps := ["row"]) fun _ _ _ _ _ _ us hl => match us, hl with | [_], _ => rfl
  have F15 := fun_mk (st := s_kept_at) l15 c15 k15
  have b15 := F15.binds (ps := ["row", "size"]) fun _ _ _ _ _ _ us hl => match us, hl with | [_, _], _ => rfl
  have F16 := fun_mk (st := s_l_cup) l16 c16 k16
  have b16 := F16.binds (ps := ["_law_script"]) fun _ _ _ _ _ _ us hl => match us, hl with | [_], _ => rfl
  have F17 := fun_mk (st := s_l_scoop) l17 c17 k17
  have b17 := F17.binds (ps := ["_law_cup_here", "_law_many"]) fun _ _ _ _ _ _ us hl => match us, hl with | [_, _], _ => rfl
  have F18 := fun_mk (st := s_l_row) l18 c18 k18
  have b18 := F18.binds (ps := ["_law_cup_here", "_law_wires"]) fun _ _ _ _ _ _ us hl => match us, hl with | [_, _], _ => rfl
  have F19 := fun_mk (st := s_l_settings) l19 c19 k19
  have b19 := F19.binds (ps := ["_law_wires", "_law_size"]) fun _ _ _ _ _ _ us hl => match us, hl with | [_, _], _ => rfl
  have F20 := fun_mk (st := s_l_led) l20 c20 k20
  have b20 := F20.binds (ps := ["_law_row_here", "_law_tops"]) fun _ _ _ _ _ _ us hl => match us, hl with | [_, _], _ => rfl
  have F21 := fun_mk (st := s_l_earliest) l21 c21 k21
  have b21 := F21.binds (ps := ["_law_tops", "_law_bottoms"]) fun _ _ _ _ _ _ us hl => match us, hl with | [_, _], _ => rfl
  have F22 := fun_mk (st := s_l_small_right) l22 c22 k22
  have b22 := F22.binds (ps := ["_law_cup_here"]) fun _ _ _ _ _ _ us hl => match us, hl with | [_], _ => rfl
  have F23 := fun_mk (st := s_l_great_right) l23 c23 k23
  have b23 := F23.binds (ps := ["_law_cup_here"]) fun _ _ _ _ _ _ us hl => match us, hl with | [_], _ => rfl
  have F24 := fun_mk (st := s_law) l24 c24 k24
  have b24 := F24.binds (ps := ["_law_script"]) fun _ _ _ _ _ _ us hl => match us, hl with | [_], _ => rfl
  let T : Txt K mg := {
    a_is_integer := f0, fd_is_integer := _, F_is_integer := F0, g_is_integer := PySem.W.mg_of X G a0, b_is_integer := b0,
    a_is_within := f1, fd_is_within := _, F_is_within := F1, g_is_within := PySem.W.mg_of X G a1, b_is_within := b1,
    a_is_list := f2, fd_is_list := _, F_is_list := F2, g_is_list := PySem.W.mg_of X G a2, b_is_list := b2,
    a_is_numbers := f3, fd_is_numbers := _, F_is_numbers := F3, g_is_numbers := PySem.W.mg_of X G a3, b_is_numbers := b3,
    a_is_size := f4, fd_is_size := _, F_is_size := F4, g_is_size := PySem.W.mg_of X G a4, b_is_size := b4,
    a_is_setting := f5, fd_is_setting := _, F_is_setting := F5, g_is_setting := PySem.W.mg_of X G a5, b_is_setting := b5,
    a_need_size := f6, fd_need_size := _, F_need_size := F6, g_need_size := PySem.W.mg_of X G a6, b_need_size := b6,
    a_is_wiring := f7, fd_is_wiring := _, F_is_wiring := F7, g_is_wiring := PySem.W.mg_of X G a7, b_is_wiring := b7,
    a_led := f8, fd_led := _, F_led := F8, g_led := PySem.W.mg_of X G a8, b_led := b8,
    a_need_wiring := f9, fd_need_wiring := _, F_need_wiring := F9, g_need_wiring := PySem.W.mg_of X G a9, b_need_wiring := b9,
    a_led_to := f10, fd_led_to := _, F_led_to := F10, g_led_to := PySem.W.mg_of X G a10, b_led_to := b10,
    a_settings_of := f11, fd_settings_of := _, F_settings_of := F11, g_settings_of := PySem.W.mg_of X G a11, b_settings_of := b11,
    a_is_kept := f12, fd_is_kept := _, F_is_kept := F12, g_is_kept := PySem.W.mg_of X G a12, b_is_kept := b12,
    a_colours_of := f13, fd_colours_of := _, F_colours_of := F13, g_colours_of := PySem.W.mg_of X G a13, b_colours_of := b13,
    a_both_settings := f14, fd_both_settings := _, F_both_settings := F14, g_both_settings := PySem.W.mg_of X G a14, b_both_settings := b14,
    a_kept_at := f15, fd_kept_at := _, F_kept_at := F15, g_kept_at := PySem.W.mg_of X G a15, b_kept_at := b15,
    a_l_cup := f16, fd_l_cup := _, F_l_cup := F16, g_l_cup := PySem.W.mg_of X G a16, b_l_cup := b16,
    a_l_scoop := f17, fd_l_scoop := _, F_l_scoop := F17, g_l_scoop := PySem.W.mg_of X G a17, b_l_scoop := b17,
    a_l_row := f18, fd_l_row := _, F_l_row := F18, g_l_row := PySem.W.mg_of X G a18, b_l_row := b18,
    a_l_settings := f19, fd_l_settings := _, F_l_settings := F19, g_l_settings := PySem.W.mg_of X G a19, b_l_settings := b19,
    a_l_led := f20, fd_l_led := _, F_l_led := F20, g_l_led := PySem.W.mg_of X G a20, b_l_led := b20,
    a_l_earliest := f21, fd_l_earliest := _, F_l_earliest := F21, g_l_earliest := PySem.W.mg_of X G a21, b_l_earliest := b21,
    a_l_small_right := f22, fd_l_small_right := _, F_l_small_right := F22, g_l_small_right := PySem.W.mg_of X G a22, b_l_small_right := b22,
    a_l_great_right := f23, fd_l_great_right := _, F_l_great_right := F23, g_l_great_right := PySem.W.mg_of X G a23, b_l_great_right := b23,
    a_law := fa, fd_law := _, F_law := F24, g_law := PySem.W.mg_of X G a24, b_law := b24,
    t_MOST := tc_MOST_WIRES, c_MOST_WIRES := PySem.W.mg_of X G ac_MOST_WIRES,
    z_isinstance := PySem.W.mg_none_of X G z_isinstance,
    z_type := PySem.W.mg_none_of X G z_type,
    z_int := PySem.W.mg_none_of X G z_int,
    z_bool := PySem.W.mg_none_of X G z_bool,
    z_list := PySem.W.mg_none_of X G z_list,
    z_tuple := PySem.W.mg_none_of X G z_tuple,
    z_all := PySem.W.mg_none_of X G z_all,
    z_len := PySem.W.mg_none_of X G z_len,
    z_sorted := PySem.W.mg_none_of X G z_sorted,
    z_range := PySem.W.mg_none_of X G z_range,
    z_zip := PySem.W.mg_none_of X G z_zip,
    z_enumerate := PySem.W.mg_none_of X G z_enumerate,
    z_max := PySem.W.mg_none_of X G z_max,
    z_abs := PySem.W.mg_none_of X G z_abs,
    z_repr := PySem.W.mg_none_of X G z_repr }
  exact ⟨PySem.W.fnOf "law" "law" (defArgs s_law) (defBody s_law) (defScope s_law) .none kV24 dc24 pm24 an24 cd24 ct24, fun s v => .of_eq rfl, fun base _ _ => ok_law T⟩
end My
open PySem PySem.W PyProof.Rows
set_option maxHeartbeats 0 in
theorem PySem.Challenge.cw_fromsize_k08_whole_kept_ones_are_the_ear_holds : PySem.Challenge.rw_fromsize_k08_whole_kept_ones_are_the_ear.Holds := by
  w_on; o_law; k_head; (case hw => w_witness2)
  k_fill
  refine L2.walk_of (l := PySem.Challenge.rw_fromsize_k08_whole_kept_ones_are_the_ear) (n := 63) (k := 7) (x := "_law_script") (CX := fun _ => L2.CX0) (sp := fun w => My.sp_law _) rfl (by decide) rfl ⟨rfl, by decide, by decide⟩ (fun w h Y => PySem.W.kIn_of Y) ?F (fun _ _ a ns hl _ hS => ⟨a, ns, rfl, hS, hl, fun _ => rfl⟩) (fun _ _ _ _ _ h => h)
  case F =>
    intro w mg fa h KX G hmg
    refine' My.all_mk KX G hmg ?a0 ?l0 ?c0 ?k0 ?a1 ?l1 ?c1 ?k1 ?a2 ?l2 ?c2 ?k2 ?a3 ?l3 ?c3 ?k3 ?a4 ?l4 ?c4 ?k4 ?a5 ?l5 ?c5 ?k5 ?a6 ?l6 ?c6 ?k6 ?a7 ?l7 ?c7 ?k7 ?a8 ?l8 ?c8 ?k8 ?a9 ?l9 ?c9 ?k9 ?a10 ?l10 ?c10 ?k10 ?a11 ?l11 ?c11 ?k11 ?a12 ?l12 ?c12 ?k12 ?a13 ?l13 ?c13 ?k13 ?a14 ?l14 ?c14 ?k14 ?a15 ?l15 ?c15 ?k15 ?a16 ?l16 ?c16 ?k16 ?a17 ?l17 ?c17 ?k17 ?a18 ?l18 ?c18 ?k18 ?a19 ?l19 ?c19 ?k19 ?a20 ?l20 ?c20 ?k20 ?a21 ?l21 ?c21 ?k21 ?a22 ?l22 ?c22 ?k22 ?a23 ?l23 ?c23 ?k23 ?a24 ?l24 ?c24 ?k24 ?ac_MOST_WIRES ?z_isinstance ?z_type ?z_int ?z_bool ?z_list ?z_tuple ?z_all ?z_len ?z_sorted ?z_range ?z_zip ?z_enumerate ?z_max ?z_abs ?z_repr
    (case a0 => k_is)
    (case l0 => k_is)
    (case c0 => k_is)
    (case k0 => k_is)
    (case a1 => k_is)
    (case l1 => k_is)
    (case c1 => k_is)
    (case k1 => k_is)
    (case a2 => k_is)
    (case l2 => k_is)
    (case c2 => k_is)
    (case k2 => k_is)
    (case a3 => k_is)
    (case l3 => k_is)
    (case c3 => k_is)
    (case k3 => k_is)
    (case a4 => k_is)
    (case l4 => k_is)
    (case c4 => k_is)
    (case k4 => k_is)
    (case a5 => k_is)
    (case l5 => k_is)
    (case c5 => k_is)
    (case k5 => k_is)
    (case a6 => k_is)
    (case l6 => k_is)
    (case c6 => k_is)
    (case k6 => k_is)
    (case a7 => k_is)
    (case l7 => k_is)
    (case c7 => k_is)
    (case k7 => k_is)
    (case a8 => k_is)
    (case l8 => k_is)
    (case c8 => k_is)
    (case k8 => k_is)
    (case a9 => k_is)
    (case l9 => k_is)
    (case c9 => k_is)
    (case k9 => k_is)
    (case a10 => k_is)
    (case l10 => k_is)
    (case c10 => k_is)
    (case k10 => k_is)
    (case a11 => k_is)
    (case l11 => k_is)
    (case c11 => k_is)
    (case k11 => k_is)
    (case a12 => k_is)
    (case l12 => k_is)
    (case c12 => k_is)
    (case k12 => k_is)
    (case a13 => k_is)
    (case l13 => k_is)
    (case c13 => k_is)
    (case k13 => k_is)
    (case a14 => k_is)
    (case l14 => k_is)
    (case c14 => k_is)
    (case k14 => k_is)
    (case a15 => k_is)
    (case l15 => k_is)
    (case c15 => k_is)
    (case k15 => k_is)
    (case a16 => k_is)
    (case l16 => k_is)
    (case c16 => k_is)
    (case k16 => k_is)
    (case a17 => k_is)
    (case l17 => k_is)
    (case c17 => k_is)
    (case k17 => k_is)
    (case a18 => k_is)
    (case l18 => k_is)
    (case c18 => k_is)
    (case k18 => k_is)
    (case a19 => k_is)
    (case l19 => k_is)
    (case c19 => k_is)
    (case k19 => k_is)
    (case a20 => k_is)
    (case l20 => k_is)
    (case c20 => k_is)
    (case k20 => k_is)
    (case a21 => k_is)
    (case l21 => k_is)
    (case c21 => k_is)
    (case k21 => k_is)
    (case a22 => k_is)
    (case l22 => k_is)
    (case c22 => k_is)
    (case k22 => k_is)
    (case a23 => k_is)
    (case l23 => k_is)
    (case c23 => k_is)
    (case k23 => k_is)
    (case a24 => k_is)
    (case l24 => k_is)
    (case c24 => k_is)
    (case k24 => k_is)
    (case ac_MOST_WIRES => k_is)
    (case z_isinstance => k_is)
    (case z_type => k_is)
    (case z_int => k_is)
    (case z_bool => k_is)
    (case z_list => k_is)
    (case z_tuple => k_is)
    (case z_all => k_is)
    (case z_len => k_is)
    (case z_sorted => k_is)
    (case z_range => k_is)
    (case z_zip => k_is)
    (case z_enumerate => k_is)
    (case z_max => k_is)
    (case z_abs => k_is)
    (case z_repr => k_is)

