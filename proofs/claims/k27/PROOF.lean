import PyProof.Rows.All
import Wide.All
import OpenK.AllK
import Wide.FinOn
import KE.GoesEnum
import KE.DataMinMax
import HandS.ForMost
import HandS.SortKw
import HandS.Set
import HandS.IsInst
import HandS.Conv
import HandS.Deep
import HandS.TupAny
import HandS.Wide
import HandS.Zip
import KE.KIndexOf
import HandS.TupLe
import HandS.RaiseMore
import KE.KSort
import HandS.Evl
import HandS.Codes
import HandS.ForExc
import HandS.ExcInit
import HandS.ExcField
import HandS.ExcIs
import HandS.Lambda
import HandS.EndTab
import KE.KExcIs
import KE.KNestM
import HandS.TupSets
import HandS.Style
import KE.KRevSl
import HandS.SetFor
import HandS.Strs
import HandS.EndOwn
import HandS.Text
import HandS.More
import KE.LtData
import HandS.Replace
import HandS.WordsExc
import KE.SortData
import KE.SortLaws
import PySem.Challenge.RW_fromsize_k27_rises_and_colours
set_option Elab.async false
set_option linter.all false
set_option maxRecDepth 100000
set_option maxHeartbeats 4000000
namespace My
open PySem PySem.Spec PyProof.Rows L2

/-! sorted of a list or a tuple of ints -/
section
variable {P : Program} {w : World} {A : Around} {E : Value → Shared → Prop} {s : Shared}
theorem sorted_two {l : Addr} {T : String} {o : Obj} {vs : List Value} {ns : List Int} {m : Nat} {Q : Value → Shared → Prop}
    (hT : T = "list" ∨ T = "tuple") (ho : s.heap.get? l = some o) (hc : o.cls = .type T) (hd : o.data = .seq vs.toArray m)
    (hI : IntsAre vs ns) (h64 : vs.length < 64)
    (hQ : ∀ (h1 h' : Heap) (out : Array Value) (c : Nat) (ns' : List Int), (∀ b u, s.heap.get? b = some u → h1.get? b = some u) →
      (∀ b u, h1.get? b = some u → h'.get? b = some u) → h'.get? h1.objs.size = some (seqObj "list" out c) → IntsAre out.toList ns' → ns'.Perm ns → ns'.Pairwise (· ≤ ·) →
      Q (.ref h1.objs.size) { s with heap := h' }) :
    wpAny (model P w) A (call (.builtin "sorted") [.ref l]) Q E s := by
  have small : vs.length ≤ sizeLine := by
    rw [sizeLine_eq]
    omega
  refine Calls.call_function_entry kind_sorted plain_sorted entry_sorted
    (args_sorted1 _) ?_
  unfold Builtin.«sorted»
  refine wpAny_bind (m := checkCount "sorted" 1 1 _)
    (wpAny_pure ?_)
  refine wpAny_bind (wpAny_collect_seq (A := A.in1) l hT ho hc hd
    (fun h1 k1 => ?_) (by simpa using small))
  refine wpAny_bind (wpAny_newList ?_ (by simpa using small))
  have at1 : (h1.push (seqObj "list" vs.toArray 0)).get? h1.objs.size
      = some (seqObj "list" vs.toArray 0) := Heap.get?_push_size _ rfl
  refine wpAny_bind (wpAny_holding (wpAny_call_entry slot_list_sort
    ⟨_, at1, rfl⟩ entry_list_sort
    (list_sort_tree at1 hI h64 fun out ns' a1 a2 a3 => ⟨_, rfl, ?_⟩)
    (args_list_sort _)))
  obtain ⟨c, hcc⟩ := sortedHeap_at (vs := vs) (out := out) at1
  refine wpAny_pure ⟨_, rfl, hQ h1 _ out c ns' k1
    (fun b u q => ?_) hcc a1 a2 a3⟩
  have lt := Heap.lt_size q
  rw [sortedHeap_old (Nat.ne_of_lt lt)
    (by rw [size_push']; exact Nat.lt_succ_of_lt lt)]
  exact Heap.get?_push_of_some _ q
end
/-- a list or a tuple at a -/
def Sq (K : PySem.W.Frag) (H : Hp) (a : Addr) (xs : List V) : Prop := SqL K H a xs ∨ SqT K H a xs
section
variable {X : Cx}
def rSort2 (K : PySem.W.Frag) : List V → Hp → VK → Prop := fun vs H Q => ∃ (a : Addr) (ns : List Int), vs = [V.ref a] ∧
  Sq K H a (ns.map V.int) ∧ ns.length < 64 ∧ ∀ (ns' : List Int) (p : Addr), ns'.Perm ns → ns'.Pairwise (· ≤ ·) → H p = none →
    Q (.ref p) (upd H p (.lst (ns'.map V.int)))
theorem cr_sort2 : CallR X (.builtin "sorted") (rSort2 X.K) := by
  intro pins s σ H vs us Q I r h
  obtain ⟨a, ns, rfl, hs, h64, q⟩ := h
  have main : ∀ (T : String) (o : Obj) (its : List Value) (m : Nat), (T = "list" ∨ T = "tuple") → Vals (ns.map V.int) its →
      s.heap.get? a = some o → o.cls = .type T → o.data = .seq its.toArray m →
      wpAny (model X.prog X.w) X.A (call (.builtin "sorted") us) (EP X pins σ Q) X.xe s := by
    intro T o its m hT rv ho hc hd
    have hi := rv.ints
    have hl : its.length < 64 := by
      rw [hi.length]
      exact h64
    have e1 := Vals.ref1 r
    subst e1
    refine sorted_two hT ho hc hd hi hl
      fun h1 h' out c ns' k1 k2 at1 b1 b2 b3 => ?_
    have I1 : Inv X pins σ H { s with heap := h1 } :=
      I.kept (t' := s.toks) k1
    have len1 : (ns'.map V.int).length ≤ sizeLine := by
      rw [List.length_map, b2.length_eq, sizeLine_eq]
      omega
    have I2 : Inv X pins σ (upd H h1.objs.size (.lst (ns'.map V.int)))
        { s with heap := h' } :=
      I1.laid (t' := s.toks) k2 (Nat.le_refl _)
        ⟨len1, out.toList, c, vals_of_ints b1, at1⟩
    exact ⟨.ref h1.objs.size, _, I2, rfl,
      q ns' _ b2 b3 (I1.hok.fresh (Nat.le_refl _))⟩
  rcases hs with hs | hs
  · obtain ⟨its, rv, ⟨o, n, e1, e2, e3, e4⟩, _⟩ := I.list hs
    exact main "list" o its n (.inl rfl) rv e1 e2 e4
  · obtain ⟨its, rv, ⟨o, e1, e2, n, e3⟩, _⟩ := I.tuple hs
    exact main "tuple" o its n (.inr rfl) rv e1 e2 e3

/-! max of a list of ints, default= an int -/
def mx (d : Int) : List Int → Int
  | [] => d
  | y :: ys => ys.foldl max y
theorem alikes (ns : List Int) : PySem.W.AlikeAll (ns.map PyData.int) := by
  refine ⟨fun x hx y hy => ?_, fun x hx => ?_⟩
  · obtain ⟨i, _, rfl⟩ := List.mem_map.mp hx
    obtain ⟨j, _, rfl⟩ := List.mem_map.mp hy
    rfl
  · obtain ⟨i, _, rfl⟩ := List.mem_map.mp hx
    intro z
    cases z
theorem depth_ints : ∀ ns : List Int, PyData.depthAll (ns.map PyData.int) ≤ 1
  | [] => by
    show 0 ≤ 1
    omega
  | n :: ns => by
    have ih := depth_ints ns
    show max (PyData.depth (.int n)) (PyData.depthAll (ns.map PyData.int)) ≤ 1
    have h1 : PyData.depth (.int n) ≤ 1 := by
      show _ ≤ 1
      simp [PyData.depth]
    omega
def rMaxDf (K : PySem.W.Frag) : List V → List V → Hp → VK → Prop := fun vs zs H Q => ∃ (a : Addr) (ns : List Int) (d : Int),
  vs = [V.ref a] ∧ zs = [V.int d] ∧ SqL K H a (ns.map V.int) ∧ Q (.int (mx d ns)) H
theorem cr_maxDf (hc : X.calm = true) (hu : X.A.units + 64 < cLine) : CallRK X (.builtin "max") ["default"] (rMaxDf X.K) := by
  intro pins s σ H vs zs us ws Q I r r2 h
  obtain ⟨a, ns, d, rfl, rfl, hs, q⟩ := h
  have e1 := Vals.ref1 r
  subst e1
  obtain ⟨u, rfl, ru⟩ := r2.one
  obtain ⟨tk0, rfl⟩ := ru
  obtain ⟨its, rv, hl, _⟩ := I.list hs
  have hi := rv.ints
  have hr : ReadsAll s.heap its.toArray.toList (ns.map PyData.int) [] := by
    have := hi.reads s.heap
    simpa using this
  refine PySem.W.max_list_default (d := .int d tk0) (I.ok.hd hc) hl.isList hr (alikes ns)
    (by have := depth_ints ns; omega) (fun e h' tk k => ?_) fun y ys i v h' tk bs e hv rd k => ?_
  · cases ns with
    | nil => exact ⟨.int d, H, I.kept k, ⟨_, rfl⟩, q⟩
    | cons n ns => cases e
  · cases ns with
    | nil => cases e
    | cons n ns =>
      rw [List.map_cons] at e
      injection e with e2 e3
      subst e2 e3
      rw [PySem.W.maxD_ints] at rd
      cases rd with
      | int _ t => exact ⟨.int _, H, I.kept k, ⟨_, rfl⟩, q⟩
end
/-! enumerate of a tuple -/
set_option maxHeartbeats 2000000 in
theorem enum_new1 {v : Value} {o : Obj} {G : Heap → Prop} (B : Begins v o G) :
    Meets (Builtin.«enumerate.__new__» ⟨[.type "enumerate", v], []⟩) (fun _ R s => G s.heap ∧
      R (.ok (.ret (.ref (s.heap.push o).objs.size)))
        { s with heap := (s.heap.push o).push { cls := .type "enumerate", data := .fields #[.none, .bool false, .ref s.heap.objs.size, rawInt 0, .none, .none] } }) :=
  .of_wp fun prog w A R s h => by
    obtain ⟨hp, g, d, tk, os⟩ := s
    obtain ⟨h1, h⟩ := h
    have sub0 := sub_enumerate
    have goes : ∀ {A' : Around} {E : Value → Shared → Prop} {Q : Value → Shared → Prop},
        Q (.ref hp.objs.size) ⟨hp.push o, g, d, tk, os⟩ →
        wpAny (model prog w) A' (pyIter v) Q E ⟨hp, g, d, tk, os⟩ :=
      fun q => B.iter prog w _ _ ⟨hp, g, d, tk, os⟩ _ h1 q
    wp_walk using goes
    refine wpAny_stack_any fun st =>
      wpAny_pure ?_
    split
    · rename_i c _ _ _ _ _
      cases (c == Value.type "enumerate") <;>
        (wp_walk using goes
         exact ⟨_, rfl, h⟩)
    · wp_walk using goes
      exact ⟨_, rfl, h⟩
section
variable {prog : Program} {w : World} {A : Around} {E : Value → Shared → Prop} {s : Shared}
theorem call_enum1 {v : Value} {o : Obj} {G : Heap → Prop} {Q : Value → Shared → Prop} (B : Begins v o G) (h1 : G s.heap)
    (h : ∀ h', IsEnum h' (s.heap.objs.size + 1) s.heap.objs.size 0 .none → h'.get? s.heap.objs.size = some o →
      (∀ b o, s.heap.get? b = some o → h'.get? b = some o) → Q (.ref (s.heap.objs.size + 1)) { s with heap := h' }) :
    wpAny (model prog w) A (call (.type "enumerate") [v]) Q E s := by
  refine callType_new F.called_enumerate (by decide) (F.typeCall_enumerate_1 _)
    (F.newCall_enumerate_1 _) (fun obj => F.args_object_init_2 obj _)
    F.entry_enumerate_new (enum_new1 B) ⟨h1, ?_⟩
  have hz : (s.heap.push o).objs.size = s.heap.objs.size + 1 := Heap.size_push ..
  show _ ∧ _
  rw [hz]
  have he : IsEnum ((s.heap.push o).push { cls := .type "enumerate", data := .fields #[.none, .bool false, .ref s.heap.objs.size, rawInt 0, .none, .none] })
      (s.heap.objs.size + 1) s.heap.objs.size 0 .none := by
    have t := Heap.get?_push_size (s.heap.push o)
      (o := { cls := .type "enumerate", data := .fields #[.none, .bool false, .ref s.heap.objs.size, rawInt 0, .none, .none] }) rfl
    rw [hz] at t
    exact t
  refine ⟨⟨_, he, rfl⟩, h _ he (Heap.get?_push_of_some _
    (Heap.get?_push_size _ B.free)) fun b o x => ?_⟩
  exact Heap.get?_push_of_some _ (Heap.get?_push_of_some _ x)
end
/-- the tuple at a, each item in a new pair with its number -/
def IteT (K : PySem.W.Frag) (a : Addr) : It :=
  ⟨fun i H => ∃ (xs : List V) (x : V), SqT K H a xs ∧ xs[i]? = some x,
   fun i H v H' => ∃ T x, v = .ref T ∧ H T = none ∧ H' = upd H T (.tup [.int (i : Nat), x]) ∧
     ∀ xs, SqT K H a xs → xs[i]? = some x,
   fun i H => ∃ xs : List V, SqT K H a xs ∧ xs.length = i⟩
theorem turn_enumT {P : Program} {w : World} {K : PySem.W.Frag} {elts : List Expr} {kk : Nat} {tpos : Pos} {a e it : Addr} (hei : e ≠ it) (hai : a ≠ it) (hea : e ≠ a) :
    Turn P w K (.Tuple elts kk tpos) (IteT K a) [e, it] e
      (fun i h => (∃ old, IsEnum h e it ((i : Nat) : Int) old) ∧ h.IsTupleIter it a i) where
  mem := by simp
  obj := fun i h st b hb => by
    obtain ⟨⟨old, he⟩, ⟨o, ho, hc, hd⟩⟩ := st
    have e' : b = e ∨ b = it := by simpa using hb
    rcases e' with rfl | rfl
    · exact ⟨_, he, fun v q => nomatch q⟩
    · exact ⟨o, ho, fun v q => by
        rw [hd] at q
        cases q⟩
  keep := fun i h h' st k => by
    obtain ⟨⟨old, he⟩, hi⟩ := st
    exact ⟨⟨old, k e (by simp) _ he⟩,
      hi.at fun o q => k it (by simp) o q⟩
  item := by
    intro X hP hw hK hc i pins s σ H E I hf st hg
    subst hP hw hK
    obtain ⟨⟨old, he⟩, hit⟩ := st
    obtain ⟨xs, x, hq, hx⟩ := hg
    obtain ⟨its, rv, p, hz⟩ := I.tuple hq
    obtain ⟨u, hu, ru⟩ := rv.get hx
    have lte : e < s.heap.objs.size := Heap.lt_size he
    have lti : it < s.heap.objs.size := by
      obtain ⟨_, q, _⟩ := hit
      exact Heap.lt_size q
    have D := Draws.tuple (prog := X.prog) (w := X.w) (A := X.A.in1)
      (I.ok.hd hc) it a hai its.toArray
    have lx : i < its.toArray.size := by
      have := (List.getElem?_eq_some_iff.mp hu).1
      simpa using this
    refine wpAny_pyNext_enum_itemC D he
      ⟨hit, (show s.heap.IsTuple a its.toArray from p)⟩ lx hei
      (by simp [hei, hea])
      fun y h' tk hy ho st' hT hsz hk => ?_
    have ey : y = u := by
      have h2 : its.toArray[i]? = some y := hy
      have h3 : its.toArray[i]? = some u := by simpa using hu
      rw [h2] at h3
      exact Option.some.inj h3
    subst ey
    refine ⟨_, rfl, wpAny_letOwnedTupleGo_enum (s := { s with heap := h', toks := tk + 1 })
      ho fun h'' he' sb => ?_⟩
    have hT2 : h''.get? s.heap.objs.size = some { cls := .type "tuple", data := .seq #[.int i tk, y] } :=
      (sb.2 _ (Nat.ne_of_gt lte)).trans hT
    have new : ObjOk X.prog X.w (upd H s.heap.objs.size (.tup [.int (i : Nat), x])) h''
        s.heap.objs.size (.tup [.int (i : Nat), x]) :=
      ⟨by show 2 ≤ sizeLine; decide, [.int i tk, y],
        .cons ⟨_, rfl⟩ (.cons ru .nil), ⟨_, hT2, rfl, _, rfl⟩⟩
    have I1 : Inv X pins σ (upd H s.heap.objs.size (.tup [.int (i : Nat), x]))
        { s with heap := h'', toks := tk + 1 } :=
      I.turnedNew (ch := [e, it]) (fun b ob hb q =>
        (sb.2 b (fun z => hb (by simp [z]))).trans
          (hk b ob (fun z => hb (by simp [z])) (fun z => hb (by simp [z])) q))
        hf (Nat.le_refl _) new
    refine ⟨.ref s.heap.objs.size, _, I1, rfl, ⟨_, x, rfl,
      I.hok.fresh (Nat.le_refl _), rfl, fun ys hy => ?_⟩,
      ⟨⟨y, ?_⟩, st'.1.at fun o q => (sb.2 it (Ne.symm hei)).trans q⟩,
      fun b hb => ?_⟩
    · rw [I.tuple_inj hy hq]
      exact hx
    · have e1 : ((i + 1 : Nat) : Int) = (i : Int) + 1 := by omega
      rw [e1]
      exact he'
    · have hb' : b < s.heap.objs.size := by
        have e' : b = e ∨ b = it := by simpa using hb
        rcases e' with rfl | rfl
        · exact lte
        · exact lti
      rw [upd_ne (Nat.ne_of_lt hb')]
      exact (hf b hb).1
  done := by
    intro X hP hw hK hc i pins s σ H E I hf st hg
    subst hP hw hK
    obtain ⟨⟨old, he⟩, hit⟩ := st
    obtain ⟨xs, hq, hx⟩ := hg
    obtain ⟨its, rv, p, hz⟩ := I.tuple hq
    have hl := rv.length
    have D := Draws.tuple (prog := X.prog) (w := X.w) (A := X.A.in1)
      (I.ok.hd hc) it a hai its.toArray
    have e2 : its.toArray.size = i := by
      simp
      omega
    refine wpAny_pyNext_enum_endD D he (by
      rw [e2]
      exact ⟨hit, (show s.heap.IsTuple a its.toArray from p)⟩) fun h' eb => ⟨rfl, ?_⟩
    exact I.turnedL (t' := s.toks) (ch := [e, it])
      (fun b o hb q => eb b o (fun z => hb (by simp [z])) q) hf
  self := fun A i s Q E st h => by
    obtain ⟨⟨_, he⟩, _⟩ := st
    exact wpAny_pyIter_enum he h
def iEnumT (K : PySem.W.Frag) (ta : TA) : TI := fun σ H R => ta σ H fun vs H1 => ∃ a xs, vs = [.ref a] ∧ SqT K H1 a xs ∧ R (IteT K a) H1
theorem pi_enumT {X : Cx} {e : Expr} {ta : TA} {p pos tpos : Pos} {elts : List Expr} {kk : Nat} (hg : Gl X "enumerate") (hm : X.mg "enumerate" = none)
    (ha : PA X [e] ta) (hs : starEach [e] X.env = [(false, eval e X.env)] := by rfl) :
    PI X (.Tuple elts kk tpos) (.Call (.Name "enumerate" p) [e] [] pos) (iEnumT X.K ta) := by
  refine ⟨fun pins s σ H R I h => ?_⟩
  refine Call_ (ld_blt I hg hm boot_enumerate (PyProof.Rows.callWith_type1
    (thn (ha.run pos pins s σ H _ I h) fun us s1 ⟨vs, H1, I1, r1, q1⟩ => ?_) hs rfl))
  obtain ⟨a, xs, ex, hq, q⟩ := q1
  subst ex
  have e1 := Vals.ref1 r1
  subst e1
  obtain ⟨its, rv, p', hz⟩ := I1.tuple hq
  have la : a < s1.heap.objs.size := p'.lt
  refine call_enum1 (begins_tuple a its.toArray)
    (show s1.heap.IsTuple a its.toArray from p')
    fun h' he hit hk => wpAny_pyIter_enum he ?_
  have I2 : Inv X pins σ H1 { s1 with heap := h' } := I1.kept (t' := s1.toks) hk
  refine ⟨s1.heap.objs.size + 1, [s1.heap.objs.size + 1, s1.heap.objs.size], _, _, H1, rfl, I2,
    turn_enumT (a := a) (Nat.succ_ne_self _) (Nat.ne_of_lt la) (Nat.ne_of_gt (Nat.lt_succ_of_lt la)),
    ⟨⟨.none, he⟩, ⟨_, hit, rfl, rfl⟩⟩, fun b hb => ?_, q⟩
  have hle : s1.heap.objs.size ≤ b := by
    have e' : b = s1.heap.objs.size + 1 ∨ b = s1.heap.objs.size := by simpa using hb
    rcases e' with z | z
    · rw [z]
      exact Nat.le_succ _
    · rw [z]
      exact Nat.le_refl _
  exact I1.fpOk hle (I1.hok.fresh hle)
/-- a loop over enumerate of a tuple -/
theorem for_enumT {K : PySem.W.Frag} {a : Addr} {xs : List V} {g : TG} {tb : TS} {D : Ends} {σ : L2.St} {H : Hp} (Pv : Nat → L2.St → Hp → Prop) (h0 : Pv 0 σ H)
    (hq : ∀ i σ H, Pv i σ H → SqT K H a xs)
    (hs : ∀ (i : Nat) (x : V) (T : Addr) (σ : L2.St) (H : Hp), xs[i]? = some x → Pv i σ H → H T = none →
      g (.ref T) σ (upd H T (.tup [.int (i : Nat), x])) fun σ2 H2 => tb { D with nx := Pv (i + 1), ct := Pv (i + 1), bk := D.nx } σ2 H2)
    (hd : ∀ σ H, Pv xs.length σ H → D.nx σ H) :
    ∃ W : Nat → Nat → L2.St → Hp → Prop, (∃ m, W 0 m σ H) ∧ ∀ i m σ H, W i m σ H →
      ((IteT K a).stop i H ∧ D.nx σ H) ∨ ((IteT K a).go i H ∧ ∃ N : L2.St → Hp → Prop, (∀ σ' H', N σ' H' → ∃ m', m' < m ∧ W (i + 1) m' σ' H') ∧
        ∀ v H', (IteT K a).yld i H v H' → g v σ H' fun σ2 H2 => tb { D with nx := N, ct := N, bk := D.nx } σ2 H2) := by
  refine ⟨fun i m σ H => m = xs.length - i ∧ i ≤ xs.length ∧ Pv i σ H,
    ⟨xs.length, rfl, Nat.zero_le _, h0⟩, ?_⟩
  rintro i m σ H ⟨rfl, hi, p⟩
  have qx := hq i σ H p
  by_cases hlt : i < xs.length
  · have hx : xs[i]? = some xs[i] := List.getElem?_eq_getElem hlt
    refine .inr ⟨⟨xs, _, qx, hx⟩, Pv (i + 1),
      fun σ' H' p' => ⟨xs.length - (i + 1), by omega, rfl, hlt, p'⟩, fun v H' y => ?_⟩
    obtain ⟨T, x', rfl, hT, rfl, f1⟩ := y
    exact hs i x' T σ H (f1 xs qx) p hT
  · have e : i = xs.length := by omega
    subst e
    exact .inl ⟨⟨xs, qx, rfl⟩, hd σ H p⟩
/-! zip of a tuple and a list, as long -/
def ItzX (K : PySem.W.Frag) (a b : Addr) : It :=
  ⟨fun i H => ∃ (xs ys : List V) (x y : V), SqT K H a xs ∧ SqL K H b ys ∧ xs[i]? = some x ∧ ys[i]? = some y,
   fun i H v H' => ∃ T x y, v = .ref T ∧ H T = none ∧ H' = upd H T (.tup [x, y]) ∧
     (∀ xs, SqT K H a xs → xs[i]? = some x) ∧ ∀ ys, SqL K H b ys → ys[i]? = some y,
   fun i H => ∃ xs ys : List V, SqT K H a xs ∧ SqL K H b ys ∧ xs.length = i ∧ ys.length = i⟩
theorem turn_zipX {P : Program} {w : World} {K : PySem.W.Frag} {elts : List Expr} {kk : Nat} {tpos : Pos} {a b z TI TO i1 i2 : Addr}
    (S : ZipSep2 z TI TO i1 i2 [i1, a] [i2, b]) (ha1 : a ≠ i1) (hb2 : b ≠ i2) :
    Turn P w K (.Tuple elts kk tpos) (ItzX K a b) [z, TI, TO, i1, i2] z
      (fun i h => IsZip h z TI TO .none ∧ IsTupOf2 h TI (.ref i1) (.ref i2) ∧ (∃ x y, IsTupOf2 h TO x y) ∧
        h.IsTupleIter i1 a i ∧ h.IsListIter i2 b i) where
  mem := by simp
  obj := fun i h st c hc => by
    obtain ⟨hz, hTI, ⟨x, y, hTO⟩, ⟨o1, e1, _, d1⟩, ⟨o2, e2, _, d2⟩⟩ := st
    have e' : c = z ∨ c = TI ∨ c = TO ∨ c = i1 ∨ c = i2 := by simpa using hc
    rcases e' with rfl | rfl | rfl | rfl | rfl
    · exact ⟨_, hz, fun v q => nomatch q⟩
    · exact ⟨_, hTI, fun v q => nomatch q⟩
    · exact ⟨_, hTO, fun v q => nomatch q⟩
    · exact ⟨o1, e1, fun v q => by
        rw [d1] at q
        cases q⟩
    · exact ⟨o2, e2, fun v q => by
        rw [d2] at q
        cases q⟩
  keep := fun i h h' st k => by
    obtain ⟨hz, hTI, ⟨x, y, hTO⟩, h1, h2⟩ := st
    exact ⟨k z (by simp) _ hz, k TI (by simp) _ hTI,
      ⟨x, y, k TO (by simp) _ hTO⟩,
      h1.at fun o q => k i1 (by simp) o q,
      h2.at fun o q => k i2 (by simp) o q⟩
  item := by
    intro X hP hw hK hc i pins s σ H E I hf st hg
    subst hP hw hK
    obtain ⟨hz, hTI, ⟨x0, y0, hTO⟩, h1, h2⟩ := st
    obtain ⟨xs, ys, x, y, hqx, hqy, hx, hy⟩ := hg
    obtain ⟨its, rv, p, _⟩ := I.tuple hqx
    obtain ⟨its2, rv2, p2, _⟩ := I.list hqy
    obtain ⟨u, hu, ru⟩ := rv.get hx
    obtain ⟨u2, hu2, ru2⟩ := rv2.get hy
    have ltz : z < s.heap.objs.size := Heap.lt_size hz
    have D1 := Draws.tuple (prog := X.prog) (w := X.w) (A := X.A.in1)
      (I.ok.hd hc) i1 a ha1 its.toArray
    have D2 := Draws.list (prog := X.prog) (w := X.w) (A := X.A.in1)
      (I.ok.hd hc) i2 b hb2 its2.toArray
    have lx : i < its.toArray.size := by
      have := (List.getElem?_eq_some_iff.mp hu).1
      simpa using this
    have ly : i < its2.toArray.size := by
      have := (List.getElem?_eq_some_iff.mp hu2).1
      simpa using this
    refine wpAny_pyNext_zipD2_item S D1 D2 hz hTI hTO
      ⟨h1, (show s.heap.IsTuple a its.toArray from p)⟩ ⟨h2, p2.isList⟩ lx ly
      fun v1 v2 h' tk hv1 hv2 z' TO' st1 st2 hT hsz hk => ?_
    have e1 : v1 = u := by
      have g1 : its.toArray[i]? = some v1 := hv1
      have g2 : its.toArray[i]? = some u := by simpa using hu
      rw [g1] at g2
      exact Option.some.inj g2
    have e2 : v2 = u2 := by
      have g1 : its2.toArray[i]? = some v2 := hv2
      have g2 : its2.toArray[i]? = some u2 := by simpa using hu2
      rw [g1] at g2
      exact Option.some.inj g2
    subst e1 e2
    refine ⟨_, rfl, wpAny_letOwnedTupleGo_zip (s := { s with heap := h', toks := tk })
      z' fun h'' z'' sb => ?_⟩
    have hT2 : h''.get? s.heap.objs.size = some { cls := .type "tuple", data := .seq #[v1, v2] } :=
      (sb.2 _ (Nat.ne_of_gt ltz)).trans hT
    have new : ObjOk X.prog X.w (upd H s.heap.objs.size (.tup [x, y])) h''
        s.heap.objs.size (.tup [x, y]) :=
      ⟨by show 2 ≤ sizeLine; decide, [v1, v2],
        .cons ru (.cons ru2 .nil), ⟨_, hT2, rfl, _, rfl⟩⟩
    have I1 : Inv X pins σ (upd H s.heap.objs.size (.tup [x, y]))
        { s with heap := h'', toks := tk } :=
      I.turnedNew (ch := [z, TI, TO, i1, i2]) (fun c o hb q =>
        (sb.2 c (fun q' => hb (by simp [q']))).trans
          (hk c o (fun q' => hb (by simp [q'])) (fun q' => hb (by simp [q']))
            (fun q' => hb (by simp [q'])) (fun q' => hb (by simp [q'])) q))
        hf (Nat.le_refl _) new
    refine ⟨.ref s.heap.objs.size, _, I1, rfl, ⟨_, x, y, rfl,
      I.hok.fresh (Nat.le_refl _), rfl, fun l hl => ?_, fun l hl => ?_⟩,
      ⟨z'', ?_, ⟨v1, v2, ?_⟩, ?_, ?_⟩, fun c hcm => ?_⟩
    · rw [I.tuple_inj hl hqx]
      exact hx
    · rw [I.list_inj hl hqy]
      exact hy
    · exact (sb.2 _ S.TIz).trans
        (hk _ _ S.TIz S.TITO S.TIi1 S.TIi2 hTI)
    · exact (sb.2 _ S.TOz).trans TO'
    · exact st1.1.at fun o q => (sb.2 _ S.zi1.symm).trans q
    · exact st2.1.at fun o q => (sb.2 _ S.zi2.symm).trans q
    · have hlt : c < s.heap.objs.size := by
        have e' : c = z ∨ c = TI ∨ c = TO ∨ c = i1 ∨ c = i2 := by simpa using hcm
        rcases e' with q | q | q | q | q
        · rw [q]
          exact ltz
        · rw [q]
          exact Heap.lt_size hTI
        · rw [q]
          exact Heap.lt_size hTO
        · rw [q]
          obtain ⟨_, e1, _⟩ := h1
          exact Heap.lt_size e1
        · rw [q]
          obtain ⟨_, e1, _⟩ := h2
          exact Heap.lt_size e1
      rw [upd_ne (Nat.ne_of_lt hlt)]
      exact (hf c hcm).1
  done := by
    intro X hP hw hK hc i pins s σ H E I hf st hg
    subst hP hw hK
    obtain ⟨hz, hTI, ⟨x0, y0, hTO⟩, h1, h2⟩ := st
    obtain ⟨xs, ys, hqx, hqy, el1, el2⟩ := hg
    obtain ⟨its, rv, p, _⟩ := I.tuple hqx
    obtain ⟨its2, rv2, p2, _⟩ := I.list hqy
    have l1 := rv.length
    have l2 := rv2.length
    have D1 := Draws.tuple (prog := X.prog) (w := X.w) (A := X.A.in1)
      (I.ok.hd hc) i1 a ha1 its.toArray
    have D2 := Draws.list (prog := X.prog) (w := X.w) (A := X.A.in1)
      (I.ok.hd hc) i2 b hb2 its2.toArray
    have s1 : its.toArray.size = i := by
      simp
      omega
    have s2 : its2.toArray.size = i := by
      simp
      omega
    refine wpAny_pyNext_zipD2_end S D1 D2 hz hTI hTO (i := i)
      ⟨h1, (show s.heap.IsTuple a its.toArray from p)⟩ ⟨h2, p2.isList⟩
      (by omega) (by omega) (by omega) fun h' tk hk => ⟨rfl, ?_⟩
    exact I.turnedL (t' := tk) (ch := [z, TI, TO, i1, i2]) (fun c o hb q =>
      hk c o (fun q' => hb (by simp [q'])) (fun q' => hb (by simp [q']))
        (fun q' => hb (by simp [q'])) (fun q' => hb (by simp [q'])) q) hf
  self := fun A i s Q E st h => wpAny_pyIter_zip st.1 h
def iZipX (K : PySem.W.Frag) (ta : TA) : TI := fun σ H R => ta σ H fun vs H1 => ∃ a b xs ys, vs = [.ref a, .ref b] ∧
  ((SqT K H1 a xs ∧ SqL K H1 b ys ∧ R (ItzX K a b) H1) ∨ (SqT K H1 a xs ∧ SqT K H1 b ys ∧ R (RZ.ItzT K a b) H1))
theorem fresh_all {X : Cx} {pins : List (Addr × Obj)} {σ : L2.St} {H : Hp} {s : Shared} (I : Inv X pins σ H s) {fp : List Addr} (h : ∀ c ∈ fp, s.heap.objs.size ≤ c) :
    ∀ c ∈ fp, FpOk X pins H c :=
  fun c hc => I.fpOk (h c hc) (I.hok.fresh (h c hc))
theorem five_up (N : Nat) : ∀ c ∈ [N + 4, N + 2, N + 3, N, N + 1], N ≤ c := fun c hc => by
  have e : c = N + 4 ∨ c = N + 2 ∨ c = N + 3 ∨ c = N ∨ c = N + 1 := by simpa using hc
  rcases e with z | z | z | z | z <;> (rw [z]; omega)
theorem pi_zipX {X : Cx} {e e2 : Expr} {ta : TA} {p pos tpos : Pos} {elts : List Expr} {kk : Nat} (hg : Gl X "zip") (hm : X.mg "zip" = none) (ha : PA X [e, e2] ta)
    (hs : starEach [e, e2] X.env = (false, eval e X.env) :: starEach [e2] X.env := by rfl)
    (hpl : (backTo pos (starEach [e2] X.env)).any (·.1) = false := by rfl) :
    PI X (.Tuple elts kk tpos) (.Call (.Name "zip" p) [e, e2] [] pos) (iZipX X.K ta) := by
  refine ⟨fun pins s σ H R I h => ?_⟩
  refine Call_ (ld_blt I hg hm PyProof.Rows.boot_zip (PyProof.Rows.callWith_type1
    (thn (ha.run pos pins s σ H _ I h) fun us s1 ⟨vs, H1, I1, r1, q1⟩ => ?_) hs hpl))
  obtain ⟨a, b, xs, ys, ex, q1⟩ := q1
  subst ex
  obtain ⟨u1, u2, rfl, ra, rb⟩ := vals2 r1
  cases ra
  cases rb
  rcases q1 with ⟨hqx, hqy, q⟩ | ⟨hqx, hqy, q⟩
  · obtain ⟨its, rv, p1, _⟩ := I1.tuple hqx
    obtain ⟨its2, rv2, p2, _⟩ := I1.list hqy
    have la : a < s1.heap.objs.size := p1.lt
    have lb : b < s1.heap.objs.size := p2.lt
    refine zip_begins2 (begins_tuple a its.toArray) (begins_list b its2.toArray)
      (show s1.heap.IsTuple a its.toArray from p1) p2.isList
      fun h' hz hTI hTO h1 h2 hsz hk => wpAny_pyIter_zip hz ?_
    have I2 : Inv X pins σ H1 { s1 with heap := h' } := I1.kept (t' := s1.toks) hk
    refine ⟨s1.heap.objs.size + 4, [s1.heap.objs.size + 4, s1.heap.objs.size + 2, s1.heap.objs.size + 3, s1.heap.objs.size, s1.heap.objs.size + 1], _, _, H1, rfl, I2,
      turn_zipX (zip_sep2 (fp1 := [a]) (fp2 := [b]) (by simpa using la) (by simpa using lb)) (Nat.ne_of_lt la) (Nat.ne_of_lt (Nat.lt_succ_of_lt lb)),
      ⟨hz, hTI, ⟨_, _, hTO⟩, ⟨_, h1, rfl, rfl⟩, ⟨_, h2, rfl, rfl⟩⟩,
      fresh_all I1 (five_up _), q⟩
  · obtain ⟨its, rv, p1, _⟩ := I1.tuple hqx
    obtain ⟨its2, rv2, p2, _⟩ := I1.tuple hqy
    refine RZ.call_zipT (show s1.heap.IsTuple a its.toArray from p1)
      (show s1.heap.IsTuple b its2.toArray from p2)
      fun h' hz hTI hTO h1 h2 hsz hk => wpAny_pyIter_zip hz ?_
    have I2 : Inv X pins σ H1 { s1 with heap := h' } := I1.kept (t' := s1.toks) hk
    exact ⟨s1.heap.objs.size + 4, [s1.heap.objs.size + 4, s1.heap.objs.size + 2, s1.heap.objs.size + 3, s1.heap.objs.size, s1.heap.objs.size + 1], _, _, H1, rfl, I2,
      RZ.turn_zipT (PySem.W.ktu_apart s1.heap.objs.size a b p1.lt p2.lt),
      ⟨hz, hTI, ⟨_, _, hTO⟩, h1, h2⟩, fresh_all I1 (five_up _), q⟩
/-- a loop over zip of a tuple and a list, as long -/
theorem for_zipX {K : PySem.W.Frag} {a b : Addr} {xs ys : List V} {g : TG} {tb : TS} {D : Ends} {σ : L2.St} {H : Hp} (hl : xs.length = ys.length) (Pv : Nat → L2.St → Hp → Prop) (h0 : Pv 0 σ H)
    (hq : ∀ i σ H, Pv i σ H → SqT K H a xs ∧ SqL K H b ys)
    (hs : ∀ (i : Nat) (x y : V) (T : Addr) (σ : L2.St) (H : Hp), xs[i]? = some x → ys[i]? = some y → Pv i σ H → H T = none →
      g (.ref T) σ (upd H T (.tup [x, y])) fun σ2 H2 => tb { D with nx := Pv (i + 1), ct := Pv (i + 1), bk := D.nx } σ2 H2)
    (hd : ∀ σ H, Pv xs.length σ H → D.nx σ H) :
    ∃ W : Nat → Nat → L2.St → Hp → Prop, (∃ m, W 0 m σ H) ∧ ∀ i m σ H, W i m σ H →
      ((ItzX K a b).stop i H ∧ D.nx σ H) ∨ ((ItzX K a b).go i H ∧ ∃ N : L2.St → Hp → Prop, (∀ σ' H', N σ' H' → ∃ m', m' < m ∧ W (i + 1) m' σ' H') ∧
        ∀ v H', (ItzX K a b).yld i H v H' → g v σ H' fun σ2 H2 => tb { D with nx := N, ct := N, bk := D.nx } σ2 H2) := by
  refine ⟨fun i m σ H => m = xs.length - i ∧ i ≤ xs.length ∧ Pv i σ H,
    ⟨xs.length, rfl, Nat.zero_le _, h0⟩, ?_⟩
  rintro i m σ H ⟨rfl, hi, p⟩
  obtain ⟨qx, qy⟩ := hq i σ H p
  by_cases hlt : i < xs.length
  · have hx : xs[i]? = some xs[i] := List.getElem?_eq_getElem hlt
    have hlt2 : i < ys.length := by omega
    have hy : ys[i]? = some ys[i] := List.getElem?_eq_getElem hlt2
    refine .inr ⟨⟨xs, ys, _, _, qx, qy, hx, hy⟩, Pv (i + 1),
      fun σ' H' p' => ⟨xs.length - (i + 1), by omega, rfl, hlt, p'⟩, fun v H' y => ?_⟩
    obtain ⟨T, x', y', rfl, hT, rfl, f1, f2⟩ := y
    exact hs i x' y' T σ H (f1 xs qx) (f2 ys qy) p hT
  · have e : i = xs.length := by omega
    subst e
    exact .inl ⟨⟨xs, ys, qx, qy, rfl, hl.symm⟩, hd σ H p⟩
end My

namespace My
open PySem PySem.Spec PyProof.Rows L2
/-! tuples that were made by tuple(..): nothing but a tuple -/
def TupN (H : Hp) (a : Addr) (xs : List V) : Prop := ∃ o : Obj, o.dict = none ∧ H a = some (.frz o (.tup xs))
/-- a tuple that is tracked -/
def TupAt (H : Hp) (a : Addr) (xs : List V) : Prop := H a = some (.tup xs) ∨ TupN H a xs
theorem TupN.mono {H H' : Hp} {a : Addr} {xs : List V} (s : Same H H') (h : TupN H a xs) : TupN H' a xs := by
  obtain ⟨o, d, e⟩ := h
  exact ⟨o, d, s _ _ e⟩
theorem TupAt.mono {H H' : Hp} {a : Addr} {xs : List V} (s : Same H H') (h : TupAt H a xs) : TupAt H' a xs := h.imp (s _ _) (TupN.mono s)
theorem seqT {K : PySem.W.Frag} {H : Hp} {a : Addr} {xs : List V} (h : TupAt H a xs) : SqT K H a xs := by
  rcases h with h | ⟨o, _, h⟩
  · exact .inl (.inl h)
  · exact .inl (.inr ⟨o, h⟩)
theorem seqL {K : PySem.W.Frag} {H : Hp} {a : Addr} {xs : List V} (h : H a = some (.lst xs)) : SqL K H a xs := .inl (.inl h)
section
variable {X : Cx}
/-- tuple(xs): of a list a new one -/
theorem call_tupleN : CallR X (.type "tuple") (fun xs H Q => ∃ p ys, xs = [.ref p] ∧
    ((SqL X.K H p ys ∧ ∀ l o, H l = none → o.dict = none → Q (.ref l) (upd H l (.frz o (.tup ys)))) ∨ (SqT X.K H p ys ∧ Q (.ref p) H))) := by
  intro pins s σ H xs us Q I r h
  obtain ⟨p, ys, rfl, h⟩ := h
  obtain ⟨u, rfl, rx⟩ := vals1 r
  cases rx
  rcases h with ⟨hq, q⟩ | ⟨hq, q⟩
  · obtain ⟨its, r', pl, hz⟩ := I.list hq
    have hlen := r'.length
    refine call_tuple_list pl.isList (fun h' kp => ?_)
      (by simp only [List.size_toArray] <;> omega)
    have I1 : Inv X pins σ H { s with heap := h' } := I.kept (t' := s.toks) kp
    have I2 : Inv X pins σ (upd H h'.objs.size (.frz { cls := .type "tuple", data := .seq its.toArray } (.tup ys)))
        { s with heap := h'.push { cls := .type "tuple", data := .seq its.toArray } } :=
      I1.laid (t' := s.toks) (fun b o e => Heap.get?_push_of_some _ e) (Nat.le_refl _)
        (show ObjOk X.prog X.w _ _ _ (.frz _ (.tup ys)) from
          ⟨Heap.get?_push_size _ rfl, hz, its, r', IsTup.new _ _⟩)
    exact ⟨.ref h'.objs.size, _, I2, rfl,
      q _ _ (I1.hok.fresh (Nat.le_refl _)) rfl⟩
  · obtain ⟨its, r', pl, hz⟩ := I.tuple hq
    exact call_tuple_same pl ⟨.ref p, H, I, rfl, q⟩
/-! max of a tuple of ints -/
def rMaxTup (K : PySem.W.Frag) : List V → Hp → VK → Prop := fun vs H Q => ∃ (a : Addr) (n : Int) (ns : List Int), vs = [V.ref a] ∧ SqT K H a ((n :: ns).map V.int) ∧ Q (.int (ns.foldl max n)) H
theorem cr_maxTup (hc : X.calm = true) (hu : X.A.units + 64 < cLine) : CallR X (.builtin "max") (rMaxTup X.K) := by
  intro pins s σ H vs us Q I r h
  obtain ⟨a, n, ns, rfl, hs, q⟩ := h
  have e1 := Vals.ref1 r
  subst e1
  obtain ⟨its, rv, hl, _⟩ := I.tuple hs
  have hi := rv.ints
  have hr : ReadsAll s.heap its.toArray.toList ((n :: ns).map PyData.int) [] := by
    have := hi.reads s.heap
    simpa using this
  refine PySem.W.max_tuple_data (I.ok.hd hc) (show s.heap.IsTuple a its.toArray from hl) hr (alikes (n :: ns))
    (by have := depth_ints (n :: ns); rw [List.map_cons] at this; omega) fun i v h' tk bs hv rd k => ?_
  rw [PySem.W.maxD_ints] at rd
  cases rd with
  | int _ t => exact ⟨.int _, H, I.kept k, ⟨_, rfl⟩, q⟩
/-! repr of a truth -/
theorem call_repr_bl : CallR X (.builtin "repr") (fun xs H Q => ∃ b, xs = [.bl b] ∧ Q (.str (if b then "True" else "False")) H) := by
  intro pins s σ H xs us Q I r h
  obtain ⟨b, rfl, q⟩ := h
  obtain ⟨u, rfl, rx⟩ := vals1 r
  cases (show u = Value.bool b from rx)
  exact PySem.P.repr_of_bool ⟨.str _, H, I.tok _, ⟨_, rfl⟩, q⟩
/-! t > u of tuples of ints -/
def rGtT (K : PySem.W.Frag) : R2 := fun x y H Q => ∃ (a b : Addr) (ns ms : List Int), x = .ref a ∧ y = .ref b ∧ SqT K H a (ns.map V.int) ∧ SqT K H b (ms.map V.int) ∧
  Q (.bl (Ob.lexAt (fun j => decide (ns.getD j 0 = ms.getD j 0)) (fun j => decide (ms.getD j 0 < ns.getD j 0)) (decide (ns.length > ms.length)) 0 (min ns.length ms.length))) H
theorem op_gtT (hu : X.A.units < cLine) : OpR X (compareOp .Gt) (rGtT X.K) := by
  intro pins s σ H x y v u Q I rx ry h
  obtain ⟨a, b, ns, ms, rfl, rfl, ha, hb, q⟩ := h
  cases rx
  cases ry
  obtain ⟨its, r1, p1, _⟩ := I.tuple ha
  obtain ⟨its2, r2, p2, _⟩ := I.tuple hb
  have i1 : IntsAre its ns := Vals.ints r1
  have i2 : IntsAre its2 ms := Vals.ints r2
  have z1 : its.toArray.size = ns.length := by
    rw [List.size_toArray]
    exact i1.length
  have z2 : its2.toArray.size = ms.length := by
    rw [List.size_toArray]
    exact i2.length
  have at1 : ∀ j (h1 : j < its.toArray.size), ∃ t, its.toArray[j] = .int (ns.getD j 0) t :=
    fun j h1 => PyProof.Rows.IntsAre.int_at i1 _ _ (by simp at h1; simp [h1])
  have at2 : ∀ j (h1 : j < its2.toArray.size), ∃ t, its2.toArray[j] = .int (ms.getD j 0) t :=
    fun j h1 => PyProof.Rows.IntsAre.int_at i2 _ _ (by simp at h1; simp [h1])
  have R := Ob.RcOp.tuples_gt (A := X.A) (s := s) (e := fun j => decide (ns.getD j 0 = ms.getD j 0))
    (r := fun j => decide (ms.getD j 0 < ns.getD j 0)) p1 p2 hu (fun j h1 h2 => by
      obtain ⟨t, et⟩ := at1 j h1
      obtain ⟨t', et'⟩ := at2 j h2
      have z : (ns.getD j 0 == ms.getD j 0) = decide (ns.getD j 0 = ms.getD j 0) := by
        rw [Bool.eq_iff_iff, beq_iff_eq, decide_eq_true_eq]
      rw [et, et', ← z]
      exact SeqAt.EqAt.int_int _ _ _ _) (fun j h1 h2 _ => by
      obtain ⟨t, et⟩ := at1 j h1
      obtain ⟨t', et'⟩ := at2 j h2
      rw [et, et']
      exact Ob.RcOp.gt_int _ _ _ _)
  rw [z1, z2] at R
  exact R X.prog X.w X.xe (EP X pins σ Q) ⟨.bl _, H, I, rfl, q⟩
/-! t.index(k), t a tuple of ints -/
variable {o e : Expr} {es : List Expr} {apos cpos : Pos} {to : TE} {t : TA}
def tTIdx (to : TE) (t : TA) : TE := fun σ H Q => to σ H fun x H1 => ∃ (a : Addr) (ns : List Int), x = .ref a ∧ TupN H1 a (ns.map V.int) ∧
  t σ H1 fun vs H2 => ∃ k : Int, vs = [.int k] ∧ TupN H2 a (ns.map V.int) ∧ k ∈ ns ∧ Q (.int ((ns.idxOf k : Nat) : Int)) H2
theorem pe_tidx (ho : PE X o to) (ha : PA X (e :: es) t)
    (hbase : attributeBase o "index" X.env (eval o X.env) = eval o X.env := by rfl)
    (hfew : ((backTo cpos (starEach (e :: es) X.env)).all (fun x => !x.1) && (backToKw cpos (keywordEach [] X.env)).all (fun x => x.1.isSome)
      && decide ((e :: es).length + ([] : List Keyword).length + (if ([] : List Keyword).isEmpty then 0 else 1) < 30)) = true := by rfl)
    (hline : (apos.endLine == cpos.line) = true := by rfl)
    (hs : starEach (e :: es) X.env = (false, eval e X.env) :: starEach es X.env := by rfl)
    (hplain : (backTo cpos (starEach es X.env)).any (·.1) = false := by rfl) :
    PE X (.Call (.Attribute o "index" apos) (e :: es) [] cpos) (tTIdx to t) := by
  refine ⟨fun pins s σ H Q I h => ?_⟩
  refine wpAny_Call_method_late hbase hfew hline rfl
    (thn (ho.run pins s σ H _ I h) fun v s1 ⟨x, H1, I1, r1, q1⟩ => ?_)
  obtain ⟨a, ns, rfl, ⟨ob, hd, hH⟩, q1⟩ := q1
  cases r1
  obtain ⟨g1, _, its, rv, o', g2, g3, _⟩ :=
    (show ObjOk X.prog X.w H1 s1.heap a (.frz ob (.tup (ns.map V.int))) from I1.hok a _ hH)
  have eo : o' = ob := by
    rw [g1] at g2
    exact (Option.some.inj g2).symm
  subst eo
  refine ⟨"tuple", "tuple.index", PySem.F.plainAttrs_tuple, PySem.F.slot_tuple_index, PySem.F.type_tuple_index,
    ⟨_, g1, g3⟩, fun b eb => ?_, ?_⟩
  · cases eb
    exact ⟨_, g1, hd⟩
  have hA := ha.run cpos pins s1 σ H1 _ I1 q1
  rw [hs] at hA ⊢
  refine Calls.callWith_builtin (by
    show (false || (backTo cpos (starEach es X.env)).any (·.1)) = false
    rw [hplain]
    rfl) (Calls.evalArgs_plain ?_)
  refine thn hA fun us s2 ⟨vs, H2, I2, r2, k, ev, hN, hk, q2⟩ => ?_
  subst ev
  obtain ⟨u, rfl, ru⟩ := vals1 r2
  obtain ⟨tk, rfl⟩ := ru
  obtain ⟨its2, rv2, p2, _⟩ := I2.tuple (seqT (.inr hN))
  exact PySem.SeqAt.tuple_index_ints (show s2.heap.IsTuple a its2.toArray from p2) rv2.ints hk
    ⟨.int _, H2, I2.tok _, ⟨_, rfl⟩, q2⟩
end
end My

namespace My
/-! wirings, as lists of numbers -/
def IsW (r : List Nat) : Prop := r.Perm (List.range r.length) ∧ 1 ≤ r.length ∧ r.length ≤ 6
theorem IsW.lt {r : List Nat} (h : IsW r) {i n : Nat} (e : r[i]? = some n) : n < r.length := by
  have := h.1.mem_iff.mp (List.mem_of_getElem? e)
  exact List.mem_range.mp this
theorem IsW.nodup {r : List Nat} (h : IsW r) : r.Nodup := h.1.nodup_iff.mpr List.nodup_range
/-- the setting led: one number after the other put at its bottom -/
def ledUp (r s : List Nat) (i : Nat) : List Nat :=
  ((r.zip s).take i).foldl (fun b q => b.set q.1 q.2) (List.replicate r.length 0)
def ledTo (r s : List Nat) : List Nat := ledUp r s r.length
theorem foldl_set_len (l : List (Nat × Nat)) : ∀ b : List Nat, (l.foldl (fun b q => b.set q.1 q.2) b).length = b.length := by
  induction l with
  | nil => exact fun b => rfl
  | cons x l ih =>
    intro b
    rw [List.foldl_cons, ih, List.length_set]
theorem ledUp_len (r s : List Nat) (i : Nat) : (ledUp r s i).length = r.length := by
  unfold ledUp
  rw [foldl_set_len, List.length_replicate]
theorem ledTo_len (r s : List Nat) : (ledTo r s).length = r.length := ledUp_len r s _
theorem ledUp_succ {r s : List Nat} {i a b : Nat} (h1 : r[i]? = some a) (h2 : s[i]? = some b) : ledUp r s (i + 1) = (ledUp r s i).set a b := by
  unfold ledUp
  have e : (r.zip s)[i]? = some (a, b) := by
    rw [List.getElem?_zip_eq_some]
    exact ⟨h1, h2⟩
  rw [List.take_add_one, e, List.foldl_append]
  rfl
/-! colours -/
def mxN (l : List Nat) : Nat := l.foldl max 0
def col1 (r found : List Nat) (top : Nat) : List Nat :=
  ((List.range top).filter fun o => decide (r.getD top 0 < r.getD o 0)).map fun o => found.getD o 0 + 1
def colUp (r : List Nat) : Nat → List Nat
  | 0 => []
  | i + 1 => colUp r i ++ [mxN (col1 r (colUp r i) i)]
def coloursOf (r : List Nat) : List Nat := colUp r r.length
theorem colUp_len (r : List Nat) : ∀ i, (colUp r i).length = i
  | 0 => rfl
  | i + 1 => by
    show (colUp r i ++ [_]).length = i + 1
    rw [List.length_append, colUp_len r i]
    rfl
theorem coloursOf_len (r : List Nat) : (coloursOf r).length = r.length := colUp_len r _
end My

namespace My
open PySem PySem.Spec PyProof.Rows L2
theorem PI.or {X : Cx} {tg it : Expr} {u v : TI} (a : PI X tg it u) (b : PI X tg it v) : PI X tg it (fun σ H R => u σ H R ∨ v σ H R) :=
  ⟨fun pins s σ H R I h => h.elim (a.run pins s σ H R I) (b.run pins s σ H R I)⟩
theorem pi_seq {X : Cx} {tg l : Expr} {tl : TE} (hl : PE X l tl) : PI X tg l (fun σ H R => iList X.K tl σ H R ∨ iTup X.K tl σ H R) :=
  PI.or (pi_list hl) (pi_tup hl)
theorem pi_enumS {X : Cx} {e : Expr} {ta : TA} {p pos tpos : Pos} {elts : List Expr} {kk : Nat} (hg : Gl X "enumerate") (hm : X.mg "enumerate" = none)
    (ha : PA X [e] ta) (hs : starEach [e] X.env = [(false, eval e X.env)] := by rfl) :
    PI X (.Tuple elts kk tpos) (.Call (.Name "enumerate" p) [e] [] pos) (fun σ H R => iEnum X.K ta σ H R ∨ iEnumT X.K ta σ H R) :=
  PI.or (pi_enum hg hm ha hs) (pi_enumT hg hm ha hs)
theorem units1 {k : Nat} {A : Around} (r : Room k A) : A.units + 65 < cLine := by
  have := r.un
  omega
section
variable {X : Cx} {CX : CXT} {k : Nat} {f : Addr} {fd : FuncData} {ps ks : List Str} {sp : Sp} {E : XK} {x : Str} {p pos : Pos} {kws : List Keyword} {tk : TA}
  {g : List Value → List Value → List Value} {gV : List V → List V → List V}
/-- f(k = v, ..): keywords alone -/
theorem pe_callK0 (F : FnOk X.prog X.w X.K X.mg X.base CX k f fd ps sp) (hr : Room k X.A) (hg : Gl X x) (hm : X.mg x = some (.ref f)) (hk : PySem.W.keepIn X.K (.ref f) = true)
    (hb : KBinds X.K fd ps ks g gV) (hx : Passes CX X E) (hkw : PK X kws tk)
    (hall : (backToKw pos (keywordEach kws X.env)).all (·.1.isSome) = true := by rfl)
    (hks : (backToKw pos (keywordEach kws X.env)).filterMap (·.1) = ks := by rfl)
    (hdb : (x == ("__debug__" : Str)) = false := by decide)
    (hpl : ((backTo pos (starEach [] X.env)).any (·.1) || (backToKw pos (keywordEach kws X.env)).any (·.1.isNone)) = false := by rfl) :
    PE X (.Call (.Name x p) [] kws pos) (tCallK sp gV E tNil tk) := by
  refine ⟨fun pins s σ H Q I h => ?_⟩
  refine wpAny_Call_Name_kw (ld_glob I hg hm ?_ hdb)
  refine PySem.W.callWith_KW0 (h₀ := X.base) I.ok.mod.kin hk hall ?_ hpl
  refine thn (hkw.run pos pins s σ H _ I h) fun ws s2 ⟨zs, H2, I2, rz, q2⟩ =>
    ⟨I2.kIn, ?_⟩
  rw [hks]
  exact run_fnk (us := []) (vs := []) F hr hb hx I2 .nil rz q2
end
/-! data -/
def zz (r : List Nat) : List Int := r.map (fun n : Nat => (n : Int))
abbrev vN (r : List Nat) : List V := (zz r).map V.int
/-- a list or a tuple, tracked -/
def SqV (H : Hp) (a : Addr) (xs : List V) : Prop := H a = some (.lst xs) ∨ TupAt H a xs
theorem SqV.mono {H H' : Hp} {a : Addr} {xs : List V} (s : Same H H') (h : SqV H a xs) : SqV H' a xs := h.imp (s _ _) (TupAt.mono s)
theorem same_new {H : Hp} {p : Addr} {o : HO} (h : H p = none) : Same H (upd H p o) := fun b x e => by
  rw [upd_ne (ne_of_none e h)]
  exact e
theorem SqV.or {K : PySem.W.Frag} {H : Hp} {a : Addr} {xs : List V} (h : SqV H a xs) : SqL K H a xs ∨ SqT K H a xs := h.imp seqL seqT
theorem lst_tup {H : Hp} {a : Addr} {xs ys : List V} (h : H a = some (.lst xs)) (t : TupAt H a ys) : False := by
  rcases t with t | ⟨o, _, t⟩
  · rw [h] at t
    cases t
  · rw [h] at t
    cases t
theorem TupAt.at {H : Hp} {a : Addr} {xs : List V} (h : TupAt H a xs) : ∃ o, H a = some o := by
  rcases h with h | ⟨o, _, h⟩
  · exact ⟨_, h⟩
  · exact ⟨_, h⟩
theorem zz_len (r : List Nat) : (zz r).length = r.length := by
  unfold zz
  rw [List.length_map]
theorem vN_len (r : List Nat) : (vN r).length = r.length := by
  rw [List.length_map, zz_len]
theorem vN_get {r : List Nat} {i n : Nat} (h : r[i]? = some n) : (vN r)[i]? = some (.int (n : Int)) := by
  unfold vN zz
  rw [List.getElem?_map, List.getElem?_map, h]
  rfl
theorem vN_some {r : List Nat} {i : Nat} {x : V} (h : (vN r)[i]? = some x) : ∃ n, r[i]? = some n ∧ x = .int (n : Int) := by
  unfold vN zz at h
  rw [List.getElem?_map, List.getElem?_map] at h
  cases e : r[i]? with
  | none =>
    rw [e] at h
    cases h
  | some n =>
    rw [e] at h
    exact ⟨n, rfl, (Option.some.inj h).symm⟩
theorem rg_vN (n : Nat) : rgV 0 (n : Int) = vN (List.range n) := by
  unfold rgV vN zz
  rw [List.map_map, show ((n : Int) - 0).toNat = n by omega]
  refine List.map_congr_left fun i _ => ?_
  show V.int (0 + (i : Int)) = V.int (i : Int)
  rw [Int.zero_add]
/-- deep data of ints in a list or tuple -/
theorem dp_ints {K : PySem.W.Frag} {H : Hp} : ∀ ns : List Int, DpAll K H (ns.map V.int) (ns.map PyData.int)
  | [] => .nil
  | n :: ns => .cons (.int n) (dp_ints ns)
theorem can_ints : ∀ ns : List Int, PyData.canLayAll0 (ns.map PyData.int) = true
  | [] => rfl
  | n :: ns => by
    show (PyData.canLay0 (.int n) && PyData.canLayAll0 (ns.map PyData.int)) = true
    rw [can_ints ns]
    rfl
theorem shaped_tup (ns : List Int) : SeqAt.shaped (.tuple (ns.map PyData.int)) = true := by
  have h := depth_ints ns
  show (PyData.canLayAll0 (ns.map PyData.int) && decide (PyData.depthAll (ns.map PyData.int) + 1 ≤ 64)) = true
  rw [can_ints, decide_eq_true (by omega)]
  rfl
theorem shaped_lst (ns : List Int) : SeqAt.shaped (.list (ns.map PyData.int)) = true := by
  have h := depth_ints ns
  show (PyData.canLayAll0 (ns.map PyData.int) && decide (PyData.depthAll (ns.map PyData.int) + 1 ≤ 64)) = true
  rw [can_ints, decide_eq_true (by omega)]
  rfl
theorem eqv_ints : ∀ ns ms : List Int, PyData.eqvAll (ns.map PyData.int) (ms.map PyData.int) = decide (ns = ms)
  | [], [] => by
    rw [decide_eq_true rfl]
    rfl
  | [], m :: ms => by
    rw [decide_eq_false (fun h => nomatch h)]
    rfl
  | n :: ns, [] => by
    rw [decide_eq_false (fun h => nomatch h)]
    rfl
  | n :: ns, m :: ms => by
    show ((n == m) && PyData.eqvAll (ns.map PyData.int) (ms.map PyData.int)) = _
    rw [eqv_ints ns ms]
    by_cases e : n = m
    · subst e
      by_cases e2 : ns = ms
      · subst e2
        simp
      · simp [e2]
    · simp [e]
/-- what stood stands, but for what stands at q -/
def Mv (q : Addr) (H H' : Hp) : Prop := ∀ b o, b ≠ q → H b = some o → H' b = some o
theorem Same.mv {q : Addr} {H H' : Hp} (s : Same H H') : Mv q H H' := fun b o _ h => s b o h
theorem Mv.trans {q : Addr} {H H1 H2 : Hp} (a : Mv q H H1) (b : Mv q H1 H2) : Mv q H H2 := fun c o n h => b c o n (a c o n h)
/-! comprehensions whose tests and items change nothing that stood -/
section
variable {K : PySem.W.Frag} {g : TG} {tt : TT} {te : TE} {vs : List Nat} {σ : L2.St} {H1 : Hp} {Q : VK}
theorem keepD {H1 H H4 : Hp} {D : Addr} {xs ys : List V} (nD : H1 D = none) (s : Same H1 H) (s4 : Same H H4) : Same H1 (upd H4 D (.lst ys)) := fun b o e => by
  have nb : b ≠ D := ne_of_none e nD
  rw [upd_ne nb]
  exact s4 _ _ (s _ _ e)
theorem lcr {ta : TA} {H0 : Hp} {n : Nat} (hta : ∀ R : List V → Hp → Prop, R [.int (n : Int)] H1 → ta σ H0 R) (hn : n ≤ 100000) (outs : Nat → List V) (h0 : outs 0 = []) (hz : ∀ i, i ≤ n → (outs i).length < sizeLine)
    (turn : ∀ (i : Nat) (H : Hp) (Kt : V → Hp → Prop) (Kf : Hp → Prop), i < n → Same H1 H →
      (∀ y H4, Same H H4 → outs (i + 1) = outs i ++ [y] → Kt y H4) → (∀ H3, Same H H3 → outs (i + 1) = outs i → Kf H3) →
      g (.int (0 + i)) (wipe σ vs) H fun σ2 H2 => wipe σ2 vs = wipe σ vs ∧ tt σ2 H2 fun b H3 => if b = true then te σ2 H3 fun y H4 => Kt y H4 else Kf H3)
    (hd : ∀ D H, Same H1 H → H1 D = none → H D = some (.lst (outs n)) → Q (.ref D) H) :
    tLc (iRng1 ta) g tt te vs σ H0 Q := by
  refine hta _ ⟨(n : Int), rfl, by omega, by omega, ?_⟩
  rw [Int.toNat_natCast]
  intro D nD
  refine lc_range (lo := 0) (n := n) (fun i H => Same H1 H ∧ H D = some (.lst (outs i)))
    ⟨same_new nD, by rw [upd_same, h0]⟩ (fun i H hi ⟨s, e⟩ => ?_) (fun H ⟨s, e⟩ => hd D H s nD e)
  refine turn i H (fun y H4 => ∃ acc, H4 D = some (.lst acc) ∧ acc.length < sizeLine ∧ (Same H1 (upd H4 D (.lst (acc ++ [y]))) ∧ (upd H4 D (.lst (acc ++ [y]))) D = some (.lst (outs (i + 1)))))
    (fun H3 => Same H1 H3 ∧ H3 D = some (.lst (outs (i + 1)))) hi s (fun y H4 s4 eo => ?_) (fun H3 s3 eo => ?_)
  · exact ⟨outs i, s4 _ _ e, hz i (by omega), keepD (xs := []) nD s s4, by rw [upd_same, eo]⟩
  · exact ⟨s.trans s3, by rw [s3 _ _ e, eo]⟩
theorem lcs {a : Addr} {xs : List V} {tl : TE} (htl : ∀ R : VK, R (.ref a) H1 → tl σ H1 R) (hq : SqV H1 a xs) (outs : Nat → List V) (h0 : outs 0 = []) (hz : ∀ i, i ≤ xs.length → (outs i).length < sizeLine)
    (turn : ∀ (i : Nat) (x : V) (H : Hp) (Kt : V → Hp → Prop) (Kf : Hp → Prop), xs[i]? = some x → Same H1 H →
      (∀ y H4, Same H H4 → outs (i + 1) = outs i ++ [y] → Kt y H4) → (∀ H3, Same H H3 → outs (i + 1) = outs i → Kf H3) →
      g x (wipe σ vs) H fun σ2 H2 => wipe σ2 vs = wipe σ vs ∧ tt σ2 H2 fun b H3 => if b = true then te σ2 H3 fun y H4 => Kt y H4 else Kf H3)
    (hd : ∀ D H, Same H1 H → H1 D = none → H D = some (.lst (outs xs.length)) → Q (.ref D) H) :
    tLc (fun σ H R => iList K tl σ H R ∨ iTup K tl σ H R) g tt te vs σ H1 Q := by
  have step : ∀ (D : Addr) (i : Nat) (x : V) (H : Hp), H1 D = none → xs[i]? = some x → (Same H1 H ∧ H D = some (.lst (outs i))) →
      g x (wipe σ vs) H fun σ2 H2 => wipe σ2 vs = wipe σ vs ∧ tt σ2 H2 fun b H3 =>
        if b = true then te σ2 H3 fun y H4 => ∃ acc, H4 D = some (.lst acc) ∧ acc.length < sizeLine ∧
          (Same H1 (upd H4 D (.lst (acc ++ [y]))) ∧ (upd H4 D (.lst (acc ++ [y]))) D = some (.lst (outs (i + 1))))
        else (Same H1 H3 ∧ H3 D = some (.lst (outs (i + 1)))) := by
    intro D i x H nD hx ⟨s, e⟩
    have li := (List.getElem?_eq_some_iff.mp hx).1
    refine turn i x H _ _ hx s (fun y H4 s4 eo => ?_) (fun H3 s3 eo => ?_)
    · exact ⟨outs i, s4 _ _ e, hz i (by omega), keepD (xs := []) nD s s4, by rw [upd_same, eo]⟩
    · exact ⟨s.trans s3, by rw [s3 _ _ e, eo]⟩
  rcases hq with hq | hq
  · refine .inl (htl _ ⟨a, rfl, ⟨_, seqL hq⟩, fun D nD => ?_⟩)
    exact lc_list (K := K) (a := a) (xs := xs) (fun i H => Same H1 H ∧ H D = some (.lst (outs i)))
      ⟨same_new nD, by rw [upd_same, h0]⟩ (fun i H _ hp => seqL (hp.1 _ _ hq)) (fun i x H hx hp => step D i x H nD hx hp)
      (fun H hp => hd D H hp.1 nD hp.2)
  · refine .inr (htl _ ⟨a, rfl, ⟨_, seqT hq⟩, fun D nD => ?_⟩)
    exact lc_tup (K := K) (a := a) (xs := xs) (fun i H => Same H1 H ∧ H D = some (.lst (outs i)))
      ⟨same_new nD, by rw [upd_same, h0]⟩ (fun i H _ hp => seqT (hq.mono hp.1)) (fun i x H hx hp => step D i x H nD hx hp)
      (fun H hp => hd D H hp.1 nD hp.2)
theorem lcl {a : Addr} {xs : List V} {tl : TE} (htl : ∀ R : VK, R (.ref a) H1 → tl σ H1 R) (hq : H1 a = some (.lst xs)) (outs : Nat → List V) (h0 : outs 0 = []) (hz : ∀ i, i ≤ xs.length → (outs i).length < sizeLine)
    (turn : ∀ (i : Nat) (x : V) (H : Hp) (Kt : V → Hp → Prop) (Kf : Hp → Prop), xs[i]? = some x → Same H1 H →
      (∀ y H4, Same H H4 → outs (i + 1) = outs i ++ [y] → Kt y H4) → (∀ H3, Same H H3 → outs (i + 1) = outs i → Kf H3) →
      g x (wipe σ vs) H fun σ2 H2 => wipe σ2 vs = wipe σ vs ∧ tt σ2 H2 fun b H3 => if b = true then te σ2 H3 fun y H4 => Kt y H4 else Kf H3)
    (hd : ∀ D H, Same H1 H → H1 D = none → H D = some (.lst (outs xs.length)) → Q (.ref D) H) :
    tLc (iList K tl) g tt te vs σ H1 Q := by
  refine htl _ ⟨a, rfl, ⟨_, seqL hq⟩, fun D nD => ?_⟩
  refine lc_list (K := K) (a := a) (xs := xs) (fun i H => Same H1 H ∧ H D = some (.lst (outs i)))
    ⟨same_new nD, by rw [upd_same, h0]⟩ (fun i H _ hp => seqL (hp.1 _ _ hq)) (fun i x H hx ⟨s, e⟩ => ?_)
    (fun H hp => hd D H hp.1 nD hp.2)
  have li := (List.getElem?_eq_some_iff.mp hx).1
  refine turn i x H _ _ hx s (fun y H4 s4 eo => ?_) (fun H3 s3 eo => ?_)
  · exact ⟨outs i, s4 _ _ e, hz i (by omega), keepD (xs := []) nD s s4, by rw [upd_same, eo]⟩
  · exact ⟨s.trans s3, by rw [s3 _ _ e, eo]⟩
end
theorem tyes {σ : L2.St} {H : Hp} {Q : Bool → Hp → Prop} (h : Q true H) : tYes σ H Q := h
theorem small_of {n : Nat} (h : n ≤ 100000) : n < sizeLine := by
  rw [sizeLine_eq]
  omega
theorem all_true (n : Nat) : ((List.replicate n true).all id) = true := by
  rw [List.all_eq_true]
  intro x hx
  rw [List.eq_of_mem_replicate hx]
  rfl
theorem bl_true {p : Prop} [Decidable p] (h : p) : V.bl (decide p) = V.bl true := by rw [decide_eq_true h]
theorem bl_false {p : Prop} [Decidable p] (h : ¬ p) : V.bl (decide p) = V.bl false := by rw [decide_eq_false h]
theorem ixN_at {n j : Nat} (h : j < n) : ixN n (j : Int) = some j := by
  unfold ixN
  rw [if_pos (by omega), if_pos (by omega), Int.toNat_natCast]
theorem zz_perm {r s : List Nat} (h : r.Perm s) : (zz r).Perm (zz s) := h.map _
theorem zz_range_up (n : Nat) : (zz (List.range n)).Pairwise (· ≤ ·) := by
  unfold zz
  rw [List.pairwise_map]
  exact List.pairwise_le_range.imp fun h => Int.ofNat_le.mpr h
theorem zz_inj {r s : List Nat} (h : zz r = zz s) : r = s := by
  unfold zz at h
  exact (List.map_inj_right (fun a b e => Int.ofNat.inj e)).mp h
theorem vN_set (l : List Nat) (i n : Nat) : (vN l).set i (.int (n : Int)) = vN (l.set i n) := by
  unfold vN zz
  rw [List.map_set, List.map_set]
theorem vN_rep (n : Nat) : (List.replicate n [V.int 0]).flatten = vN (List.replicate n 0) := by
  induction n with
  | zero => rfl
  | succ n ih =>
    rw [List.replicate_succ, List.flatten_cons, ih]
    rfl
theorem mx_zz (l : List Nat) : mx 0 (zz l) = ((mxN l : Nat) : Int) := by
  unfold mxN
  cases l with
  | nil => rfl
  | cons x l =>
    show (zz l).foldl max (x : Int) = (((x :: l).foldl max 0 : Nat) : Int)
    rw [List.foldl_cons, Nat.zero_max]
    induction l generalizing x with
    | nil => rfl
    | cons y l ih =>
      show (zz l).foldl max (max (x : Int) (y : Int)) = _
      rw [List.foldl_cons, ← ih]
      congr 1
      omega
theorem vN_snoc (l : List Nat) (n : Nat) : vN l ++ [V.int (n : Int)] = vN (l ++ [n]) := by
  unfold vN zz
  rw [List.map_append, List.map_append]
  rfl
def colP (r found : List Nat) (top i : Nat) : List Nat :=
  ((List.range i).filter fun o => decide (r.getD top 0 < r.getD o 0)).map fun o => found.getD o 0 + 1
theorem colP_yes {r found : List Nat} {top i : Nat} (h : r.getD top 0 < r.getD i 0) : colP r found top (i + 1) = colP r found top i ++ [found.getD i 0 + 1] := by
  unfold colP
  have e : ([i].filter fun o => decide (r.getD top 0 < r.getD o 0)) = [i] := by
    exact List.filter_cons_of_pos (p := fun o => decide (r.getD top 0 < r.getD o 0)) (decide_eq_true h)
  rw [List.range_succ, List.filter_append, List.map_append, e]
  rfl
theorem colP_no {r found : List Nat} {top i : Nat} (h : ¬ r.getD top 0 < r.getD i 0) : colP r found top (i + 1) = colP r found top i := by
  unfold colP
  have e : ([i].filter fun o => decide (r.getD top 0 < r.getD o 0)) = [] := by
    exact List.filter_cons_of_neg (p := fun o => decide (r.getD top 0 < r.getD o 0)) (by rw [decide_eq_false h]; exact Bool.false_ne_true)
  rw [List.range_succ, List.filter_append, List.map_append, e, List.map_nil, List.append_nil]
theorem getD_of {l : List Nat} {i n : Nat} (h : l[i]? = some n) : l.getD i 0 = n := by
  rw [List.getD_eq_getElem?_getD, h]
  rfl
theorem getD_at {l : List Nat} {i : Nat} (h : i < l.length) : l[i]? = some (l.getD i 0) := by
  rw [List.getD_eq_getElem?_getD, List.getElem?_eq_getElem h]
  rfl
theorem vN_at {l : List Nat} {i : Nat} (h : i < l.length) : atI (vN l) (i : Int) = some (.int ((l.getD i 0 : Nat) : Int)) := atI_nat (vN_get (getD_at h))
theorem colP_len (r found : List Nat) (top i : Nat) : (colP r found top i).length ≤ i := by
  unfold colP
  rw [List.length_map]
  have := List.length_filter_le (fun o => decide (r.getD top 0 < r.getD o 0)) (List.range i)
  rw [List.length_range] at this
  exact this
def QA (H : Hp) (q c : Addr) (cells : List Int) (k : Nat) : Prop := ∃ (turn rest : Int),
  H q = some (.lst [.ref c, .int turn, .int rest]) ∧ H c = some (.lst (cells.map V.int)) ∧ 0 ≤ turn ∧ turn ≤ (k : Int) ∧ 0 ≤ rest
theorem mod_nat (i : Int) {m : Nat} (h : 1 ≤ m) : ∃ j : Nat, j < m ∧ i % (m : Int) = (j : Int) := by
  have h1 : 0 ≤ i % (m : Int) := Int.emod_nonneg i (by omega)
  have h2 : i % (m : Int) < (m : Int) := Int.emod_lt_of_pos i (by omega)
  exact ⟨(i % (m : Int)).toNat, by omega, by omega⟩
theorem mv_upd {q : Addr} {H : Hp} {o : HO} : Mv q H (upd H q o) := fun b u n e => by
  rw [upd_ne n]
  exact e
theorem divW {i : Int} {m : Nat} (h : 1 ≤ m) (h2 : m ≤ 100000) : CDivW i (m : Int) :=
  wide_div (b := 17) (by omega) (by omega) (by omega) (by omega)
theorem natAbs_small {x : Int} (h0 : 0 ≤ x) (h : x < 18446744073709551616) : x.natAbs < 2 ^ 64 := by
  have : (2 : Nat) ^ 64 = 18446744073709551616 := by decide
  omega
theorem mod_lo (i : Int) {m : Int} (h : 0 < m) : 0 ≤ i % m := Int.emod_nonneg i (by omega)
theorem mod_hi (i : Int) {m : Int} (h : 0 < m) : i % m < m := Int.emod_lt_of_pos i h
theorem pos_c {m : Int} (h : 0 < m) : 0 < m := h
theorem turn_sq {t : Int} (h0 : 0 ≤ t) (h1 : t ≤ 10000) : 0 ≤ t * t ∧ t * t ≤ 100000000 := by
  constructor
  · exact Int.mul_nonneg h0 h0
  · have := Int.mul_le_mul h1 h1 h0 (by omega : (0 : Int) ≤ 10000)
    omega
theorem mix_big {x t : Int} (hx0 : 0 ≤ x) (hx : x < 2147483648) (h0 : 0 ≤ t) (h1 : t ≤ 10000) : 0 ≤ x * (2 * t + 5000) ∧ x * (2 * t + 5000) ≤ 2147483648 * 25000 := by
  constructor
  · exact Int.mul_nonneg hx0 (by omega)
  · exact Int.mul_le_mul (by omega) (by omega) (by omega) (by omega)
/-! comprehensions over a list, a tuple that stands: as they are read -/
section
variable {K : PySem.W.Frag} {g : TG} {tt : TT} {te : TE} {vs : List Nat} {σ : L2.St} {H1 : Hp} {Qd : Addr → Hp → Prop}
theorem lcL {a : Addr} {xs : List V} (hq : H1 a = some (.lst xs)) (outs : Nat → List V) (h0 : outs 0 = []) (hz : ∀ i, i ≤ xs.length → (outs i).length < sizeLine)
    (turn : ∀ (i : Nat) (x : V) (H : Hp) (Kt : V → Hp → Prop) (Kf : Hp → Prop), xs[i]? = some x → Same H1 H →
      (∀ y H4, Same H H4 → outs (i + 1) = outs i ++ [y] → Kt y H4) → (∀ H3, Same H H3 → outs (i + 1) = outs i → Kf H3) →
      g x (wipe σ vs) H fun σ2 H2 => wipe σ2 vs = wipe σ vs ∧ tt σ2 H2 fun b H3 => if b = true then te σ2 H3 fun y H4 => Kt y H4 else Kf H3)
    (hd : ∀ D H, Same H1 H → H1 D = none → H D = some (.lst (outs xs.length)) → Qd D H) :
    ∀ D, H1 D = none → ∃ W : Nat → Nat → Hp → Prop, (∃ m, W 0 m (upd H1 D (.lst []))) ∧ ∀ i m H, W i m H →
      ((Itl K a).stop i H ∧ Qd D H) ∨ ((Itl K a).go i H ∧ ∃ Nx : Hp → Prop, (∀ H', Nx H' → ∃ m', m' < m ∧ W (i + 1) m' H') ∧ ∀ x H', (Itl K a).yld i H x H' → g x (wipe σ vs) H' fun σ2 H2 => wipe σ2 vs = wipe σ vs ∧ tt σ2 H2 fun b H3 =>
        if b = true then te σ2 H3 fun y H4 => ∃ acc, H4 D = some (.lst acc) ∧ acc.length < sizeLine ∧ Nx (upd H4 D (.lst (acc ++ [y]))) else Nx H3) := by
  intro D nD
  refine lc_list (K := K) (a := a) (xs := xs) (fun i H => Same H1 H ∧ H D = some (.lst (outs i)))
    ⟨same_new nD, by rw [upd_same, h0]⟩ (fun i H _ hp => seqL (hp.1 _ _ hq)) (fun i x H hx ⟨s, e⟩ => ?_)
    (fun H hp => hd D H hp.1 nD hp.2)
  have li := (List.getElem?_eq_some_iff.mp hx).1
  refine turn i x H _ _ hx s (fun y H4 s4 eo => ?_) (fun H3 s3 eo => ?_)
  · exact ⟨outs i, s4 _ _ e, hz i (by omega), keepD (xs := []) nD s s4, by rw [upd_same, eo]⟩
  · exact ⟨s.trans s3, by rw [s3 _ _ e, eo]⟩
theorem lcT {a : Addr} {xs : List V} (hq : TupAt H1 a xs) (outs : Nat → List V) (h0 : outs 0 = []) (hz : ∀ i, i ≤ xs.length → (outs i).length < sizeLine)
    (turn : ∀ (i : Nat) (x : V) (H : Hp) (Kt : V → Hp → Prop) (Kf : Hp → Prop), xs[i]? = some x → Same H1 H →
      (∀ y H4, Same H H4 → outs (i + 1) = outs i ++ [y] → Kt y H4) → (∀ H3, Same H H3 → outs (i + 1) = outs i → Kf H3) →
      g x (wipe σ vs) H fun σ2 H2 => wipe σ2 vs = wipe σ vs ∧ tt σ2 H2 fun b H3 => if b = true then te σ2 H3 fun y H4 => Kt y H4 else Kf H3)
    (hd : ∀ D H, Same H1 H → H1 D = none → H D = some (.lst (outs xs.length)) → Qd D H) :
    ∀ D, H1 D = none → ∃ W : Nat → Nat → Hp → Prop, (∃ m, W 0 m (upd H1 D (.lst []))) ∧ ∀ i m H, W i m H →
      ((Itt K a).stop i H ∧ Qd D H) ∨ ((Itt K a).go i H ∧ ∃ Nx : Hp → Prop, (∀ H', Nx H' → ∃ m', m' < m ∧ W (i + 1) m' H') ∧ ∀ x H', (Itt K a).yld i H x H' → g x (wipe σ vs) H' fun σ2 H2 => wipe σ2 vs = wipe σ vs ∧ tt σ2 H2 fun b H3 =>
        if b = true then te σ2 H3 fun y H4 => ∃ acc, H4 D = some (.lst acc) ∧ acc.length < sizeLine ∧ Nx (upd H4 D (.lst (acc ++ [y]))) else Nx H3) := by
  intro D nD
  refine lc_tup (K := K) (a := a) (xs := xs) (fun i H => Same H1 H ∧ H D = some (.lst (outs i)))
    ⟨same_new nD, by rw [upd_same, h0]⟩ (fun i H _ hp => seqT (hq.mono hp.1)) (fun i x H hx ⟨s, e⟩ => ?_)
    (fun H hp => hd D H hp.1 nD hp.2)
  have li := (List.getElem?_eq_some_iff.mp hx).1
  refine turn i x H _ _ hx s (fun y H4 s4 eo => ?_) (fun H3 s3 eo => ?_)
  · exact ⟨outs i, s4 _ _ e, hz i (by omega), keepD (xs := []) nD s s4, by rw [upd_same, eo]⟩
  · exact ⟨s.trans s3, by rw [s3 _ _ e, eo]⟩
end
/-- a loop over enumerate of a list -/
theorem for_enumL {K : PySem.W.Frag} {a : Addr} {xs : List V} {g : TG} {tb : TS} {D : Ends} {σ : L2.St} {H : Hp} (Pv : Nat → L2.St → Hp → Prop) (h0 : Pv 0 σ H)
    (hq : ∀ i σ H, Pv i σ H → SqL K H a xs)
    (hs : ∀ (i : Nat) (x : V) (T : Addr) (σ : L2.St) (H : Hp), xs[i]? = some x → Pv i σ H → H T = none →
      g (.ref T) σ (upd H T (.tup [.int (i : Nat), x])) fun σ2 H2 => tb { D with nx := Pv (i + 1), ct := Pv (i + 1), bk := D.nx } σ2 H2)
    (hd : ∀ σ H, Pv xs.length σ H → D.nx σ H) :
    ∃ W : Nat → Nat → L2.St → Hp → Prop, (∃ m, W 0 m σ H) ∧ ∀ i m σ H, W i m σ H →
      ((Ite K a).stop i H ∧ D.nx σ H) ∨ ((Ite K a).go i H ∧ ∃ N : L2.St → Hp → Prop, (∀ σ' H', N σ' H' → ∃ m', m' < m ∧ W (i + 1) m' σ' H') ∧
        ∀ v H', (Ite K a).yld i H v H' → g v σ H' fun σ2 H2 => tb { D with nx := N, ct := N, bk := D.nx } σ2 H2) := by
  refine ⟨fun i m σ H => m = xs.length - i ∧ i ≤ xs.length ∧ Pv i σ H,
    ⟨xs.length, rfl, Nat.zero_le _, h0⟩, ?_⟩
  rintro i m σ H ⟨rfl, hi, p⟩
  have qx := hq i σ H p
  by_cases hlt : i < xs.length
  · have hx : xs[i]? = some xs[i] := List.getElem?_eq_getElem hlt
    refine .inr ⟨⟨xs, _, qx, hx⟩, Pv (i + 1),
      fun σ' H' p' => ⟨xs.length - (i + 1), by omega, rfl, hlt, p'⟩, fun v H' y => ?_⟩
    obtain ⟨T, x', rfl, hT, rfl, f1⟩ := y
    exact hs i x' T σ H (f1 xs qx) p hT
  · have e : i = xs.length := by omega
    subst e
    exact .inl ⟨⟨xs, qx, Nat.le_refl _⟩, hd σ H p⟩
theorem ixQ {K : PySem.W.Frag} {H : Hp} {a : Addr} {xs : List V} {i : Int} {v : V} {Q : VK} (h : SqV H a xs) (e : atI xs i = some v) (q : Q v H) : rIx K (.ref a) (.int i) H Q := by
  rcases h with h | h
  · exact .inl ⟨a, xs, i, v, rfl, rfl, seqL h, e, q⟩
  · exact .inr (.inl ⟨a, xs, i, v, rfl, rfl, seqT h, e, q⟩)
theorem map_erase {α β : Type} (f : α → β) : ∀ (l : List α) (j : Nat), (l.map f).eraseIdx j = (l.eraseIdx j).map f
  | [], _ => rfl
  | _ :: _, 0 => rfl
  | x :: l, j + 1 => by
    show f x :: (l.map f).eraseIdx j = f x :: (l.eraseIdx j).map f
    rw [map_erase f l j]
theorem vN_erase (l : List Nat) (j : Nat) : (vN l).eraseIdx j = vN (l.eraseIdx j) := by
  unfold vN zz
  rw [map_erase, map_erase]
theorem erase_perm : ∀ (l : List Nat) (j x : Nat), l[j]? = some x → (x :: l.eraseIdx j).Perm l
  | [], _, _, h => by simp at h
  | y :: l, 0, x, h => by
    have e : y = x := by simpa using h
    rw [e]
    exact .refl _
  | y :: l, j + 1, x, h => by
    have ih := erase_perm l j x (by simpa using h)
    show (x :: y :: l.eraseIdx j).Perm (y :: l)
    exact (List.Perm.swap _ _ _).trans (ih.cons y)
theorem seqIx {j n : Nat} (h : j < n) : seqIndex? (j : Int) n = some j := (ixN_seq (ixN_at h)).1
/-- rows of numbers, each a tuple -/
def RowsAt (H : Hp) : List Addr → List (List Nat) → Prop
  | [], [] => True
  | a :: as, r :: rs => TupAt H a (vN r) ∧ RowsAt H as rs
  | _, _ => False
theorem RowsAt.mono {H H' : Hp} (s : Same H H') : ∀ {as : List Addr} {rs : List (List Nat)}, RowsAt H as rs → RowsAt H' as rs
  | [], [], h => h
  | a :: as, r :: rs, h => ⟨h.1.mono s, RowsAt.mono s h.2⟩
  | [], _ :: _, h => h
  | _ :: _, [], h => h
theorem RowsAt.len {H : Hp} : ∀ {as : List Addr} {rs : List (List Nat)}, RowsAt H as rs → as.length = rs.length
  | [], [], _ => rfl
  | a :: as, r :: rs, h => by
    rw [List.length_cons, List.length_cons, RowsAt.len h.2]
  | [], _ :: _, h => h.elim
  | _ :: _, [], h => h.elim
theorem RowsAt.app {H : Hp} : ∀ {as : List Addr} {rs : List (List Nat)} {bs : List Addr} {ss : List (List Nat)}, RowsAt H as rs → RowsAt H bs ss → RowsAt H (as ++ bs) (rs ++ ss)
  | [], [], _, _, _, h => h
  | a :: as, r :: rs, _, _, h, h2 => ⟨h.1, RowsAt.app h.2 h2⟩
  | [], _ :: _, _, _, h, _ => h.elim
  | _ :: _, [], _, _, h, _ => h.elim
theorem RowsAt.get {H : Hp} : ∀ {as : List Addr} {rs : List (List Nat)} {i : Nat} {a : Addr}, RowsAt H as rs → as[i]? = some a → ∃ r, rs[i]? = some r ∧ TupAt H a (vN r)
  | [], _, _, _, _, e => by simp at e
  | a :: as, r :: rs, 0, b, h, e => by
    have z : a = b := by simpa using e
    subst z
    exact ⟨r, rfl, h.1⟩
  | a :: as, r :: rs, i + 1, b, h, e => RowsAt.get (i := i) h.2 (by simpa using e)
  | _ :: _, [], _, _, h, _ => h.elim
abbrev vA (as : List Addr) : List V := as.map V.ref
theorem cut_ints (ns : List Int) (lo hi : Option Int) : ∃ ms : List Int, cutV (ns.map V.int) lo hi = ms.map V.int ∧ ms.length ≤ ns.length := by
  unfold cutV
  rw [← List.map_drop, ← List.map_take]
  exact ⟨_, rfl, by rw [List.length_take, List.length_drop]; omega⟩
theorem QA.ne {H : Hp} {q c : Addr} {cells : List Int} {k : Nat} (h : QA H q c cells k) : ∀ p, H p = none → p ≠ q := fun p np e => by
  obtain ⟨_, _, eq, _⟩ := h
  rw [← e, np] at eq
  cases eq
theorem QA.cne {H : Hp} {q c : Addr} {cells : List Int} {k : Nat} (h : QA H q c cells k) : ∀ p, H p = none → c ≠ p := fun p np e => by
  obtain ⟨_, _, _, ec, _⟩ := h
  rw [e, np] at ec
  cases ec
theorem QA.mono {H H' : Hp} {q c : Addr} {cells : List Int} {k : Nat} (h : QA H q c cells k) (s : Same H H') : QA H' q c cells k := by
  obtain ⟨t, r, e1, e2, z⟩ := h
  exact ⟨t, r, s _ _ e1, s _ _ e2, z⟩
theorem QA.upd {H : Hp} {q c p : Addr} {cells : List Int} {k : Nat} {o : HO} (h : QA H q c cells k) (n : p ≠ q) (m : c ≠ p) : QA (upd H p o) q c cells k := by
  obtain ⟨t, r, e1, e2, z⟩ := h
  exact ⟨t, r, by rw [upd_ne n.symm]; exact e1, by rw [upd_ne m]; exact e2, z⟩
theorem vA_app (as bs : List Addr) : vA (as ++ bs) = vA as ++ vA bs := List.map_append
theorem vA_snoc (as : List Addr) (a : Addr) : vA (as ++ [a]) = vA as ++ [V.ref a] := List.map_append
theorem in_vN (i : Nat) (r : List Nat) : inV (.int (i : Int)) (vN r) = r.contains i := by
  unfold inV vN zz
  rw [List.map_map, List.any_map]
  rw [Bool.eq_iff_iff, List.any_eq_true]
  constructor
  · rintro ⟨x, hx, e⟩
    have e' : ((x : Int) == (i : Int)) = true := e
    have : (x : Int) = (i : Int) := by simpa using e'
    have : x = i := by omega
    subst this
    simpa using hx
  · intro h
    refine ⟨i, by simpa using h, ?_⟩
    show ((i : Int) == (i : Int)) = true
    simp
theorem flat_vN (r : List Nat) : (vN r).all flatV = true := by
  rw [List.all_eq_true]
  intro x hx
  obtain ⟨z, _, rfl⟩ := List.mem_map.mp hx
  rfl
theorem bl_eq {i j : Nat} : decide (V.int (i : Int) = V.int (j : Int)) = decide (i = j) := by
  rw [Bool.eq_iff_iff, decide_eq_true_eq, decide_eq_true_eq]
  constructor
  · intro h
    have := V.int.inj h
    omega
  · rintro rfl
    rfl
abbrev dI (r : List Nat) : PyData := .tuple ((zz r).map PyData.int)
def dTs (L : List (List Nat)) : List PyData := L.map dI
theorem eqv_dI (r s : List Nat) : PyData.eqv (dI r) (dI s) = decide (r = s) := by
  show PyData.eqvAll _ _ = _
  rw [eqv_ints, Bool.eq_iff_iff, decide_eq_true_eq, decide_eq_true_eq]
  exact ⟨zz_inj, fun h => by rw [h]⟩
theorem can_dTs : ∀ L : List (List Nat), PyData.canLayAll0 (dTs L) = true
  | [] => rfl
  | r :: L => by
    show (PyData.canLayAll0 ((zz r).map PyData.int) && PyData.canLayAll0 (dTs L)) = true
    rw [can_dTs L, can_ints]
    rfl
theorem depth_dTs : ∀ L : List (List Nat), PyData.depthAll (dTs L) ≤ 2
  | [] => by
    show 0 ≤ 2
    omega
  | r :: L => by
    have ih := depth_dTs L
    have h1 := depth_ints (zz r)
    show max (PyData.depthAll ((zz r).map PyData.int) + 1) (PyData.depthAll (dTs L)) ≤ 2
    omega
theorem shaped_dTs (L : List (List Nat)) : SeqAt.shaped (.list (dTs L)) = true := by
  have h := depth_dTs L
  show (PyData.canLayAll0 (dTs L) && decide (PyData.depthAll (dTs L) + 1 ≤ 64)) = true
  rw [can_dTs, decide_eq_true (by omega)]
  rfl
theorem shaped_pair (L : List (List Nat)) : SeqAt.shaped (.tuple (dTs L)) = true := by
  have h := depth_dTs L
  show (PyData.canLayAll0 (dTs L) && decide (PyData.depthAll (dTs L) + 1 ≤ 64)) = true
  rw [can_dTs, decide_eq_true (by omega)]
  rfl
theorem eqv_dTs : ∀ L M : List (List Nat), PyData.eqvAll (dTs L) (dTs M) = decide (L = M)
  | [], [] => by
    rw [decide_eq_true rfl]
    rfl
  | [], m :: M => by
    rw [decide_eq_false (fun h => nomatch h)]
    rfl
  | r :: L, [] => by
    rw [decide_eq_false (fun h => nomatch h)]
    rfl
  | r :: L, m :: M => by
    show (PyData.eqv (dI r) (dI m) && PyData.eqvAll (dTs L) (dTs M)) = _
    rw [eqv_dTs L M, eqv_dI]
    by_cases e : r = m
    · subst e
      by_cases e2 : L = M
      · subst e2
        simp
      · simp [e2]
    · simp [e]
theorem any_dTs (L : List (List Nat)) (e : List Nat) : ((dTs L).any fun z => PyData.eqv z (dI e)) = decide (e ∈ L) := by
  unfold dTs
  rw [List.any_map, Bool.eq_iff_iff, List.any_eq_true, decide_eq_true_eq]
  constructor
  · rintro ⟨x, hx, h⟩
    have h' : PyData.eqv (dI x) (dI e) = true := h
    rw [eqv_dI] at h'
    rw [← of_decide_eq_true h']
    exact hx
  · intro h
    refine ⟨e, h, ?_⟩
    show PyData.eqv (dI e) (dI e) = true
    rw [eqv_dI, decide_eq_true rfl]
theorem dp_tup {K : PySem.W.Frag} {H : Hp} {a : Addr} {r : List Nat} (h : TupAt H a (vN r)) : Dp K H (.ref a) (dI r) := .tup (seqT h) (dp_ints _)
theorem dp_rows {K : PySem.W.Frag} {H : Hp} : ∀ {as : List Addr} {rs : List (List Nat)}, RowsAt H as rs → DpAll K H (vA as) (dTs rs)
  | [], [], _ => .nil
  | a :: as, r :: rs, h => .cons (dp_tup h.1) (dp_rows h.2)
  | [], _ :: _, h => h.elim
  | _ :: _, [], h => h.elim
theorem QA.tup {H H' : Hp} {q c a : Addr} {cells : List Int} {k : Nat} {xs : List V} (h : QA H q c cells k) (m : Mv q H H') (e : TupAt H a xs) : TupAt H' a xs := by
  obtain ⟨t, r, eq, _⟩ := h
  rcases e with e | ⟨o, d, e⟩
  · exact .inl (m _ _ (ne_of e eq (by intro z; cases z)) e)
  · exact .inr ⟨o, d, m _ _ (ne_of e eq (by intro z; cases z)) e⟩
theorem QA.tupN {H H' : Hp} {q c a : Addr} {cells : List Int} {k : Nat} {xs : List V} (h : QA H q c cells k) (m : Mv q H H') (e : TupN H a xs) : TupN H' a xs := by
  obtain ⟨t, r, eq, _⟩ := h
  obtain ⟨o, d, e⟩ := e
  exact ⟨o, d, m _ _ (ne_of e eq (by intro z; cases z)) e⟩
theorem QA.rows {H H' : Hp} {q c : Addr} {cells : List Int} {k : Nat} (h : QA H q c cells k) (m : Mv q H H') : ∀ {as : List Addr} {rs : List (List Nat)}, RowsAt H as rs → RowsAt H' as rs
  | [], [], z => z
  | a :: as, r :: rs, z => ⟨h.tup m z.1, QA.rows h m z.2⟩
  | [], _ :: _, z => z.elim
  | _ :: _, [], z => z.elim
theorem QA.refs {H : Hp} {q c p : Addr} {cells : List Int} {k : Nat} {as : List Addr} (h : QA H q c cells k) (e : H p = some (.lst (vA as))) : p ≠ q := by
  rintro rfl
  obtain ⟨t, r, eq, _⟩ := h
  rw [e] at eq
  have z := HO.lst.inj (Option.some.inj eq)
  cases as with
  | nil => cases z
  | cons a as =>
    cases as with
    | nil => cases z
    | cons b as => cases z
theorem QA.ints {H : Hp} {q c p : Addr} {cells : List Int} {k : Nat} {s : List Nat} (h : QA H q c cells k) (e : H p = some (.lst (vN s))) : p ≠ q := by
  rintro rfl
  obtain ⟨t, r, eq, _⟩ := h
  rw [e] at eq
  have z := HO.lst.inj (Option.some.inj eq)
  cases s with
  | nil => cases z
  | cons a as => cases z
theorem QA.le {H : Hp} {q c : Addr} {cells : List Int} {k l : Nat} (h : QA H q c cells k) (m : k ≤ l) : QA H q c cells l := by
  obtain ⟨t, r, e1, e2, z1, z2, z3⟩ := h
  exact ⟨t, r, e1, e2, z1, by omega, z3⟩
def pick (f : List Nat → Bool) : List Addr → List (List Nat) → List Addr
  | a :: as, r :: rs => if f r = true then a :: pick f as rs else pick f as rs
  | _, _ => []
theorem pick_rows {f : List Nat → Bool} {H : Hp} : ∀ {as : List Addr} {rs : List (List Nat)}, RowsAt H as rs → RowsAt H (pick f as rs) (rs.filter f)
  | [], [], _ => True.intro
  | a :: as, r :: rs, h => by
    show RowsAt H (if f r = true then _ else _) _
    by_cases c : f r = true
    · rw [if_pos c, List.filter_cons_of_pos c]
      exact ⟨h.1, pick_rows h.2⟩
    · rw [if_neg c, List.filter_cons_of_neg c]
      exact pick_rows h.2
  | [], _ :: _, h => h.elim
  | _ :: _, [], h => h.elim
theorem pick_snoc {f : List Nat → Bool} {a : Addr} {r : List Nat} : ∀ {as : List Addr} {rs : List (List Nat)}, as.length = rs.length → pick f (as ++ [a]) (rs ++ [r]) = pick f as rs ++ (if f r = true then [a] else [])
  | [], [], _ => by
    show (if f r = true then a :: [] else []) = [] ++ _
    rw [List.nil_append]
  | x :: as, y :: rs, h => by
    have ih := pick_snoc (f := f) (a := a) (r := r) (as := as) (rs := rs) (by simpa using h)
    show (if f y = true then x :: pick f (as ++ [a]) (rs ++ [r]) else pick f (as ++ [a]) (rs ++ [r])) = (if f y = true then x :: pick f as rs else pick f as rs) ++ _
    rw [ih]
    by_cases c : f y = true
    · rw [if_pos c, if_pos c]
      rfl
    · rw [if_neg c, if_neg c]
  | [], _ :: _, h => by simp at h
  | _ :: _, [], h => by simp at h
theorem pick_len (f : List Nat → Bool) : ∀ (as : List Addr) (rs : List (List Nat)), (pick f as rs).length ≤ as.length
  | [], rs => by
    cases rs <;> exact Nat.le_refl 0
  | a :: as, [] => Nat.zero_le _
  | a :: as, r :: rs => by
    have ih := pick_len f as rs
    show (if f r = true then a :: pick f as rs else pick f as rs).length ≤ as.length + 1
    by_cases c : f r = true
    · rw [if_pos c, List.length_cons]
      omega
    · rw [if_neg c]
      omega
theorem pick_at {f : List Nat → Bool} {as : List Addr} {rs : List (List Nat)} (hl : as.length = rs.length) {i : Nat} {a : Addr} {r : List Nat} (h1 : as[i]? = some a) (h2 : rs[i]? = some r) :
    vA (pick f (as.take (i + 1)) (rs.take (i + 1))) = vA (pick f (as.take i) (rs.take i)) ++ (if f r = true then [V.ref a] else []) := by
  rw [List.take_add_one, List.take_add_one, h1, h2]
  show vA (pick f (as.take i ++ [a]) (rs.take i ++ [r])) = _
  rw [pick_snoc (by rw [List.length_take, List.length_take, hl]), vA_app]
  congr 1
  by_cases c : f r = true
  · rw [if_pos c, if_pos c]
    rfl
  · rw [if_neg c, if_neg c]
    rfl
end My

namespace My
open PySem PySem.Spec PyProof.Rows L2
/-! own errors with one field: made, raised, asked -/
def sp_init (C : Addr) (x : Str) : Sp := fun vs H Q _ => ∃ (a : Addr) (v : V), vs = [.ref a, v] ∧ H a = some (exo a C none) ∧
  ∀ dx, H dx = none → dx ≠ a → Q .non (upd (upd H dx (exd dx [(x, v)])) a (exo a C (some dx)))
theorem mk_raise {H1 : Hp} {C : Addr} {x : Str} {v : V} {Q : XK} (h : ∀ d, H1 d = none → Q (.ref C) (some d) (upd H1 d (.xd [(x, v)]))) (a : Addr) (na : H1 a = none) :
    sp_init C x [.ref a, v] (upd H1 a (exo a C none)) (fun r H2 => r = .non ∧ ∃ (d : Addr) (fs : List (Str × V)), H2 a = some (exo a C (some d)) ∧ H2 d = some (exd d fs) ∧ H1 d = none ∧
      Q (.ref C) (some d) (upd (del H2 a) d (.xd fs))) (fun _ _ _ => False) := by
  refine ⟨a, v, rfl, upd_same, fun dx ndx ne => ⟨rfl, dx, [(x, v)], upd_same, ?_, ?_, ?_⟩⟩
  · rw [upd_ne ne, upd_same]
  · rw [upd_ne ne] at ndx
    exact ndx
  · rw [upd_ne ne] at ndx
    have e : upd (del (upd (upd (upd H1 a (exo a C none)) dx (exd dx [(x, v)])) a (exo a C (some dx))) a) dx (.xd [(x, v)]) = upd H1 dx (.xd [(x, v)]) := by
      funext b
      by_cases b1 : b = dx
      · rw [b1, upd_same, upd_same]
      · rw [upd_ne b1, upd_ne b1]
        by_cases b2 : b = a
        · rw [b2, del_same, na]
        · rw [del_ne b2, upd_ne b2, upd_ne b1, upd_ne b2]
    rw [e]
    exact h dx ndx
/-- what an own error class is asked for -/
structure ErrK (K : PySem.W.Frag) (C : Addr) : Prop where
  oex : OexC K C
  xf : XfC K C
  hcl : (PySem.W.clsIn K C).isSome = true
  ha : PySem.W.findIn K (.ref C) "__class__" = some (some (.builtin "object.__class__"))
  hn : PySem.W.specialIn K (.builtin "object.__class__") "__get__" = some (some (.builtin "getset_descriptor.__get__"))
  ht : PySem.W.takesIn K (.builtin "object.__class__") = some true
  hm : PySem.W.mroIn K C (.type "object") = some true
def rIsE2 (K : PySem.W.Frag) (a : Addr) (cls : Value) (d : Option Addr) : List V → Hp → VK → Prop := fun xs H Q => ∃ (c D dd : Addr) (fs : List (Str × V)) (b : Bool),
  xs = [.ref a, .ref c] ∧ cls = .ref D ∧ d = some dd ∧ H dd = some (.xd fs) ∧ ErrK K D ∧ PySem.W.kitOne K (.ref D) (.ref c) = some b ∧ Q (.bl b) H
theorem call_isE2 {X : Cx} {a : Addr} {cls : Value} {d : Option Addr} {oe : Obj} {pn : List (Addr × Obj)} (hz : Zc cls d oe) (hf : ∃ vs, oe.data = .fields vs) :
    CallR (X.suite a ((a, oe) :: pn)) (.builtin "isinstance") (rIsE2 X.K a cls d) := by
  intro pins s σ H xs us Q I r h
  obtain ⟨c, D, dd, fs, b, rfl, rfl, rfl, ed, C, e, q⟩ := h
  obtain ⟨u1, u2, rfl, r1, r2⟩ := vals2 r
  cases (show u1 = Value.ref a from r1)
  cases (show u2 = Value.ref c from r2)
  obtain ⟨got, _⟩ := I.pin (a, oe) (List.mem_append_left _ List.mem_cons_self)
  obtain ⟨vs, hv⟩ := hf
  have hx : ObjOk X.prog X.w H s.heap dd (.xd fs) := I.hok dd _ ed
  obtain ⟨mA, hns, _⟩ := hx
  obtain ⟨od, ho, _⟩ := lookIn_ns hns
  have J : PySem.W.InstAt s.heap a oe D (some od) := by
    refine ⟨got, hz.1, ?_, ?_⟩
    · unfold PySem.W.notCls
      rw [hv]
    · rw [hz.2]
      exact ho
  exact PySem.W.kia_one
    (PySem.W.kitx_exc C.hcl C.xf.ga C.xf.gg C.xf.exC C.ha C.hn C.ht C.hm)
    I.kIn J e (fun z => nomatch z)
    fun tk => ⟨.bl b, H, I.kept (t' := tk) fun _ _ z => z, rfl, q⟩
theorem kit_self (K : PySem.W.Frag) (C : Addr) : PySem.W.kitOne K (.ref C) (.ref C) = some true := by
  unfold PySem.W.kitOne
  rw [if_pos (by simp)]
end My

namespace My
open PySem PySem.Spec PyProof.Rows L2
/-! sorted of a list of tuples of ints, each told by its first one -/
def HeadsOk (h : Heap) (vs : List Value) : Prop := (∀ v ∈ vs, ∃ ns, TS.TupInts h v ns ∧ ns ≠ []) ∧
  ∀ v ∈ vs, ∀ u ∈ vs, ∀ ns ms, TS.TupInts h v ns → TS.TupInts h u ms → ns.headD 0 = ms.headD 0 → ns = ms
def rankV (h : Heap) (v : Value) : Int := (TS.intsOf h v).headD 0
section
variable {P : Program} {w : World} {A : Around} {E : Value → Shared → Prop} {s : Shared}
theorem same_lex {b fin : Bool} {Q : Bool → Shared → Prop} {ns : List Int} : ∀ {xs ys : List Value} (i : Nat),
    IntsAre xs ns → IntsAre ys ns → Q fin s → PySem.W.KatLex P w A b fin Q (xs.zip ys) i s := by
  induction ns with
  | nil =>
    intro xs ys i hx hy h
    cases hx
    cases hy
    exact PySem.W.kat_nil h
  | cons n ns ih =>
    intro xs ys i hx hy h
    cases hx with
    | cons _ _ hx =>
      cases hy with
      | cons _ _ hy =>
        refine PySem.W.kat_cons (wpAny_eqBool_int ?_)
        rw [beq_self_eq_true]
        exact PySem.W.kat_yes (ih (i + 1) hx hy h)
theorem firsts_heads {h : Heap} : ∀ vs : List Value, (∀ v ∈ vs, ∃ ns, TS.TupInts h v ns ∧ ns ≠ []) →
    ∃ fs, PySem.W.KatTups h vs fs ∧ fs.length = vs.length ∧ ∀ f ∈ fs, ∃ n t, f = Value.int n t
  | [], _ => ⟨[], .nil, rfl, fun _ z => nomatch z⟩
  | v :: vs, x => by
    obtain ⟨fs, k, hl, hi⟩ := firsts_heads vs fun u hu => x u (.tail _ hu)
    obtain ⟨ns, ⟨a, xs, rfl, ⟨o, ho, hc, m, hd⟩, it⟩, ne⟩ := x v (.head _)
    generalize hL : xs.toList = L at it
    cases it with
    | nil => exact absurd rfl ne
    | @cons n t us ns it =>
      have z : xs[0]? = some (Value.int n t) := by
        have z2 := congrArg (·[0]?) hL
        simpa using z2
      refine ⟨Value.int n t :: fs, .cons ho hc hd z k, by rw [List.length_cons, hl, List.length_cons], ?_⟩
      intro f hf
      rcases List.mem_cons.mp hf with rfl | hf
      · exact ⟨n, t, rfl⟩
      · exact hi f hf
theorem kind_heads {vs : List Value} {h0 : Heap} (two : 2 ≤ vs.length) (x : HeadsOk s.heap vs) (eq0 : ∀ v ∈ vs, rankV h0 v = rankV s.heap v) (Q : SortKind → Shared → Prop)
    (h : ∀ κ, TS.Cmp P w A s κ (pairsOf vs) (rankV h0) → Q κ s) : wpAny (model P w) A (keyKind' vs.toArray) Q E s := by
  obtain ⟨fs, k, hl, hi⟩ := firsts_heads vs x.1
  refine PySem.W.kat_kind (T := .type "int") k (by rw [hl]; omega)
    (fun f hf => ?_) rfl (h _ ?_)
  · obtain ⟨n, t, rfl⟩ := hi f hf
    exact .of_pure rfl
  · intro p q hp hq Q2 E2 goal
    rw [pairsOf_toList] at hp hq
    have mp := (mem_zip_self hp).2
    have mq := (mem_zip_self hq).2
    obtain ⟨ns, tp, np⟩ := x.1 _ mp
    obtain ⟨ms, tq, nq⟩ := x.1 _ mq
    have e1 : rankV h0 p.1 = ns.headD 0 := by
      rw [eq0 _ mp]
      unfold rankV
      rw [tp.ints]
    have e2 : rankV h0 q.1 = ms.headD 0 := by
      rw [eq0 _ mq]
      unfold rankV
      rw [tq.ints]
    rw [e1, e2] at goal
    have uniq := x.2 _ mp _ mq ns ms tp tq
    obtain ⟨a, xs, ea, ⟨o, ho, _, m, hd⟩, ix⟩ := tp
    obtain ⟨a', ys, ea', ⟨o', ho', _, m', hd'⟩, iy⟩ := tq
    rw [ea, ea']
    refine PySem.W.kat_lt ho hd ho' hd' ?_
    by_cases e : ns.headD 0 = ms.headD 0
    · have z := uniq e
      subst z
      have fin : decide (xs.size < ys.size) = decide (ns.headD 0 < ns.headD 0) := by
        have l1 := ix.length
        have l2 := iy.length
        rw [Array.length_toList] at l1 l2
        rw [decide_eq_false (by omega), decide_eq_false (by omega)]
      rw [fin]
      exact same_lex 0 ix iy goal
    · generalize xs.toList = X at ix
      generalize ys.toList = Y at iy
      cases ix with
      | nil => exact absurd rfl np
      | cons n t ix =>
        cases iy with
        | nil => exact absurd rfl nq
        | cons m u iy =>
          refine PySem.W.kat_cons (wpAny_eqBool_int ?_)
          have ne : (n == m) = false := beq_false_of_ne e
          rw [ne]
          exact PySem.W.kat_no (TS.oneLt_ints _ goal)
/-- sorted of such a list -/
theorem sorted_heads {l : Addr} {o : Obj} {vs : List Value} {m : Nat} {Q : Value → Shared → Prop}
    (ho : s.heap.get? l = some o) (hc : o.cls = .type "list") (hd : o.data = .seq vs.toArray m) (x : HeadsOk s.heap vs) (h64 : vs.length < 64)
    (hQ : ∀ (h1 h' : Heap) (out : Array Value) (c : Nat), (∀ b u, s.heap.get? b = some u → h1.get? b = some u) →
      (∀ b u, h1.get? b = some u → h'.get? b = some u) → h'.get? h1.objs.size = some (seqObj "list" out c) → out.toList.Perm vs →
      out.toList.Pairwise (fun u v => rankV s.heap u ≤ rankV s.heap v) → Q (.ref h1.objs.size) { s with heap := h' }) :
    wpAny (model P w) A (call (.builtin "sorted") [.ref l]) Q E s := by
  have small : vs.length ≤ sizeLine := by
    rw [sizeLine_eq]
    omega
  refine Calls.call_function_entry kind_sorted plain_sorted entry_sorted
    (args_sorted1 _) ?_
  unfold Builtin.«sorted»
  refine wpAny_bind (m := checkCount "sorted" 1 1 _)
    (wpAny_pure ?_)
  refine wpAny_bind (wpAny_collect_seq (A := A.in1) l (.inl rfl) ho hc hd
    (fun h1 k1 => ?_) (by simpa using small))
  refine wpAny_bind (wpAny_newList ?_ (by simpa using small))
  have at1 : (h1.push (seqObj "list" vs.toArray 0)).get? h1.objs.size
      = some (seqObj "list" vs.toArray 0) := Heap.get?_push_size _ rfl
  have tups : ∀ {g : Heap}, (∀ b u, h1.get? b = some u → u.cls = .type "tuple" → g.get? b = some u) → HeadsOk g vs ∧ ∀ v ∈ vs, rankV s.heap v = rankV g v := by
    intro g kg
    have up : ∀ v ns, TS.TupInts s.heap v ns → TS.TupInts g v ns := fun v ns t => t.keeps fun b u e c => kg b u (k1 b u e) c
    refine ⟨⟨fun v hv => ?_, fun v hv u hu ns ms tv tu e => ?_⟩, fun v hv => ?_⟩
    · obtain ⟨ns, t, ne⟩ := x.1 v hv
      exact ⟨ns, up _ _ t, ne⟩
    · obtain ⟨n2, t2, _⟩ := x.1 v hv
      obtain ⟨m2, u2, _⟩ := x.1 u hu
      have a1 : ns = n2 := tv.ints.symm.trans (up _ _ t2).ints
      have a2 : ms = m2 := tu.ints.symm.trans (up _ _ u2).ints
      subst a1 a2
      exact x.2 v hv u hu _ _ t2 u2 e
    · obtain ⟨ns, t, _⟩ := x.1 v hv
      unfold rankV
      rw [t.ints, (up _ _ t).ints]
  refine wpAny_bind (wpAny_holding (wpAny_call_entry slot_list_sort
    ⟨_, at1, rfl⟩ entry_list_sort
    (SK.plain_sort (r := rankV s.heap) at1 h64 (fun two Q2 hQ2 => ?_) fun ps out a1 a2 a3 => ⟨_, rfl, ?_⟩)
    (args_list_sort _)))
  · obtain ⟨y1, y2⟩ := tups (g := TS.midHeap (h1.push (seqObj "list" vs.toArray 0)) h1.objs.size vs) fun b u e _ =>
      TS.midHeap_old (Nat.ne_of_lt (Heap.lt_size e)) (Heap.get?_push_of_some _ e)
    exact kind_heads (s := { s with heap := TS.midHeap (h1.push (seqObj "list" vs.toArray 0)) h1.objs.size vs }) two y1 y2 Q2 hQ2
  · obtain ⟨b1, b2⟩ := TS.out_rank a1 a2 a3
    obtain ⟨c, hcc⟩ := sortedHeap_at (vs := vs) (out := out) at1
    refine wpAny_pure ⟨_, rfl, hQ h1 _ out c k1
      (fun b u q => ?_) hcc b1 b2⟩
    have lt := Heap.lt_size q
    rw [sortedHeap_old (Nat.ne_of_lt lt)
      (by rw [size_push']; exact Nat.lt_succ_of_lt lt)]
    exact Heap.get?_push_of_some _ q
end
section
variable {X : Cx}
/-- tuples at as, of ints rs, told by their heads -/
def rSortH (K : PySem.W.Frag) : List V → Hp → VK → Prop := fun vs H Q => ∃ (a : Addr) (as : List Addr) (f : Addr → List Int), vs = [V.ref a] ∧ SqL K H a (as.map V.ref) ∧ as.length < 64 ∧
  (∀ t ∈ as, SqT K H t ((f t).map V.int) ∧ f t ≠ []) ∧ (∀ t ∈ as, ∀ u ∈ as, (f t).headD 0 = (f u).headD 0 → f t = f u) ∧
  ∀ (bs : List Addr) (p : Addr), bs.Perm as → bs.Pairwise (fun t u => (f t).headD 0 ≤ (f u).headD 0) → H p = none → Q (.ref p) (upd H p (.lst (bs.map V.ref)))
theorem vals_refs : ∀ {as : List Addr} {us : List Value}, Vals (as.map V.ref) us → us = as.map Value.ref
  | [], _, .nil => rfl
  | a :: as, _, .cons r t => by
    rw [vals_refs t]
    cases r
    rfl
theorem refs_vals : ∀ as : List Addr, Vals (as.map V.ref) (as.map Value.ref)
  | [] => .nil
  | _ :: as => .cons rfl (refs_vals as)
theorem perm_refs {as : List Addr} {out : List Value} (h : out.Perm (as.map Value.ref)) : ∃ bs : List Addr, out = bs.map Value.ref ∧ bs.Perm as := by
  have z : ∀ v ∈ out, ∃ a, v = Value.ref a := fun v hv => by
    obtain ⟨a, _, e⟩ := List.mem_map.mp (h.mem_iff.mp hv)
    exact ⟨a, e.symm⟩
  let g : Value → Addr := fun v => match v with
    | .ref a => a
    | _ => 0
  have id1 : ∀ l : List Value, (∀ v ∈ l, ∃ a, v = Value.ref a) → (l.map g).map Value.ref = l := by
    intro l
    induction l with
    | nil => exact fun _ => rfl
    | cons v l ih =>
      intro hl
      obtain ⟨a, rfl⟩ := hl v (.head _)
      rw [List.map_cons, List.map_cons, ih fun u hu => hl u (.tail _ hu)]
  have id2 : ∀ l : List Addr, (l.map Value.ref).map g = l := by
    intro l
    induction l with
    | nil => rfl
    | cons a l ih => rw [List.map_cons, List.map_cons, ih]
  refine ⟨out.map g, (id1 out z).symm, ?_⟩
  have := h.map g
  rw [id2] at this
  exact this
theorem cr_sortH : CallR X (.builtin "sorted") (rSortH X.K) := by
  intro pins s σ H vs us Q I r h
  obtain ⟨a, as, f, rfl, hs, h64, ht, hu, q⟩ := h
  have e1 := Vals.ref1 r
  subst e1
  obtain ⟨its, rv, ⟨o, n, o1, o2, o3, o4⟩, _⟩ := I.list hs
  have ei := vals_refs rv
  subst ei
  have raw : ∀ t ∈ as, TS.TupInts s.heap (.ref t) (f t) := fun t m => tupI_raw I (ht t m).1
  have uq : ∀ t ∈ as, ∀ ns, TS.TupInts s.heap (.ref t) ns → ns = f t := fun t m ns z => z.ints.symm.trans (raw t m).ints
  have ok : HeadsOk s.heap (as.map Value.ref) := by
    refine ⟨fun v hv => ?_, fun v hv u hu2 ns ms tv tu e => ?_⟩
    · obtain ⟨t, m, rfl⟩ := List.mem_map.mp hv
      exact ⟨_, raw t m, (ht t m).2⟩
    · obtain ⟨t, m, rfl⟩ := List.mem_map.mp hv
      obtain ⟨t2, m2, rfl⟩ := List.mem_map.mp hu2
      have a1 := uq t m ns tv
      have a2 := uq t2 m2 ms tu
      subst a1 a2
      exact hu t m t2 m2 e
  refine sorted_heads o1 o2 o4 ok (by rw [List.length_map]; exact h64) fun h1 h' out c k1 k2 at1 b1 b2 => ?_
  obtain ⟨bs, eb, pb⟩ := perm_refs b1
  have I1 : Inv X pins σ H { s with heap := h1 } := I.kept (t' := s.toks) k1
  have len1 : (bs.map V.ref).length ≤ sizeLine := by
    rw [List.length_map, pb.length_eq, sizeLine_eq]
    omega
  have I2 : Inv X pins σ (upd H h1.objs.size (.lst (bs.map V.ref))) { s with heap := h' } :=
    I1.laid (t' := s.toks) k2 (Nat.le_refl _) ⟨len1, out.toList, c, by rw [eb]; exact refs_vals bs, at1⟩
  refine ⟨.ref h1.objs.size, _, I2, rfl, q bs _ pb ?_ (I1.hok.fresh (Nat.le_refl _))⟩
  rw [eb, List.pairwise_map] at b2
  refine List.Pairwise.imp_of_mem (fun {t u} mt mu hle => ?_) b2
  unfold rankV at hle
  rw [(raw t (pb.mem_iff.mp mt)).ints, (raw u (pb.mem_iff.mp mu)).ints] at hle
  exact hle
end
end My

namespace My
open PySem PySem.Spec PyProof.Rows L2
/-! rules with the name of their reading -/
def rLen (K : PySem.W.Frag) : List V → Hp → VK → Prop := fun xs H Q => ∃ p ys, xs = [.ref p] ∧ (SqL K H p ys ∨ SqT K H p ys) ∧ Q (.int ys.length) H
theorem call_lenR {X : Cx} : CallR X (.builtin "len") (rLen X.K) := call_len_seq
def rTupN (K : PySem.W.Frag) : List V → Hp → VK → Prop := fun xs H Q => ∃ p ys, xs = [.ref p] ∧
  ((SqL K H p ys ∧ ∀ l o, H l = none → o.dict = none → Q (.ref l) (upd H l (.frz o (.tup ys)))) ∨ (SqT K H p ys ∧ Q (.ref p) H))
theorem call_tupR {X : Cx} : CallR X (.type "tuple") (rTupN X.K) := call_tupleN
def rListOf (K : PySem.W.Frag) : List V → Hp → VK → Prop := fun xs H Q => ∃ p ys, xs = [.ref p] ∧ (SqL K H p ys ∨ SqT K H p ys) ∧ ∀ l, H l = none → Q (.ref l) (upd H l (.lst ys))
theorem call_listR {X : Cx} : CallR X (.type "list") (rListOf X.K) := call_list_of
/-- a loop over a list or a tuple that stays -/
theorem for_seqV {K : PySem.W.Frag} {a : Addr} {xs : List V} {tl : TE} {g : TG} {tb : TS} {D : Ends} {σ : L2.St} {H : Hp} (htl : ∀ R : VK, R (.ref a) H → tl σ H R) (hq : SqV H a xs)
    (Pv : Nat → L2.St → Hp → Prop) (h0 : Pv 0 σ H)
    (hl : ∀ i σ' H', Pv i σ' H' → (H a = some (.lst xs) → H' a = some (.lst xs)) ∧ (TupAt H a xs → TupAt H' a xs))
    (hs : ∀ i x σ' H', xs[i]? = some x → Pv i σ' H' → g x σ' H' fun σ2 H2 => tb { D with nx := Pv (i + 1), ct := Pv (i + 1), bk := D.nx } σ2 H2) (hd : ∀ σ' H', Pv xs.length σ' H' → D.nx σ' H') :
    tFor (fun σ H R => iList K tl σ H R ∨ iTup K tl σ H R) g tb D σ H := by
  rcases hq with hq | hq
  · exact .inl (htl _ ⟨a, rfl, ⟨_, seqL hq⟩, for_list Pv h0 (fun i σ' H' _ hp => seqL ((hl i σ' H' hp).1 hq)) hs hd⟩)
  · exact .inr (htl _ ⟨a, rfl, ⟨_, seqT hq⟩, for_tup Pv h0 (fun i σ' H' _ hp => seqT ((hl i σ' H' hp).2 hq)) hs hd⟩)
theorem tup_ne {H : Hp} {p a : Addr} {xs ys : List V} (e : H p = some (.lst ys)) (h : TupAt H a xs) : a ≠ p := by
  rintro rfl
  exact lst_tup e h
theorem rows_upd {H : Hp} {p : Addr} {o : HO} (hp : ∀ a xs, TupAt H a xs → a ≠ p) : ∀ {as : List Addr} {rs : List (List Nat)}, RowsAt H as rs → RowsAt (upd H p o) as rs
  | [], [], h => h
  | a :: as, r :: rs, h => by
    refine ⟨?_, rows_upd hp h.2⟩
    have n := hp _ _ h.1
    rcases h.1 with e | ⟨ob, d, e⟩
    · exact .inl (by rw [upd_ne n]; exact e)
    · exact .inr ⟨ob, d, by rw [upd_ne n]; exact e⟩
  | [], _ :: _, h => h.elim
  | _ :: _, [], h => h.elim
theorem rows_snocT {H : Hp} {as : List Addr} {rs : List (List Nat)} {a : Addr} {r : List Nat} (h : RowsAt H as rs) (e : TupAt H a (vN r)) : RowsAt H (as ++ [a]) (rs ++ [r]) :=
  RowsAt.app h ⟨e, True.intro⟩
theorem take_map {α β : Type} {l : List α} {f : α → β} {i : Nat} {x : α} (h : l[i]? = some x) : (l.take (i + 1)).map f = (l.take i).map f ++ [f x] := by
  rw [List.take_add_one, h, List.map_append]
  rfl
theorem idxOf_zz (r : List Nat) (i : Nat) : (zz r).idxOf (i : Int) = r.idxOf i := by
  induction r with
  | nil => rfl
  | cons x r ih =>
    show ((x : Int) :: zz r).idxOf (i : Int) = _
    rw [List.idxOf_cons, List.idxOf_cons, ih]
    by_cases e : x = i
    · subst e
      rw [beq_self_eq_true, beq_self_eq_true]
    · have n : ¬ (x : Int) = (i : Int) := by omega
      rw [beq_false_of_ne n, beq_false_of_ne e]
theorem mem_zz {r : List Nat} {i : Nat} (h : i ∈ r) : (i : Int) ∈ zz r := List.mem_map.mpr ⟨i, h, rfl⟩
theorem range_map_succ {α : Type} (f : Nat → α) (i : Nat) : (List.range (i + 1)).map f = (List.range i).map f ++ [f i] := by
  rw [List.range_succ, List.map_append]
  rfl
theorem atI_last {xs : List V} {v : V} (h : xs.getLast? = some v) : atI xs (-1) = some v := by
  cases xs with
  | nil => cases h
  | cons x l =>
    rw [List.getLast?_eq_getElem?] at h
    unfold atI
    have e : ixN (x :: l).length (-1) = some ((x :: l).length - 1) := by
      unfold ixN
      rw [if_neg (by omega), if_pos (by rw [List.length_cons]; omega)]
      congr 1
      rw [List.length_cons]
      omega
    first
      | (rw [e]; exact h)
      | simpa [e] using h
end My

namespace My
open PySem PySem.Spec PyProof.Rows L2
/-! [e for i in range(n) for j in range(m) if ..] -/
section
variable {g g1 : TG} {tt tt1 : TT} {te : TE} {wi1 : TI} {vs vs1 : List Nat} {σ : L2.St} {H1 : Hp} {D : Addr}
theorem lc2_in {σ2 : L2.St} {H4 : Hp} {lo : Int} {m : Nat} {Nx : Hp → Prop} (Pin : Nat → Hp → Prop) (h0 : Pin 0 H4)
    (hs : ∀ j H, j < m → Pin j H → g1 (.int (lo + j)) (wipe σ2 vs1) H fun σ3 H5 => wipe σ3 vs1 = wipe σ2 vs1 ∧ tt1 σ3 H5 fun b H6 =>
      if b = true then te σ3 H6 fun y H7 => ∃ acc, H7 D = some (.lst acc) ∧ acc.length < sizeLine ∧ Pin (j + 1) (upd H7 D (.lst (acc ++ [y]))) else Pin (j + 1) H6)
    (hd : ∀ H, Pin m H → Nx H) :
    ∃ W1 : Nat → Nat → Hp → Prop, (∃ k, W1 0 k H4) ∧ ∀ j k H, W1 j k H →
      ((Itr lo m).stop j H ∧ Nx H) ∨ ((Itr lo m).go j H ∧ ∃ Nx1 : Hp → Prop, (∀ H', Nx1 H' → ∃ k', k' < k ∧ W1 (j + 1) k' H') ∧ ∀ x H', (Itr lo m).yld j H x H' → g1 x (wipe σ2 vs1) H' fun σ3 H5 => wipe σ3 vs1 = wipe σ2 vs1 ∧ tt1 σ3 H5 fun b H6 =>
        if b = true then te σ3 H6 fun y H7 => ∃ acc, H7 D = some (.lst acc) ∧ acc.length < sizeLine ∧ Nx1 (upd H7 D (.lst (acc ++ [y]))) else Nx1 H6) := by
  refine ⟨fun j k H => k = m - j ∧ j ≤ m ∧ Pin j H, ⟨m, rfl, Nat.zero_le _, h0⟩, ?_⟩
  rintro j k H ⟨rfl, hj, p⟩
  by_cases c : j < m
  · refine .inr ⟨c, Pin (j + 1), fun H' p' => ⟨m - (j + 1), by omega, rfl, c, p'⟩, ?_⟩
    rintro x H' ⟨e1, e2⟩
    subst e1 e2
    exact hs j _ c p
  · have e : j = m := by omega
    subst e
    exact .inl ⟨Nat.le_refl _, hd H p⟩
theorem lc2_out {lo : Int} {n : Nat} {Qd : Hp → Prop} (Pv : Nat → Hp → Prop) (h0 : Pv 0 (upd H1 D (.lst [])))
    (hs : ∀ i H, i < n → Pv i H → g (.int (lo + i)) (wipe σ vs) H fun σ2 H2 => wipe σ2 vs = wipe σ vs ∧ tt σ2 H2 fun b H3 =>
      if b = true then wi1 σ2 H3 fun J1 H4 => ∃ W1 : Nat → Nat → Hp → Prop, (∃ m, W1 0 m H4) ∧ ∀ j k H, W1 j k H →
        (J1.stop j H ∧ Pv (i + 1) H) ∨ (J1.go j H ∧ ∃ Nx1 : Hp → Prop, (∀ H', Nx1 H' → ∃ k', k' < k ∧ W1 (j + 1) k' H') ∧ ∀ x H', J1.yld j H x H' → g1 x (wipe σ2 vs1) H' fun σ3 H5 => wipe σ3 vs1 = wipe σ2 vs1 ∧ tt1 σ3 H5 fun b H6 =>
          if b = true then te σ3 H6 fun y H7 => ∃ acc, H7 D = some (.lst acc) ∧ acc.length < sizeLine ∧ Nx1 (upd H7 D (.lst (acc ++ [y]))) else Nx1 H6)
      else Pv (i + 1) H3)
    (hd : ∀ H, Pv n H → Qd H) :
    ∃ W : Nat → Nat → Hp → Prop, (∃ m, W 0 m (upd H1 D (.lst []))) ∧ ∀ i m H, W i m H →
      ((Itr lo n).stop i H ∧ Qd H) ∨ ((Itr lo n).go i H ∧ ∃ Nx : Hp → Prop, (∀ H', Nx H' → ∃ m', m' < m ∧ W (i + 1) m' H') ∧ ∀ x H', (Itr lo n).yld i H x H' → g x (wipe σ vs) H' fun σ2 H2 => wipe σ2 vs = wipe σ vs ∧ tt σ2 H2 fun b H3 =>
        if b = true then wi1 σ2 H3 fun J1 H4 => ∃ W1 : Nat → Nat → Hp → Prop, (∃ m, W1 0 m H4) ∧ ∀ j k H, W1 j k H →
          (J1.stop j H ∧ Nx H) ∨ (J1.go j H ∧ ∃ Nx1 : Hp → Prop, (∀ H', Nx1 H' → ∃ k', k' < k ∧ W1 (j + 1) k' H') ∧ ∀ x H', J1.yld j H x H' → g1 x (wipe σ2 vs1) H' fun σ3 H5 => wipe σ3 vs1 = wipe σ2 vs1 ∧ tt1 σ3 H5 fun b H6 =>
            if b = true then te σ3 H6 fun y H7 => ∃ acc, H7 D = some (.lst acc) ∧ acc.length < sizeLine ∧ Nx1 (upd H7 D (.lst (acc ++ [y]))) else Nx1 H6)
        else Nx H3) := by
  refine ⟨fun i m H => m = n - i ∧ i ≤ n ∧ Pv i H, ⟨n, rfl, Nat.zero_le _, h0⟩, ?_⟩
  rintro i m H ⟨rfl, hi, p⟩
  by_cases c : i < n
  · refine .inr ⟨c, Pv (i + 1), fun H' p' => ⟨n - (i + 1), by omega, rfl, c, p'⟩, ?_⟩
    rintro x H' ⟨e1, e2⟩
    subst e1 e2
    exact hs i _ c p
  · have e : i = n := by omega
    subst e
    exact .inl ⟨Nat.le_refl _, hd H p⟩
end
theorem last_vN (l : List Nat) (n : Nat) : atI (vN (l ++ [n])) (-1) = some (.int (n : Int)) := by
  refine atI_last ?_
  rw [← vN_snoc]
  exact List.getLast?_concat
end My

namespace My
open PySem PySem.Spec PyProof.Rows L2
def intV : V → Int
  | .int i => i
  | _ => 0
/-- the numbers of the tuple that stands at t -/
def rowOf (H : Hp) (t : Addr) : List Int := match H t with
  | some (.tup xs) => xs.map intV
  | some (.frz _ (.tup xs)) => xs.map intV
  | _ => []
theorem rowOf_tup {H : Hp} {t : Addr} {r : List Nat} (h : TupAt H t (vN r)) : rowOf H t = zz r := by
  have e : (vN r).map intV = zz r := by
    unfold vN
    rw [List.map_map]
    conv => rhs; rw [← List.map_id (zz r)]
    rfl
  unfold rowOf
  rcases h with h | ⟨o, _, h⟩
  · rw [h]
    exact e
  · rw [h]
    exact e
def natsOf (H : Hp) (t : Addr) : List Nat := (rowOf H t).map Int.toNat
theorem natsOf_tup {H : Hp} {t : Addr} {r : List Nat} (h : TupAt H t (vN r)) : natsOf H t = r := by
  unfold natsOf
  rw [rowOf_tup h]
  unfold zz
  rw [List.map_map]
  conv => rhs; rw [← List.map_id r]
  rfl
theorem RowsAt.nats {H : Hp} : ∀ {as : List Addr} {rs : List (List Nat)}, RowsAt H as rs → rs = as.map (natsOf H)
  | [], [], _ => rfl
  | a :: as, r :: rs, h => by
    rw [List.map_cons, natsOf_tup h.1, ← RowsAt.nats h.2]
  | [], _ :: _, h => h.elim
  | _ :: _, [], h => h.elim
theorem RowsAt.mem {H : Hp} : ∀ {as : List Addr} {rs : List (List Nat)}, RowsAt H as rs → ∀ a ∈ as, natsOf H a ∈ rs ∧ TupAt H a (vN (natsOf H a))
  | a :: as, r :: rs, h, b, hb => by
    rcases List.mem_cons.mp hb with e | hb
    · subst e
      rw [natsOf_tup h.1]
      exact ⟨List.mem_cons_self, h.1⟩
    · obtain ⟨m, t⟩ := RowsAt.mem h.2 b hb
      exact ⟨List.mem_cons_of_mem _ m, t⟩
  | [], _ :: _, h, _, _ => h.elim
  | _ :: _, [], h, _, _ => h.elim
theorem RowsAt.of {H : Hp} : ∀ {as : List Addr}, (∀ a ∈ as, TupAt H a (vN (natsOf H a))) → RowsAt H as (as.map (natsOf H))
  | [], _ => True.intro
  | a :: as, h => ⟨h a List.mem_cons_self, RowsAt.of fun b hb => h b (List.mem_cons_of_mem _ hb)⟩
theorem idx_first : ∀ (l : List Nat) (x m : Nat), m < l.idxOf x → l[m]? ≠ some x
  | [], x, m, h => by simp at h
  | y :: l, x, m, h => by
    by_cases e : y = x
    · subst e
      rw [List.idxOf_cons_self] at h
      omega
    · rw [List.idxOf_cons, beq_false_of_ne e] at h
      have h : m < l.idxOf x + 1 := h
      cases m with
      | zero => exact fun z => e (Option.some.inj z)
      | succ m => exact idx_first l x m (by omega)
theorem cut_from (f : List Nat) {i : Nat} (h : i ≤ f.length) : cutV (vN f) (some (i : Int)) none = vN (f.drop i) := by
  unfold cutV
  rw [HT.sIx_nat, HT.sIx_none, vN_len, Nat.min_eq_left h]
  rw [List.take_of_length_le (by rw [List.length_drop, vN_len]; exact Nat.le_refl _)]
  unfold vN zz
  rw [List.map_drop, List.map_drop]
theorem cut_to (f : List Nat) {i : Nat} (h : i ≤ f.length) : cutV (vN f) none (some (i : Int)) = vN (f.take i) := by
  unfold cutV
  rw [HT.sIx_nat, HT.sIx_none, vN_len, Nat.min_eq_left h, Nat.sub_zero, List.drop_zero]
  unfold vN zz
  rw [List.map_take, List.map_take]
theorem vN_app (f g : List Nat) : vN f ++ vN g = vN (f ++ g) := by
  unfold vN zz
  rw [List.map_append, List.map_append]
theorem zz_head (r : List Nat) : (zz r).headD 0 = ((r.headD 0 : Nat) : Int) := by
  cases r <;> rfl
theorem heads_uniq {M : List (List Nat)} (u1 : M.Pairwise fun c d => c.headD 0 < d.headD 0) {c d : List Nat} (hc : c ∈ M) (hd : d ∈ M) (e : c.headD 0 = d.headD 0) : c = d := by
  obtain ⟨i, hi, ei⟩ := List.mem_iff_getElem.mp hc
  obtain ⟨j, hj, ej⟩ := List.mem_iff_getElem.mp hd
  rw [List.pairwise_iff_getElem] at u1
  rcases Nat.lt_trichotomy i j with z | z | z
  · have := u1 i j hi hj z
    rw [ei, ej] at this
    omega
  · subst z
    rw [← ei, ← ej]
  · have := u1 j i hj hi z
    rw [ei, ej] at this
    omega
/-- lists with the same members, both rising by their heads -/
theorem heads_eq {L M : List (List Nat)} (p : L.Perm M) (u1 : M.Pairwise fun c d => c.headD 0 < d.headD 0) (u2 : L.Pairwise fun c d => c.headD 0 ≤ d.headD 0) : L = M := by
  have uniq : ∀ c ∈ M, ∀ d ∈ M, c.headD 0 = d.headD 0 → c = d := by
    intro c hc d hd e
    obtain ⟨i, hi, ei⟩ := List.mem_iff_getElem.mp hc
    obtain ⟨j, hj, ej⟩ := List.mem_iff_getElem.mp hd
    rw [List.pairwise_iff_getElem] at u1
    rcases Nat.lt_trichotomy i j with z | z | z
    · have := u1 i j hi hj z
      rw [ei, ej] at this
      omega
    · subst z
      rw [← ei, ← ej]
    · have := u1 j i hj hi z
      rw [ei, ej] at this
      omega
  refine p.eq_of_pairwise (le := fun c d => c.headD 0 ≤ d.headD 0) (fun a b ha hb h1 h2 => ?_) u2 (u1.imp fun h => Nat.le_of_lt h)
  exact uniq a (p.mem_iff.mp ha) b hb (Nat.le_antisymm h1 h2)
theorem nodup_small {l : List Nat} {d : Nat} (nd : l.Nodup) (h : ∀ x ∈ l, x < d) : l.length ≤ d := by
  have z := nat_nodup_len l (List.range d) nd fun x hx => List.mem_range.mpr (h x hx)
  rw [List.length_range] at z
  exact z
end My

namespace My
open PySem PySem.Spec PyProof.Rows L2
/-! t[::-1] of a tuple -/
section
variable {P : Program} {w : World} {A : Around} {E : Value → Shared → Prop} {s : Shared}
theorem back_adjust (n : Nat) : Builtin.Slice.sliceAdjust none none (-1) (n : Int) = ((n : Int) - 1, -1) := by
  unfold Builtin.Slice.sliceAdjust
  simp
theorem back_places (n : Nat) : Builtin.Slice.slicePlaces ((n : Int) - 1) (-1) (-1) = n := by
  unfold Builtin.Slice.slicePlaces
  simp
  split <;> omega
theorem back_pick (xs : Array Value) : ((List.range xs.size).filterMap fun (k : Nat) => xs[((xs.size : Int) - 1 + (k : Int) * -1).toNat]?).toArray = xs.toList.reverse.toArray := by
  have e : (List.range xs.size).filterMap (fun (k : Nat) => xs[((xs.size : Int) - 1 + (k : Int) * -1).toNat]?) = ((List.range xs.size).map fun k => xs.size - 1 - k).filterMap (xs[·]?) := by
    rw [List.filterMap_map]
    have go : ∀ l : List Nat, (∀ k ∈ l, k < xs.size) → l.filterMap (fun (k : Nat) => xs[((xs.size : Int) - 1 + (k : Int) * -1).toNat]?) = l.filterMap ((xs[·]?) ∘ fun k => xs.size - 1 - k) := by
      intro l
      induction l with
      | nil => exact fun _ => rfl
      | cons k l ih =>
        intro h
        have hk := h k List.mem_cons_self
        have e : ((xs.size : Int) - 1 + (k : Int) * -1).toNat = xs.size - 1 - k := by omega
        rw [List.filterMap_cons, List.filterMap_cons, ih fun j hj => h j (List.mem_cons_of_mem _ hj), e]
        rfl
    exact go _ fun k hk => List.mem_range.mp hk
  rw [e, PySem.W.krv_range, List.filterMap_reverse, PySem.W.krv_all]
theorem back_applied {sl : Addr} {vs : Value} {n : Nat} {Q : Int × Int × Nat → Shared → Prop} (hs : s.heap.IsSliceOf sl .none .none vs) (p : IsPart vs (some (-1)))
    (h : Q ((n : Int) - 1, -1, n) s) : wpAny (model P w) A (Builtin.Slice.sliceApplied (.ref sl) (pure (n : Int))) Q E s := by
  obtain ⟨os, hos, hcs, hds⟩ := id hs
  unfold Builtin.Slice.sliceApplied
    Builtin.Slice.sliceFields
  refine wpAny_bind (wpAny_bind (wpAny_field hos hds (x := Value.none) rfl (wpAny_bind (wpAny_field hos hds (x := Value.none) rfl
    (wpAny_bind (wpAny_field hos hds (x := vs) rfl (wpAny_pure ?_)))))))
  refine wpAny_bind (HT.slicePart_ p ?_)
  show wpAny _ _ (if ((-1 : Int) == 0) = true then _ else _) _ _ s
  rw [if_neg (by decide)]
  refine wpAny_bind (HT.slicePart_ .none (wpAny_bind
    (HT.slicePart_ .none (wpAny_bind (wpAny_pure ?_)))))
  show wpAny _ _ (match Builtin.Slice.sliceAdjust none none (-1) (n : Int) with | (lo, hi) => pure (lo, (-1 : Int), Builtin.Slice.slicePlaces lo hi (-1))) _ _ s
  rw [back_adjust]
  show wpAny _ _ (pure ((n : Int) - 1, (-1 : Int), Builtin.Slice.slicePlaces ((n : Int) - 1) (-1) (-1))) _ _ s
  rw [back_places]
  exact wpAny_pure h
theorem getItem_tuple_back {t sl : Addr} {items : Array Value} {vs : Value} {Q : Value → Shared → Prop} (ht : IsTup s.heap t items) (hs : s.heap.IsSliceOf sl .none .none vs) (p : IsPart vs (some (-1)))
    (h : Q (.ref s.heap.objs.size) { s with heap := s.heap.push { cls := .type "tuple", data := .seq items.toList.reverse.toArray } })
    (hsz : items.size ≤ sizeLine) : wpAny (model P w) A (getItem (.ref t) (.ref sl)) Q E s := by
  have fits : sizeOk (.seq items.toList.reverse.toArray) := by
    show items.toList.reverse.toArray.size ≤ sizeLine
    rw [List.size_toArray, List.length_reverse, Array.length_toList]
    exact hsz
  obtain ⟨os, hos, hcs, hds⟩ := id hs
  have kind : s.TypeIs (.ref sl) "slice" := ⟨os, hos, hcs⟩
  unfold getItem
  try with_reducible refine wpAny_holding ?_
  first
    | refine wpAny_bind (wpAny_pure ?_)
    | skip
  refine wpAny_bind
    (wpAny_sequenceKey ht.typeIs (by decide) ?_)
  refine wpAny_bind (wpAny_callSpecial?_slot
    (name := Str.ofString "__getitem__") ht.typeIs slot_tuple_getitem
    (wpAny_call_entry slot_tuple_getitem ht.typeIs
      entry_tuple_getitem ?_ (args_tuple_getitem _ _)))
  show wpAny _ _ (Builtin.Tuple.tupleItemsOf (.ref t) >>= _) _ _ _
  refine wpAny_bind
    (tupleItemsOf_ ht ?_)
  refine wpAny_bind
    (wpAny_typeOf kind ?_)
  rw [if_pos (by decide)]
  refine wpAny_bind (back_applied hs p ?_)
  have no : ¬ (((items.size : Int) - 1 == 0 && (-1 : Int) == 1 && items.size == items.size) = true) := by
    simp
  show wpAny _ _ (if ((items.size : Int) - 1 == 0 && (-1 : Int) == 1 && items.size == items.size) = true then _ else _) _ _ s
  rw [if_neg no, back_pick items]
  first
    | exact wpAny_bind (m := Builtin.Tuple.tupleExact _)
        (wpAny_newObj_type (wpAny_pure ⟨_, rfl, wpAny_pure h⟩) fits)
    | exact wpAny_bind (m := Builtin.Tuple.tupleExact _)
        (wpAny_newObj_type (wpAny_bind (wpAny_pure (wpAny_pure ⟨_, rfl, wpAny_pure h⟩))) fits)
    | exact wpAny_bind (wpAny_bind (m := Builtin.Tuple.tupleExact _)
        (wpAny_newObj_type (wpAny_pure (wpAny_pure ⟨_, rfl, wpAny_pure h⟩)) fits))
    | exact wpAny_bind (wpAny_bind (m := Builtin.Tuple.tupleExact _)
        (wpAny_newObj_type (wpAny_pure ⟨_, rfl, wpAny_pure h⟩) fits))
end
section
variable {X : Cx}
def tRevT (K : PySem.W.Frag) (te : TE) : TE := fun σ H Q => te σ H fun x H1 => ∃ a xs, x = .ref a ∧ SqT K H1 a xs ∧ ∀ p, H1 p = none → Q (.ref p) (upd H1 p (.tup xs.reverse))
theorem pe_revT {e : Expr} {te : TE} {k : Nat} {p1 p2 p3 pos : Pos} (he : PE X e te) :
    PE X (.Subscript e (.Slice none none (some (.UnaryOp .USub (.Constant (.int 1) k p1) p2)) p3) pos) (tRevT X.K te) := by
  refine ⟨fun pins s σ H Q I h => ?_⟩
  refine Subscript_ (thn (he.run pins s σ H _ I h)
    fun v s1 ⟨x, H1, I1, r1, q1⟩ => ?_)
  obtain ⟨a, xs, ex, hx, q⟩ := q1
  subst ex
  cases r1
  have part : PO X (some (.UnaryOp .USub (.Constant (.int 1) k p1) p2)) (tPart (tUn (rU fun i => .int (-i)) (tC (.int 1)))) :=
    po_some (pe_un un_neg pe_int)
  refine wpAny_Slice (thn (po_none.run pins s1 σ H1
    (fun o H2 => o = none ∧ H2 = H1) I1 ⟨rfl, rfl⟩)
    fun vl s2 ⟨l, H2, I2, pl, el, e2⟩ => ?_)
  subst el e2
  refine thn (po_none.run pins s2 σ H2
    (fun o H3 => o = none ∧ H3 = H2) I2 ⟨rfl, rfl⟩)
    fun vu s3 ⟨u, H3, I3, pu, eu, e3⟩ => ?_
  subst eu e3
  refine thn (part.run pins s3 σ H3
    (fun o H4 => o = some (-1) ∧ H4 = H3) I3 ⟨1, rfl, -1, rfl, rfl, rfl⟩)
    fun vs s4 ⟨o, H4, I4, ps, eo, e4⟩ => ?_
  subst eo e4
  have I5 : Inv X pins σ H4 { s4 with heap := s4.heap.push { cls := .type "slice", data := .fields #[vl, vu, vs] } } :=
    I4.kept (t' := s4.toks) fun b ob q => Heap.get?_push_of_some _ q
  obtain ⟨its, r, ht, hz⟩ := I5.tuple hx
  cases pl
  cases pu
  show wpAny (model X.prog X.w) X.A (subscriptTail e (.Slice none none (some (.UnaryOp .USub (.Constant (.int 1) k p1) p2)) p3) (.ref a)
    (.ref s4.heap.objs.size)) (EP X pins σ Q) X.xe { s4 with heap := s4.heap.push { cls := .type "slice", data := .fields #[Value.none, Value.none, vs] } }
  refine tail_any (ops := [.ref a, .ref s4.heap.objs.size]) ht.typeIs
    (slot_tuple_getitem.lookup) ?_ (by with_unfolding_all rfl)
  refine getItem_tuple_back ht (Heap.IsSliceOf.new _ Value.none Value.none vs) ps ?_
    (by rw [List.size_toArray, ← r.length]; exact hz)
  refine ⟨.ref _, _, I5.laid (t' := s4.toks) (o := .tup xs.reverse)
    (fun b ob q => Heap.get?_push_of_some _ q) (Nat.le_refl _) ?_, rfl, q _ (I5.hok.fresh (Nat.le_refl _))⟩
  exact ⟨by rw [List.length_reverse]; exact hz, _,
    r.reverse, IsTup.new _ _⟩
end
end My
namespace My
open PySem PySem.Spec PyProof.Rows L2
theorem pe_revTK {X : Cx} {K : PySem.W.Frag} {e : Expr} {te : TE} {k : Nat} {p1 p2 p3 pos : Pos} (hK : X.K = K) (he : PE X e te) :
    PE X (.Subscript e (.Slice none none (some (.UnaryOp .USub (.Constant (.int 1) k p1) p2)) p3) pos) (tRevT K te) := by
  subst hK
  exact pe_revT he
end My
namespace My
open PySem PySem.Spec PyProof.Rows L2
theorem pi_tupK {X : Cx} {K : PySem.W.Frag} {tg l : Expr} {tl : TE} (hK : X.K = K) (hl : PE X l tl) : PI X tg l (iTup K tl) := by
  subst hK
  exact pi_tup hl
theorem pi_listK {X : Cx} {K : PySem.W.Frag} {tg l : Expr} {tl : TE} (hK : X.K = K) (hl : PE X l tl) : PI X tg l (iList K tl) := by
  subst hK
  exact pi_list hl
end My

namespace My
open PySem PySem.Spec PyProof.Rows L2 LamX
/-! a lambda handed to a def that catches what it raises, its own slots at hand -/
section
variable {X : Cx} {pins : List (Addr × Obj)} {σ : L2.St} {H : Hp} {s : Shared}
abbrev lamO (X : Cx) (params : Arguments) (body : Expr) (scope : Scope) (pm ctv : Value) (c' : Addr) : Obj :=
  PySem.W.kla_obj "<lambda>" (X.env.qual ++ "<lambda>") params body scope (cloFrom X.env.cells scope.names []) pm c' ctv
/-- the def's context, entered at s, in a try -/
abbrev defX (X : Cx) (Ng : List Str) (qg : Str) (sg : Scope) (g : Addr) (cdg : Value) (s : Shared) (H : Hp) (pn : List (Addr × Obj)) (xe : Value → Shared → Prop) : Cx :=
  (cxOf C8.CX0 X.prog X.w X.K X.mg X.base Ng qg sg g cdg X.A X.stack s H C8.E0).tr pn xe
theorem act_slots {Ng : List Str} {qg : Str} {sg : Scope} {g f c' : Addr} {cdg pm ctv : Value} {params : Arguments} {body : Expr} {scope : Scope} {k : Nat} {a : Str}
    {pn : List (Addr × Obj)} {xe : Value → Shared → Prop} {W : WX} {E : L2.St → XK} {tb : XK → TE} {p1 p2 : Pos}
    (I : Inv X pins σ H s) (L : LamS X.env.scope scope) (hf : s.heap.get? f = some (lamO X params body scope pm ctv c')) (hfn : H f = none) (hfr : f ∉ frs X.stack)
    (hbind : bindArgs (PySem.W.kla_fn "<lambda>" (X.env.qual ++ "<lambda>") params body scope (cloFrom X.env.cells scope.names []) pm (.ref c') ctv) ⟨[], []⟩ = pure [])
    (tk : Takes (defX X Ng qg sg g cdg s H pn xe) W) (hW : ∀ cls d σ' H', E σ' cls d H' → W cls d σ' H')
    (hr : Room (k + 1) (X.A.deeper (envOfC qg sg s.heap.objs.size g cdg)))
    (hbody : ∀ (A : Around) (outer : List Env) (s : Shared) (H : Hp) (E0 : XK), Room k (A.deeper (lamEnv X scope s.heap.objs.size f c')) →
      PE (lamCx X A outer s H E0 scope f c') body (tb E0))
    (hN : Ng[0]? = some a) (hv : Vis sg a) (hd : (a == ("__debug__" : Str)) = false) (hcd : (a == ("__classdict__" : Str)) = false) :
    PE (defX X Ng qg sg g cdg s H pn xe) (.Call (.Name a p1) [] [] p2)
      (fun σZ HZ Q => σZ[0]? = some (some (.ref f)) ∧ HZ c' = some (CodeO c' (X.env.qual ++ "<lambda>")) ∧ tb (E σZ) σ HZ Q) := by
  refine ⟨fun pZ sZ σZ HZ Q IZ h => ?_⟩
  obtain ⟨h1, h2, h3⟩ := h
  have name := (pe_var (X := defX X Ng qg sg g cdg s H pn xe) (pos := p1) (i := 0) hN hv hd hcd).run pZ sZ σZ HZ
    (fun v H1 => v = .ref f ∧ H1 = HZ) IZ ⟨.ref f, h1, rfl, rfl⟩
  refine wpAny_Call_Name_kw (thn name
    fun u s1 ⟨v, H1, I1, r1, q1⟩ => ?_)
  obtain ⟨ev, eH⟩ := q1
  subst ev
  rw [eH] at I1
  obtain rfl : u = Value.ref f := r1
  have obj := I1.base.keep f _ hf hfn hfr (fun z => nomatch (show f ∈ ([] : List Addr) from z))
  refine PySem.W.callWith_F0
    ⟨_, _, _, _, obj⟩ ?_
  have un : Un (frs X.stack) [] H HZ s.heap s1.heap := I1.base
  obtain ⟨⟨oc, vs, t, c1, c2, c3⟩, _, _⟩ := I1.hok c' _ h2
  have main : codeAny (model X.prog X.w) (X.A.deeper (envOfC qg sg s.heap.objs.size g cdg)) (.call (.ref f) ⟨[], []⟩)
      (CR (L2.CX X.prog X.w) (envOfC qg sg s.heap.objs.size g cdg :: X.stack) X.prog X.w HZ s1 Q (E σZ)) s1 := by
    refine PySem.W.kla_callFunE hr.depth obj rfl L.co L.gen rfl
      ⟨c', oc, vs, t, rfl, c1, c2, c3⟩ ?_
    rw [hbind]
    refine wpAny_pure (wpAny_newFunctionEnv
      (fun y hy => (L.own y hy).2)
      (fun y hy => absurd hy (by simp))
      (fun h₁ hns hsb => ⟨I1.nolimit.fresh _ hsb, ?_⟩) L.kind)
    show codeAny _ _ (.expr body (lamEnv X scope s1.heap.objs.size f c')) _ _
    have kp : ∀ b o, s1.heap.get? b = some o → h₁.get? b = some o := fun b o e =>
      hsb.extBut b o (Nat.ne_of_lt (Heap.lt_size e)) (Heap.get?_push_of_some _ e)
    have J := lam_start2 (E := E σZ) (f := f) (c' := c') (tk := s1.toks + ([] : List (Str × Value)).length) I L I1.env0 hr.hd un hns kp
    have run := (hbody _ _ s1 HZ (E σZ) (hr.deeper _)).run [] _ _ HZ Q J h3
    refine PySem.W.kla_codeExpr (wpAny_mono run
      (fun v s' hq => ?_) fun e s' hq => hq)
    obtain ⟨w', H', J', rv, q⟩ := hq
    exact ⟨w', H', J'.os, J'.bare,
      J'.base, J'.hok, rv, q⟩
  refine wpAny_call (codeAny_mono main
    fun r s' hq => ?_)
  cases r with
  | error e => exact tk e s' (XE.of_call I1 (fun cls d H' z => hW cls d σZ H' z) hq)
  | ok fl =>
    cases fl with
    | ret u => exact I1.after hq
    | next => exact hq.elim
    | brk => exact hq.elim
    | cont => exact hq.elim
end
/-- the def that calls what it got, and may look at its slots behind a refusal -/
def Gives2 (X : Cx) (Ng : List Str) (x : Str) (sg : Scope) (g : Addr) (cdg : Value) (bg : List Stmt) (a q : Str) (TT : (XK → Hp → VK → Prop) → Hp → VK → Prop) : Prop :=
  ∀ (f c' : Addr) (s : Shared) (H : Hp) (Q : VK) (tl : XK → Hp → VK → Prop),
    (∀ (W : WX) (pn : List (Addr × Obj)) (xe : Value → Shared → Prop) (E : L2.St → XK) (p1 p2 : Pos), Takes (defX X Ng x sg g cdg s H pn xe) W →
      (∀ cls d σ' H', E σ' cls d H' → W cls d σ' H') →
      PE (defX X Ng x sg g cdg s H pn xe) (.Call (.Name a p1) [] [] p2) (fun σZ HZ Q => σZ[0]? = some (some (.ref f)) ∧ HZ c' = some (CodeO c' q) ∧ tl (E σZ) HZ Q)) →
    H c' = some (CodeO c' q) → TT tl H Q →
    ∃ t, PSs (cxOf C8.CX0 X.prog X.w X.K X.mg X.base Ng x sg g cdg X.A X.stack s H C8.E0).nox bg t ∧
      t { nx := fun _ H' => Q .non H', rt := Q } (L2.start Ng [.ref f]) H
section
variable {X : Cx}
theorem pe_lam2 {T : List (Addr × Str)} {TT : (XK → Hp → VK → Prop) → Hp → VK → Prop} {x a : Str} {g c P : Addr} {k : Nat} {pg : Arguments} {bg : List Stmt} {sg : Scope}
    {dV kV doc pm cdv ct oc : Value} {an od : Option Addr} {osl : Array (Option Value)} {Ng : List Str} {params : Arguments} {body : Expr} {scope : Scope} {t : XK → TE} {p lpos pos : Pos}
    (hg : Gl X x) (hm : X.mg x = some (.ref g)) (hk : PySem.W.keepIn X.K (.ref g) = true)
    (lk : X.K.lookup g = some ⟨oc, od, .func (PySem.W.fnOf x x pg bg sg dV kV doc pm an cdv ct), osl⟩) (hcg : PySem.W.codeIn X.K cdv x = true)
    (hb : L2.Binds X.K (PySem.W.fnOf x x pg bg sg dV kV doc pm an cdv ct) [a] []) (Sg : FnScope Ng [a] sg) (hNg : Ng[0]? = some a) (hva : Vis sg a)
    (hG : Gives2 X Ng x sg g cdv bg a (X.env.qual ++ "<lambda>") TT)
    (TB : TabB X.base X.mg c P) (hcode : X.env.code = .ref c) (hmT : (P, X.env.qual ++ "<lambda>") ∈ T) (hu : ∀ p ∈ T, p.1 = P → p.2 = X.env.qual ++ "<lambda>")
    (hr : Room (k + 2) X.A) (L : LamS X.env.scope scope) (hdef : defaultsOf params X.env = ([], []))
    (hbind : ∀ (q : Str) (cl : List (Str × Addr)) (pm cv ctv : Value), bindArgs (PySem.W.kla_fn "<lambda>" q params body scope cl pm cv ctv) ⟨[], []⟩ = pure [])
    (hbody : ∀ (A : Around) (outer : List Env) (s : Shared) (H : Hp) (E : XK) (f c' : Addr), Room k (A.deeper (lamEnv X scope s.heap.objs.size f c')) →
      PE (lamCx X A outer s H E scope f c') body (t E))
    (hdb : (x == ("__debug__" : Str)) = false := by decide) (hd : (a == ("__debug__" : Str)) = false := by decide) (hcd : (a == ("__classdict__" : Str)) = false := by decide) :
    PE X (.Call (.Name x p) [.Lambda params body scope lpos] [] pos) (tLam T TT t) := by
  refine ⟨fun pins s σ H Q I h => ?_⟩
  obtain ⟨hT, h⟩ := h
  refine wpAny_Call_Name_kw
    (ld_glob I hg hm ?_ hdb)
  refine PySem.W.callWith_K (h₀ := X.base)
    I.ok.mod.kin hk ?_ (by rfl) (by rfl)
  show wpAny _ _ (spliced ((false, eval (.Lambda params body scope lpos) X.env) :: backTo pos (starEach [] X.env))) _ _ _
  refine Calls.spliced_cons (lam_make2 I TB hcode hmT hu hT hdef (L.has I.ok)
    fun f c' pm' ctv H1 s' I1 eN T1 hf hfn hfr hco => ?_)
  refine Calls.spliced_nil
    ⟨I1.kIn, ?_⟩
  have main : codeAny (model X.prog X.w) X.A (.call (.ref g) ⟨[.ref f], []⟩)
      (CR C8.CX0 X.stack X.prog X.w H1 s' Q C8.E0) s' := by
    refine run_ofS (N := Ng) (ps := [a]) (us := [.ref f]) (vs := [.ref f]) lk hcg Sg hr I1.env0
      (hb s' [.ref f] I1.kIn rfl) (.cons rfl .nil) rfl fun hr' => ?_
    obtain ⟨t', ht', hq'⟩ := hG f c' s' H1 Q (fun E H' Q' => t E σ H' Q')
      (fun W pn xe E p1 p2 tk hW => act_slots (tb := fun E0 => t E0) I1 L hf hfn hfr (hbind _ _ _ _ _) tk hW hr'
        (fun A outer s H E0 hr2 => hbody A outer s H E0 f c' hr2) hNg hva hd hcd) hco (h H1 eN T1)
    exact ⟨t', ht'.nox, hq'⟩
  refine wpAny_call (codeAny_mono main
    fun r s2 hq => ?_)
  cases r with
  | error e => exact (show False from hq).elim
  | ok fl =>
    cases fl with
    | ret u => exact I1.after hq
    | next => exact hq.elim
    | brk => exact hq.elim
    | cont => exact hq.elim
end
end My

namespace My
open PySem PySem.Spec PyProof.Rows L2 LamX
/-! an own error that the suite keeps: it is known behind the try, too -/
section
variable {X : Cx} {pins : List (Addr × Obj)} {σ : L2.St} {H : Hp} {s : Shared}
/-- behind the suite: the error's object is still pinned -/
theorem suite_tr {a : Addr} {q : Addr × Obj} {pn pn' : List (Addr × Obj)} {xe : Value → Shared → Prop} (I : Inv (X.suite a (q :: pn)) pn' σ H s) (ok : X.Ok) : Inv (X.tr (q :: pn) xe) [] σ H s := by
  refine ⟨ok.toTry _ _, I.os, I.bare, I.base, I.loc, I.cell, I.free,
    I.freeC, fun p hp => I.pin p ?_, I.hok, I.len⟩
  rw [List.append_nil] at hp
  exact List.mem_append_left _ hp
theorem un_tr {q : Addr × Obj} {pn' : List (Addr × Obj)} {xe : Value → Shared → Prop} (I : Inv (X.tr (q :: (X.pn ++ pins)) xe) pn' σ H s) (ok : X.Ok) : Inv X pins σ H s := by
  refine ⟨ok, I.os, I.bare, I.base, I.loc, I.cell, I.free, I.freeC,
    fun p hp => I.pin p ?_, I.hok, I.len⟩
  exact List.mem_append_left _ (List.mem_cons_of_mem _ hp)
end
/-- what the clause wishes: each error is of its class, its suite ends well, and the error stays at hand -/
def wHeld (K : PySem.W.Frag) (c : Value) (i : Nat) (ts : Addr → Value → Option Addr → TS) (Dh : Addr → Value → Option Addr → L2.St → Hp → Prop) : WX := fun cls d σ H =>
  PySem.W.exmOne K cls c = some true ∧ ∀ a, H a = none →
    ts a cls d { nx := fun σ' H' => Dh a cls d (σ'.set i none) H', rt := fun _ _ => False, bk := fun _ _ => False, ct := fun _ _ => False } (σ.set i (some (.ref a))) H
section
variable {X : Cx} {x n : Str} {c : Value} {i : Nat} {body suite : List Stmt} {b₀ : Stmt} {np pos pos' : Pos} {tb : WX → TS} {ts : Addr → Value → Option Addr → TS}
  {Dh : Addr → Value → Option Addr → L2.St → Hp → Prop} {Dn : L2.St → Hp → Prop} {pins : List (Addr × Obj)} {σ : L2.St} {H : Hp} {s : Shared} {Q0 : Flow → Shared → Prop}
theorem try_held (hs : X.stack = X.env :: X.outer) (hf : X.env.frame = some X.env.locals) (hN : X.N.Nodup) (hi : X.N[i]? = some n) (hln : X.env.kindOf n = some .local) (hc : Names X x c)
    (hb : ∀ (W : WX) (pn : List (Addr × Obj)) (xe : Value → Shared → Prop), Takes (X.tr pn xe) W → PassesOwn (model X.prog X.w) X.A X.env xe → PSs (X.tr pn xe) body (tb W))
    (hsu : ∀ (a : Addr) (oe : Obj) (cls : Value) (d : Option Addr) (pn : List (Addr × Obj)), Zc cls d oe → (∃ vs, oe.data = .fields vs) → PSs (X.suite a ((a, oe) :: pn)) (b₀ :: suite) (ts a cls d))
    (I : Inv X pins σ H s)
    (h : tb (wHeld X.K c i ts Dh) { nx := Dn, rt := fun _ _ => False, bk := fun _ _ => False, ct := fun _ _ => False } σ H)
    (end1 : ∀ σ1 H1 s1, Inv X pins σ1 H1 s1 → Dn σ1 H1 → Q0 .next s1)
    (end2 : ∀ (a : Addr) (oe : Obj) (cls : Value) (d : Option Addr) (σ1 : L2.St) (H1 : Hp) (s1 : Shared), Zc cls d oe → (∃ vs, oe.data = .fields vs) →
      Inv (X.tr ((a, oe) :: (X.pn ++ pins)) X.xe) [] σ1 H1 s1 → Dh a cls d σ1 H1 → Q0 .next s1) :
    wpAny (model X.prog X.w) X.A (exec (.Try body [.ExceptHandler (some (.Name x np)) (some n) (b₀ :: suite) pos'] [] [] pos) X.env) Q0 X.xe s := by
  have ok := I.ok
  have frames : X.A.frames = some (X.env :: X.outer) := by
    rw [ok.frames, hs]
  refine wpAny_Try_except ?_
  let out : Value → Shared → Prop := fun e s1 => wpAny (model X.prog X.w) X.A (noteFrame e X.env)
    (fun _ s2 => wpAny (model X.prog X.w) X.A (setFlight e none)
      (fun _ s3 => wpAny (model X.prog X.w) X.A (handleBy e X.env [.ExceptHandler (some (.Name x np)) (some n) (b₀ :: suite) pos']) Q0 X.xe s3) X.xe s2) X.xe s1
  have caught : Takes (X.tr (X.pn ++ pins) out) (wHeld X.K c i ts Dh) := by
    intro u s' xx
    obtain ⟨a, B, sI, pins', σ', H', cls, d, rfl, J', nb, up, sky, na, os, ag, hb1, wish⟩ := xx
    have J : Inv X pins σ' H' sI := J'.ofTry ok
    have sky2 : Sky B (X.env :: X.outer) a (Zc cls d) X.env.locals s'.heap := by
      rw [← hs]
      exact sky
    show wpAny _ X.A (noteFrame (.ref a) X.env) _ _ _
    refine Sky.land Zc.steady frames hf sky2
      fun h3 fl3 up3 => ?_
    have J3 : Inv X pins σ' H' { s' with heap := h3 } :=
      J.landed nb fl3.1 (up.trans up3) os ag
    obtain ⟨o3, v3, at3, z3, d3⟩ := fl3.there
    have away : a ∉ frs (X.env :: X.outer) := fun hm => by
      obtain ⟨_, o', e', hnf⟩ := fl3.2.2.1.mem hm
      rw [at3] at e'
      cases e'
      exact hnf _ d3
    have nL : a ≠ X.env.locals := fun z =>
      away (List.mem_filterMap.mpr ⟨X.env, List.mem_cons_self, by rw [hf, z]⟩)
    have nF : a ∉ X.fs := fun hm => by
      obtain ⟨e, he, q⟩ := List.mem_filterMap.mp hm
      exact away (List.mem_filterMap.mpr
        ⟨e, List.mem_cons_of_mem _ he, q⟩)
    have S3 := J3.suite at3 d3 na nL nF
    refine wpAny_handleBy_cons
      (codeAny_handlers_test ?_) (by intro q; cases q)
    have typ : PySem.W.Looks (model X.prog X.w) h3 (typeOf (.ref a)) cls := fun A Q E s k q =>
      wpAny_typeOf_ref (k _ _ at3) (by rw [z3.1]; exact q)
    have yes := PySem.W.exm_one (M := model X.prog X.w) J3.kIn typ hb1
    have asked : ∀ {Q : Value → Shared → Prop} {E : Value → Shared → Prop}, Q c { s' with heap := h3 } →
        wpAny (model X.prog X.w) (X.A.mark (some (.ref a))) (eval (.Name x np) X.env) Q E { s' with heap := h3 } := by
      intro Q E q
      obtain ⟨g1, g2, g3 | ⟨g3, g4, g5⟩⟩ := hc
      · exact ld_glob (X := X.suite a ((a, o3) :: (X.pn ++ pins)))
          S3 g1 g3 q g2
      · exact ld_blt (X := X.suite a ((a, o3) :: (X.pn ++ pins)))
          S3 g1 g3 g4 q g5 g2
    refine asked (yes.here ?_)
    refine codeAny_handlers_suite_as ?_
    refine HandSPX.lands_againZ fl3
      fun h4 fl4 up4 => ?_
    have J4 : Inv X pins σ' H' { s' with heap := h4 } :=
      J.landed nb fl4.1 ((up.trans up3).trans up4) os ag
    obtain ⟨o4, v4, at4, z4, d4⟩ := fl4.there
    have S4 := J4.suite at4 d4 na nL nF
    refine store_ok (X := X.suite a ((a, o4) :: (X.pn ++ pins)))
      (v := .ref a) S4 hN hi (.inl hln) rfl (fun s5 S5 => ?_) (.inr hln)
    have run := (hsu a o4 cls d (X.pn ++ pins) z4 ⟨_, d4⟩).run [] s5 _ H' _ S5 (wish a na)
    refine wpAny_mono run (fun f s6 hsp => ?_)
      (fun _ _ z => z.elim)
    cases f with
    | next =>
      obtain ⟨σ6, H6, S6, q6⟩ := hsp
      exact gone_ok (X := X.tr ((a, o4) :: (X.pn ++ pins)) X.xe) (suite_tr S6 ok) hN hi hln
        fun s7 J7 => end2 a o4 cls d _ _ s7 z4 ⟨_, d4⟩ J7 q6
    | brk =>
      obtain ⟨_, _, _, z⟩ := hsp
      exact z.elim
    | cont =>
      obtain ⟨_, _, _, z⟩ := hsp
      exact z.elim
    | ret u =>
      obtain ⟨_, _, _, _, _, z⟩ := hsp
      exact z.elim
  have bodyRun := (hb (wHeld X.K c i ts Dh) (X.pn ++ pins) out caught PassesOwn.looking).run [] s σ H _ (I.toTry _) h
  refine wpAny_mono bodyRun (fun f s1 hsp => ?_) (fun e s1 he => he)
  cases f with
  | next =>
    obtain ⟨σ', H', J', q⟩ := hsp
    exact wpAny_execs_nil (end1 _ _ _ (J'.ofTry ok) q)
  | brk =>
    obtain ⟨_, _, _, z⟩ := hsp
    exact z.elim
  | cont =>
    obtain ⟨_, _, _, z⟩ := hsp
    exact z.elim
  | ret u =>
    obtain ⟨_, _, _, _, _, z⟩ := hsp
    exact z.elim
end
section
variable {X : Cx} {x n : Str} {c : Value} {i : Nat} {body suite rest : List Stmt} {b₀ : Stmt} {np pos pos' : Pos} {tb : WX → TS} {ts u1 : Addr → Value → Option Addr → TS} {u0 : TS}
/-- try: body / except x as n: suite, and what comes behind, the error at hand -/
theorem pss_try_held (hs : X.stack = X.env :: X.outer) (hf : X.env.frame = some X.env.locals) (hN : X.N.Nodup) (hi : X.N[i]? = some n) (hln : X.env.kindOf n = some .local) (hc : Names X x c)
    (hb : ∀ (W : WX) (pn : List (Addr × Obj)) (xe : Value → Shared → Prop), Takes (X.tr pn xe) W → PassesOwn (model X.prog X.w) X.A X.env xe → PSs (X.tr pn xe) body (tb W))
    (hsu : ∀ (a : Addr) (oe : Obj) (cls : Value) (d : Option Addr) (pn : List (Addr × Obj)), Zc cls d oe → (∃ vs, oe.data = .fields vs) → PSs (X.suite a ((a, oe) :: pn)) (b₀ :: suite) (ts a cls d))
    (hr0 : PSs X rest u0)
    (hr1 : ∀ (a : Addr) (oe : Obj) (cls : Value) (d : Option Addr) (pn : List (Addr × Obj)), Zc cls d oe → (∃ vs, oe.data = .fields vs) → PSs (X.tr ((a, oe) :: pn) X.xe) rest (u1 a cls d)) :
    PSs X (.Try body [.ExceptHandler (some (.Name x np)) (some n) (b₀ :: suite) pos'] [] [] pos :: rest)
      (fun D σ H => tb (wHeld X.K c i ts fun a cls d => u1 a cls d D) { nx := u0 D, rt := fun _ _ => False, bk := fun _ _ => False, ct := fun _ _ => False } σ H) := by
  refine ⟨fun pins s σ H D I h => ?_⟩
  have ok := I.ok
  refine wpAny_execs_cons (try_held hs hf hN hi hln hc hb hsu I h (fun σ1 H1 s1 J q => ?_) (fun a oe cls d σ1 H1 s1 hz hd J q => ?_))
  · exact hr0.run pins s1 σ1 H1 D J q
  · refine wpAny_mono ((hr1 a oe cls d _ hz hd).run [] s1 σ1 H1 D J q) (fun f s2 hsp => ?_) (fun _ _ z => z)
    cases f with
    | next =>
      obtain ⟨σ2, H2, J2, q2⟩ := hsp
      exact ⟨σ2, H2, un_tr J2 ok, q2⟩
    | brk =>
      obtain ⟨σ2, H2, J2, q2⟩ := hsp
      exact ⟨σ2, H2, un_tr J2 ok, q2⟩
    | cont =>
      obtain ⟨σ2, H2, J2, q2⟩ := hsp
      exact ⟨σ2, H2, un_tr J2 ok, q2⟩
    | ret u =>
      obtain ⟨v, σ2, H2, J2, r2, q2⟩ := hsp
      exact ⟨v, σ2, H2, un_tr J2 ok, r2, q2⟩
/-! isinstance and fields of an error that is pinned -/
theorem call_isE3 {X : Cx} {a : Addr} {cls : Value} {d : Option Addr} {oe : Obj} {pn : List (Addr × Obj)} {xe : Value → Shared → Prop} (hz : Zc cls d oe) (hf : ∃ vs, oe.data = .fields vs) :
    CallR (X.tr ((a, oe) :: pn) xe) (.builtin "isinstance") (rIsE2 X.K a cls d) := by
  intro pins s σ H xs us Q I r h
  obtain ⟨c, D, dd, fs, b, rfl, rfl, rfl, ed, C, e, q⟩ := h
  obtain ⟨u1, u2, rfl, r1, r2⟩ := vals2 r
  cases (show u1 = Value.ref a from r1)
  cases (show u2 = Value.ref c from r2)
  obtain ⟨got, _⟩ := I.pin (a, oe) (List.mem_append_left _ List.mem_cons_self)
  obtain ⟨vs, hv⟩ := hf
  have hx : ObjOk X.prog X.w H s.heap dd (.xd fs) := I.hok dd _ ed
  obtain ⟨mA, hns, _⟩ := hx
  obtain ⟨od, ho, _⟩ := lookIn_ns hns
  have J : PySem.W.InstAt s.heap a oe D (some od) := by
    refine ⟨got, hz.1, ?_, ?_⟩
    · unfold PySem.W.notCls
      rw [hv]
    · rw [hz.2]
      exact ho
  exact PySem.W.kia_one
    (PySem.W.kitx_exc C.hcl C.xf.ga C.xf.gg C.xf.exC C.ha C.hn C.ht C.hm)
    I.kIn J e (fun z => nomatch z)
    fun tk => ⟨.bl b, H, I.kept (t' := tk) fun _ _ z => z, rfl, q⟩
end
end My

set_option maxHeartbeats 1000000
namespace Dm
open PySem PySem.Spec PyProof.Rows L2 My
/-! ### values as trees -/
inductive D where
  | non | bl (b : Bool) | int (i : Int) | str (x : Str) | ty (n : String) | ref (a : Addr)
  | lst (l : List D) | tup (l : List D) | tup0 (l : List D)
  | dic (l : List (Key × D)) | dct (l : List (List Key × D)) | ins (C : Str) (fs : List (Str × D)) | rng (a b : Int)
abbrev Fr := PySem.W.Frag
mutual
def Rep (K : Fr) (H : Hp) : D → V → Prop
  | .non, v => v = .non
  | .bl b, v => v = .bl b
  | .int i, v => v = .int i
  | .str x, v => v = .str x
  | .ty n, v => v = .ty n
  | .ref a, v => v = .ref a
  | .lst l, v => ∃ a vs, v = .ref a ∧ H a = some (.lst vs) ∧ RepL K H l vs
  | .tup l, v => ∃ a vs, v = .ref a ∧ TupN H a vs ∧ RepL K H l vs
  | .tup0 l, v => ∃ a vs, v = .ref a ∧ SqT K H a vs ∧ RepL K H l vs
  | .dic l, v => ∃ a kvs, v = .ref a ∧ H a = some (.dK kvs) ∧ RepK K H l kvs
  | .dct l, v => ∃ a kvs, v = .ref a ∧ H a = some (.dT kvs) ∧ RepT K H l kvs
  | .ins C fs, v => ∃ a c dx fvs, v = .ref a ∧ PySem.W.nsIn K mainGlobals C = some (some (.ref c)) ∧ H a = some (.ins c dx fvs) ∧ RepF K H fs fvs
  | .rng i j, v => ∃ a, v = .ref a ∧ H a = some (.rng i j)
def RepL (K : Fr) (H : Hp) : List D → List V → Prop
  | [], vs => vs = []
  | d :: l, vs => ∃ v r, vs = v :: r ∧ Rep K H d v ∧ RepL K H l r
def RepK (K : Fr) (H : Hp) : List (Key × D) → List (Key × V) → Prop
  | [], vs => vs = []
  | (k, d) :: l, vs => ∃ v r, vs = (k, v) :: r ∧ Rep K H d v ∧ RepK K H l r
def RepT (K : Fr) (H : Hp) : List (List Key × D) → List (List Key × V) → Prop
  | [], vs => vs = []
  | (k, d) :: l, vs => ∃ v r, vs = (k, v) :: r ∧ Rep K H d v ∧ RepT K H l r
def RepF (K : Fr) (H : Hp) : List (Str × D) → List (Str × V) → Prop
  | [], vs => vs = []
  | (k, d) :: l, vs => ∃ v r, vs = (k, v) :: r ∧ Rep K H d v ∧ RepF K H l r
end
theorem sqL_mono {K : Fr} {H H' : Hp} (s : Same H H') {a : Addr} {xs : List V} (h : SqL K H a xs) : SqL K H' a xs := by
  rcases h with (h | ⟨o, h⟩) | h
  · exact .inl (.inl (s _ _ h))
  · exact .inl (.inr ⟨o, s _ _ h⟩)
  · exact .inr h
theorem sqT_mono {K : Fr} {H H' : Hp} (s : Same H H') {a : Addr} {xs : List V} (h : SqT K H a xs) : SqT K H' a xs := by
  rcases h with (h | ⟨o, h⟩) | h
  · exact .inl (.inl (s _ _ h))
  · exact .inl (.inr ⟨o, s _ _ h⟩)
  · exact .inr h
mutual
theorem Rep.mono {K : Fr} {H H' : Hp} (s : Same H H') : ∀ (d : D) {v : V}, Rep K H d v → Rep K H' d v
  | .non, _, h => h
  | .bl _, _, h => h
  | .int _, _, h => h
  | .str _, _, h => h
  | .ty _, _, h => h
  | .ref _, _, h => h
  | .lst l, _, h => by
    obtain ⟨a, vs, e, h1, h2⟩ := h
    exact ⟨a, vs, e, s _ _ h1, RepL.mono s l h2⟩
  | .tup l, _, h => by
    obtain ⟨a, vs, e, h1, h2⟩ := h
    exact ⟨a, vs, e, h1.mono s, RepL.mono s l h2⟩
  | .tup0 l, _, h => by
    obtain ⟨a, vs, e, h1, h2⟩ := h
    exact ⟨a, vs, e, sqT_mono s h1, RepL.mono s l h2⟩
  | .dic l, _, h => by
    obtain ⟨a, vs, e, h1, h2⟩ := h
    exact ⟨a, vs, e, s _ _ h1, RepK.mono s l h2⟩
  | .dct l, _, h => by
    obtain ⟨a, vs, e, h1, h2⟩ := h
    exact ⟨a, vs, e, s _ _ h1, RepT.mono s l h2⟩
  | .ins C fs, _, h => by
    obtain ⟨a, c, dx, vs, e, h0, h1, h2⟩ := h
    exact ⟨a, c, dx, vs, e, h0, s _ _ h1, RepF.mono s fs h2⟩
  | .rng i j, _, h => by
    obtain ⟨a, e, h1⟩ := h
    exact ⟨a, e, s _ _ h1⟩
theorem RepL.mono {K : Fr} {H H' : Hp} (s : Same H H') : ∀ (l : List D) {vs : List V}, RepL K H l vs → RepL K H' l vs
  | [], _, h => h
  | d :: l, _, h => by
    obtain ⟨v, r, e, h1, h2⟩ := h
    exact ⟨v, r, e, Rep.mono s d h1, RepL.mono s l h2⟩
theorem RepK.mono {K : Fr} {H H' : Hp} (s : Same H H') : ∀ (l : List (Key × D)) {vs : List (Key × V)}, RepK K H l vs → RepK K H' l vs
  | [], _, h => h
  | (k, d) :: l, _, h => by
    obtain ⟨v, r, e, h1, h2⟩ := h
    exact ⟨v, r, e, Rep.mono s d h1, RepK.mono s l h2⟩
theorem RepT.mono {K : Fr} {H H' : Hp} (s : Same H H') : ∀ (l : List (List Key × D)) {vs : List (List Key × V)}, RepT K H l vs → RepT K H' l vs
  | [], _, h => h
  | (k, d) :: l, _, h => by
    obtain ⟨v, r, e, h1, h2⟩ := h
    exact ⟨v, r, e, Rep.mono s d h1, RepT.mono s l h2⟩
theorem RepF.mono {K : Fr} {H H' : Hp} (s : Same H H') : ∀ (l : List (Str × D)) {vs : List (Str × V)}, RepF K H l vs → RepF K H' l vs
  | [], _, h => h
  | (k, d) :: l, _, h => by
    obtain ⟨v, r, e, h1, h2⟩ := h
    exact ⟨v, r, e, Rep.mono s d h1, RepF.mono s l h2⟩
end
theorem RepL.len {K : Fr} {H : Hp} : ∀ {l : List D} {vs : List V}, RepL K H l vs → l.length = vs.length
  | [], _, h => by
    have h : _ = [] := h
    rw [h]
    rfl
  | d :: l, _, h => by
    obtain ⟨v, r, e, _, h2⟩ := h
    rw [e, List.length_cons, List.length_cons, RepL.len h2]
theorem RepL.get {K : Fr} {H : Hp} : ∀ {l : List D} {vs : List V} {i : Nat} {d : D}, RepL K H l vs → l[i]? = some d → ∃ v, vs[i]? = some v ∧ Rep K H d v
  | [], _, _, _, _, e => by simp at e
  | x :: l, _, 0, d, h, e => by
    obtain ⟨v, r, e1, h1, h2⟩ := h
    subst e1
    have e2 : x = d := by simpa using e
    subst e2
    exact ⟨v, rfl, h1⟩
  | x :: l, _, i + 1, d, h, e => by
    obtain ⟨v, r, e1, h1, h2⟩ := h
    subst e1
    exact RepL.get (i := i) h2 e
theorem RepL.app {K : Fr} {H : Hp} : ∀ {l : List D} {vs : List V} {m : List D} {ws : List V}, RepL K H l vs → RepL K H m ws → RepL K H (l ++ m) (vs ++ ws)
  | [], _, _, _, h, h2 => by
    have h : _ = [] := h
    rw [h]
    exact h2
  | d :: l, _, _, _, h, h2 => by
    obtain ⟨v, r, e, h1, h3⟩ := h
    subst e
    exact ⟨v, r ++ _, rfl, h1, RepL.app h3 h2⟩
theorem RepL.take {K : Fr} {H : Hp} : ∀ (n : Nat) {l : List D} {vs : List V}, RepL K H l vs → RepL K H (l.take n) (vs.take n)
  | 0, _, _, _ => by
    rw [List.take_zero, List.take_zero]
    rfl
  | n + 1, [], _, h => by
    have h : _ = [] := h
    rw [h]
    rfl
  | n + 1, d :: l, _, h => by
    obtain ⟨v, r, e, h1, h3⟩ := h
    subst e
    exact ⟨v, r.take n, rfl, h1, RepL.take n h3⟩
theorem RepL.drop {K : Fr} {H : Hp} : ∀ (n : Nat) {l : List D} {vs : List V}, RepL K H l vs → RepL K H (l.drop n) (vs.drop n)
  | 0, _, _, h => h
  | n + 1, [], _, h => by
    have h : _ = [] := h
    rw [h]
    rfl
  | n + 1, d :: l, _, h => by
    obtain ⟨v, r, e, h1, h3⟩ := h
    subst e
    exact RepL.drop n h3
theorem RepL.one {K : Fr} {H : Hp} {d : D} {v : V} (h : Rep K H d v) : RepL K H [d] [v] := ⟨v, [], rfl, h, rfl⟩
theorem RepL.rev {K : Fr} {H : Hp} : ∀ {l : List D} {vs : List V}, RepL K H l vs → RepL K H l.reverse vs.reverse
  | [], _, h => by
    have h : _ = [] := h
    rw [h]
    rfl
  | d :: l, _, h => by
    obtain ⟨v, r, e, h1, h3⟩ := h
    subst e
    rw [List.reverse_cons, List.reverse_cons]
    exact (RepL.rev h3).app (.one h1)
theorem RepL.set {K : Fr} {H : Hp} : ∀ {l : List D} {vs : List V} (i : Nat) {d : D} {v : V}, RepL K H l vs → Rep K H d v → RepL K H (l.set i d) (vs.set i v)
  | [], _, _, _, _, h, _ => by
    have h : _ = [] := h
    rw [h]
    rfl
  | x :: l, _, 0, d, v, h, h2 => by
    obtain ⟨w, r, e, h1, h3⟩ := h
    subst e
    exact ⟨v, r, rfl, h2, h3⟩
  | x :: l, _, i + 1, d, v, h, h2 => by
    obtain ⟨w, r, e, h1, h3⟩ := h
    subst e
    exact ⟨w, _, rfl, h1, RepL.set i h3 h2⟩
theorem RepL.erase {K : Fr} {H : Hp} : ∀ {l : List D} {vs : List V} (i : Nat), RepL K H l vs → RepL K H (l.eraseIdx i) (vs.eraseIdx i)
  | [], _, _, h => by
    have h : _ = [] := h
    rw [h]
    rfl
  | x :: l, _, 0, h => by
    obtain ⟨w, r, e, h1, h3⟩ := h
    subst e
    exact h3
  | x :: l, _, i + 1, h => by
    obtain ⟨w, r, e, h1, h3⟩ := h
    subst e
    exact ⟨w, _, rfl, h1, RepL.erase i h3⟩
/-! ### the bag's state, outcomes -/
structure BS where
  q : Addr
  cells : List Int
  turn : Int
  rest : Int
  tb : List (Addr × Str)
inductive Res (α : Type) where
  | ok (a : α) (s : BS)
  | exc (nm : Str) (fs : List (Str × D)) (s : BS)
  | bad
abbrev M (α : Type) := BS → Res α
@[reducible] def ret {α : Type} (a : α) : M α := fun s => .ok a s
@[reducible] def bnd {α β : Type} (m : M α) (f : α → M β) : M β := fun s =>
  match m s with
  | .ok a s' => f a s'
  | .exc nm fs s' => .exc nm fs s'
  | .bad => .bad
def bad {α : Type} : M α := fun _ => .bad
abbrev Env := List (Option D)
/-! ### frozen and hidden parts of the heap -/
def isTbl : HO → Bool
  | .tbl _ => true
  | _ => false
def ntb : Option HO → Option HO
  | some o => if isTbl o = true then none else some o
  | none => none
theorem ntb_some {x : Option HO} {o : HO} (h : ntb x = some o) : x = some o ∧ isTbl o = false := by
  cases x with
  | none => cases h
  | some y =>
    have h : (if isTbl y = true then none else some y) = some o := h
    cases c : isTbl y with
    | true =>
      rw [c] at h
      cases h
    | false =>
      rw [c] at h
      cases h
      exact ⟨rfl, c⟩
theorem ntb_of {x : Option HO} {o : HO} (h : x = some o) (n : isTbl o = false) : ntb x = some o := by
  rw [h]
  show (if isTbl o = true then none else some o) = some o
  rw [n]
  rfl
/-- what stood stands, but for what stands at q, and tables -/
structure Mw (q : Addr) (H H' : Hp) : Prop where
  keep : ∀ b o, b ≠ q → isTbl o = false → H b = some o → H' b = some o
theorem Mw.refl {q : Addr} {H : Hp} : Mw q H H := ⟨fun _ _ _ _ z => z⟩
theorem Mw.of {q : Addr} {H H' : Hp} (s : Same H H') : Mw q H H' := ⟨fun _ _ _ _ z => s _ _ z⟩
theorem Mw.trans {q : Addr} {H H1 H2 : Hp} (a : Mw q H H1) (b : Mw q H1 H2) : Mw q H H2 := ⟨fun c o n t h => b.keep c o n t (a.keep c o n t h)⟩
theorem Mw.lst {q : Addr} {H H' : Hp} (m : Mw q H H') {a : Addr} {vs : List V} (n : a ≠ q) (h : H a = some (.lst vs)) : H' a = some (.lst vs) := m.keep _ _ n rfl h
/-- free, or a table -/
def Fr0 (H : Hp) (p : Addr) : Prop := ∀ o, H p = some o → isTbl o = true
theorem Fr0.of {H : Hp} {p : Addr} (h : H p = none) : Fr0 H p := fun o e => by
  rw [h] at e
  cases e
theorem Mw.updO {q D₀ : Addr} {H0 H : Hp} {o' : HO} (m : Mw q H0 H) (n : Fr0 H0 D₀) : Mw q H0 (upd H D₀ o') := ⟨fun b o nb t h => by
  rw [upd_ne (fun z => by
    rw [z] at h
    rw [n o h] at t
    cases t)]
  exact m.keep b o nb t h⟩
theorem Mw.updL {q D₀ : Addr} {H0 H : Hp} {vs vs' : List V} (m : Mw q H0 H) (n : Fr0 H0 D₀) (_e : H D₀ = some (.lst vs)) : Mw q H0 (upd H D₀ (.lst vs')) := ⟨fun b o nb t h => by
  rw [upd_ne (fun z => by
    rw [z] at h
    rw [n o h] at t
    cases t)]
  exact m.keep b o nb t h⟩
def hid (W : List Addr) (H : Hp) : Hp := fun a => if a ∈ W then none else ntb (H a)
theorem hid_out {W : List Addr} {H : Hp} {a : Addr} (h : a ∉ W) : hid W H a = ntb (H a) := if_neg h
theorem hid_in {W : List Addr} {H : Hp} {a : Addr} (h : a ∈ W) : hid W H a = none := if_pos h
theorem hid_at {W : List Addr} {H : Hp} {a : Addr} {o : HO} (h : a ∉ W) (n : isTbl o = false) (e : H a = some o) : hid W H a = some o := by
  rw [hid_out h]
  exact ntb_of e n
theorem hid_of {W : List Addr} {H : Hp} {a : Addr} {o : HO} (h : hid W H a = some o) : a ∉ W ∧ H a = some o ∧ isTbl o = false := by
  by_cases c : a ∈ W
  · rw [hid_in c] at h
    cases h
  · rw [hid_out c] at h
    exact ⟨c, ntb_some h⟩
theorem hid_same (W : List Addr) (H : Hp) : Same (hid W H) H := fun _ _ h => (hid_of h).2.1
theorem hid_sub {W W' : List Addr} {H : Hp} (h : ∀ a ∈ W', a ∈ W) : Same (hid W H) (hid W' H) := fun a o e => by
  obtain ⟨n, e, t⟩ := hid_of e
  exact hid_at (fun z => n (h a z)) t e
theorem hid_mv {W : List Addr} {q : Addr} {H H' : Hp} (hq : q ∈ W) (m : Mw q H H') : Same (hid W H) (hid W H') := fun a o e => by
  obtain ⟨n, e, t⟩ := hid_of e
  exact hid_at n t (m.keep _ _ (fun z => n (by rw [z]; exact hq)) t e)
theorem hid_upd_in {W : List Addr} {H : Hp} {a : Addr} {o : HO} (h : a ∈ W) : hid W (upd H a o) = hid W H := by
  funext b
  unfold hid
  split
  · rfl
  · next n => rw [upd_ne fun z => n (by rw [z]; exact h)]
theorem tabs_updL {T : List (Addr × Str)} {H : Hp} {a : Addr} {vs vs' : List V} (t : LamX.Tabs T H) (e : H a = some (.lst vs)) : LamX.Tabs T (upd H a (.lst vs')) := fun p hp => by
  obtain ⟨ps, h1, h2, h3⟩ := t p hp
  refine ⟨ps, by rw [upd_ne (ne_of h1 e (by intro z; cases z))]; exact h1, h2, fun pos cv hc => ?_⟩
  obtain ⟨c, e1, e2⟩ := h3 pos cv hc
  exact ⟨c, e1, by rw [upd_ne (ne_of e2 e (by intro z; cases z))]; exact e2⟩
theorem tabs_updT {T : List (Addr × Str)} {H : Hp} {a : Addr} {vs vs' : List (List Key × V)} (t : LamX.Tabs T H) (e : H a = some (.dT vs)) : LamX.Tabs T (upd H a (.dT vs')) := fun p hp => by
  obtain ⟨ps, h1, h2, h3⟩ := t p hp
  refine ⟨ps, by rw [upd_ne (ne_of h1 e (by intro z; cases z))]; exact h1, h2, fun pos cv hc => ?_⟩
  obtain ⟨c, e1, e2⟩ := h3 pos cv hc
  exact ⟨c, e1, by rw [upd_ne (ne_of e2 e (by intro z; cases z))]; exact e2⟩
/-- the bag, as it stands: at q, its cells at c -/
structure BagAt (T : List (Addr × Str)) (q c : Addr) (H : Hp) (s : BS) : Prop where
  eT : s.tb = T
  tabs : LamX.Tabs T H
  eq : s.q = q
  at_ : H q = some (.lst [.ref c, .int s.turn, .int s.rest])
  cells : H c = some (.lst (s.cells.map V.int))
structure Frm where
  W : List Addr
  H0 : Hp
  q : Addr
  c : Addr
  B : Hp
  T : List (Addr × Str)
structure FOk (F : Frm) : Prop where
  qW : F.q ∈ F.W
  cW : F.c ∈ F.W
  cq : F.c ≠ F.q
  wild : ∀ a ∈ F.W, ∃ o, F.H0 a = some o ∧ isTbl o = false
theorem BagAt.mv {T : List (Addr × Str)} {q c : Addr} {H H' : Hp} {s : BS} (h : BagAt T q c H s) (s' : Same H H') : BagAt T q c H' s := ⟨h.eT, h.tabs.ext s', h.eq, s' _ _ h.at_, s' _ _ h.cells⟩
abbrev Own := List (Nat × Addr)
def wld (F : Frm) (os : Own) : List Addr := os.map (·.2) ++ F.W
/-- what a slot alone knows: a list, a dict by tuples -/
def OwnO (K : Fr) (Hh : Hp) (d : D) (o : HO) : Prop := (∃ l vs, d = .lst l ∧ o = .lst vs ∧ RepL K Hh l vs) ∨ (∃ l kvs, d = .dct l ∧ o = .dT kvs ∧ RepT K Hh l kvs)
theorem OwnO.mono {K : Fr} {H H' : Hp} {d : D} {o : HO} (s : Same H H') (h : OwnO K H d o) : OwnO K H' d o := by
  rcases h with ⟨l, vs, e1, e2, r⟩ | ⟨l, vs, e1, e2, r⟩
  · exact .inl ⟨l, vs, e1, e2, RepL.mono s l r⟩
  · exact .inr ⟨l, vs, e1, e2, RepT.mono s l r⟩
theorem OwnO.nt {K : Fr} {H : Hp} {d : D} {o : HO} (h : OwnO K H d o) : isTbl o = false := by
  rcases h with ⟨l, vs, e1, rfl, r⟩ | ⟨l, vs, e1, rfl, r⟩ <;> rfl
theorem OwnO.lst {K : Fr} {H : Hp} {l : List D} {o : HO} (h : OwnO K H (.lst l) o) : ∃ vs, o = .lst vs ∧ RepL K H l vs := by
  rcases h with ⟨m, vs, e1, e2, r⟩ | ⟨m, vs, e1, _⟩
  · cases e1
    exact ⟨vs, e2, r⟩
  · cases e1
theorem OwnO.dct {K : Fr} {H : Hp} {l : List (List Key × D)} {o : HO} (h : OwnO K H (.dct l) o) : ∃ vs, o = .dT vs ∧ RepT K H l vs := by
  rcases h with ⟨m, vs, e1, _⟩ | ⟨m, vs, e1, e2, r⟩
  · cases e1
  · cases e1
    exact ⟨vs, e2, r⟩
def SlotOk (K : Fr) (Hh H : Hp) (own : Option Addr) (d : D) (v : V) : Prop :=
  match own with
  | none => Rep K Hh d v
  | some a => v = .ref a ∧ ∃ o, H a = some o ∧ OwnO K Hh d o
structure StOk (K : Fr) (F : Frm) (os : Own) (ρ : Env) (σ : L2.St) (H : Hp) (s : BS) : Prop where
  mv : Mw F.q F.H0 H
  fok : FOk F
  bag : BagAt F.T F.q F.c H s
  new : ∀ p ∈ os, Fr0 F.H0 p.2
  thr : ∀ p ∈ os, ∃ o, H p.2 = some o ∧ isTbl o = false
  nd : (os.map (·.2)).Nodup
  len : σ.length = ρ.length
  few : ρ.length ≤ 900
  frz : Same F.B (hid (wld F os) H)
  slots : ∀ i d, ρ[i]? = some (some d) → ∃ v, σ[i]? = some (some v) ∧ SlotOk K (hid (wld F os) H) H (os.lookup i) d v
section
variable {K : Fr} {F : Frm} {os : Own} {ρ : Env} {σ : L2.St} {H H' : Hp} {s s' : BS}
theorem StOk.wpres (h : StOk K F os ρ σ H s) {a : Addr} (ha : a ∈ wld F os) : ∃ o, H a = some o ∧ isTbl o = false := by
  rcases List.mem_append.mp ha with z | z
  · obtain ⟨p, hp, rfl⟩ := List.mem_map.mp z
    exact h.thr p hp
  · by_cases c : a = F.q
    · exact ⟨_, by rw [c]; exact h.bag.at_, rfl⟩
    · obtain ⟨o, e, t⟩ := h.fok.wild a z
      exact ⟨o, h.mv.keep _ _ c t e, t⟩
theorem StOk.fresh (h : StOk K F os ρ σ H s) {p : Addr} (np : H p = none) : p ∉ wld F os := fun z => by
  obtain ⟨o, e, _⟩ := h.wpres z
  rw [np] at e
  cases e
theorem StOk.fresh0 (h : StOk K F os ρ σ H s) {p : Addr} (np : Fr0 H p) : Fr0 F.H0 p := fun o e => by
  cases t : isTbl o with
  | true => rfl
  | false =>
    by_cases c : p = F.q
    · have e2 := h.bag.at_
      rw [← c] at e2
      have := np _ e2
      cases this
    · have := np _ (h.mv.keep _ _ c t e)
      rw [t] at this
      cases this
theorem StOk.qW (h : StOk K F os ρ σ H s) : F.q ∈ wld F os := List.mem_append_right _ h.fok.qW
theorem StOk.own_ne (h : StOk K F os ρ σ H s) {p : Nat × Addr} (hp : p ∈ os) : p.2 ∉ F.W := fun z => by
  obtain ⟨o, e, t⟩ := h.fok.wild _ z
  rw [h.new p hp o e] at t
  cases t
theorem StOk.own_q (h : StOk K F os ρ σ H s) {p : Nat × Addr} (hp : p ∈ os) : p.2 ≠ F.q := fun z => h.own_ne hp (by rw [z]; exact h.fok.qW)
/-- what only grows -/
theorem SlotOk.mono {Hh Hh' H H' : Hp} {own : Option Addr} {d : D} {v : V} (s : Same Hh Hh') (k : ∀ a, own = some a → ∀ o, isTbl o = false → H a = some o → H' a = some o) (h : SlotOk K Hh H own d v) : SlotOk K Hh' H' own d v := by
  cases own with
  | none => exact Rep.mono s d h
  | some a =>
    obtain ⟨e1, o, e2, e3⟩ := h
    exact ⟨e1, o, k a rfl o e3.nt e2, e3.mono s⟩
theorem lookup_mem {os : Own} {i : Nat} {a : Addr} : os.lookup i = some a → (i, a) ∈ os := by
  induction os with
  | nil => intro h; cases h
  | cons p os ih =>
    obtain ⟨k, b⟩ := p
    intro h
    rw [List.lookup_cons] at h
    by_cases c : i = k
    · subst c
      rw [beq_self_eq_true] at h
      cases h
      exact List.mem_cons_self
    · rw [beq_false_of_ne c] at h
      exact List.mem_cons_of_mem _ (ih h)
/-- a step that keeps all but the bag, the bag as told -/
theorem StOk.step (h : StOk K F os ρ σ H s) (m : Mw F.q H H') (b : BagAt F.T F.q F.c H' s') : StOk K F os ρ σ H' s' where
  mv := h.mv.trans m
  bag := b
  fok := h.fok
  new := h.new
  thr := fun p hp => by
    obtain ⟨o, e, t⟩ := h.thr p hp
    exact ⟨o, m.keep _ _ (h.own_q hp) t e, t⟩
  nd := h.nd
  len := h.len
  few := h.few
  frz := h.frz.trans (hid_mv h.qW m)
  slots := fun i d e => by
    obtain ⟨v, e1, e2⟩ := h.slots i d e
    refine ⟨v, e1, e2.mono (hid_mv h.qW m) fun a ea o t e3 => ?_⟩
    exact m.keep _ _ (h.own_q (lookup_mem ea)) t e3
/-- a new object laid -/
theorem StOk.laid (h : StOk K F os ρ σ H s) {p : Addr} {o : HO} (np : H p = none) : StOk K F os ρ σ (upd H p o) s := by
  exact h.step (Mw.of (same_new np)) (h.bag.mv (same_new np))
theorem StOk.hid_laid (h : StOk K F os ρ σ H s) {p : Addr} {o : HO} (np : H p = none) (n : isTbl o = false := by rfl) : hid (wld F os) (upd H p o) p = some o := hid_at (h.fresh np) n upd_same
end
end Dm

namespace Dm
open PySem PySem.Spec PyProof.Rows L2 My
abbrev SK := L2.St → XK
/-- contexts that share what the rules ask -/
structure Cxs (P : Program) (w : World) (K : Fr) (mg : Str → Option Value) (base : Heap) (E : SK) where
  ι : Type
  X : ι → Cx
  lv : Nat
  hP : ∀ i, (X i).prog = P
  hw : ∀ i, (X i).w = w
  hK : ∀ i, (X i).K = K
  hmg : ∀ i, (X i).mg = mg
  hb : ∀ i, (X i).base = base
  calm : ∀ i, (X i).calm = true
  nd : ∀ i, (X i).N.Nodup
  room : ∀ i, Room lv (X i).A
  pass : ∀ i σ, PassesAt (L2.CX (X i).prog (X i).w) (X i) σ (E σ)
def exOk (K : Fr) (cl : Str → Addr) (E : XK) (F : Frm) (nm : Str) (fs : List (Str × D)) (s' : BS) : Prop :=
  ∀ H' dd fvs, Mw F.q F.H0 H' → BagAt F.T F.q F.c H' s' → Fr0 F.H0 dd → H' dd = some (.xd fvs) → RepF K (hid F.W H') fs fvs → E (.ref (cl nm)) (some dd) H'
section
variable (K : Fr) (cl : Str → Addr) (E : SK) (O : List Nat)
def satE (F : Frm) (os : Own) (ρ : Env) (σ : L2.St) (H : Hp) (Q : VK) : Res D → Prop
  | .ok d s' => ∀ v H', Mw F.q H H' → StOk K F os ρ σ H' s' → Rep K (hid (wld F os) H') d v → Q v H'
  | .exc nm fs s' => exOk K cl (E σ) F nm fs s'
  | .bad => False
def RE (t : TE) (f : Env → M D) : Prop := ∀ F os ρ σ H s Q, os.map (·.1) = O → StOk K F os ρ σ H s → satE K cl E F os ρ σ H Q (f ρ s) → t σ H Q
def satT (F : Frm) (os : Own) (ρ : Env) (σ : L2.St) (H : Hp) (Q : Bool → Hp → Prop) : Res Bool → Prop
  | .ok b s' => ∀ H', Mw F.q H H' → StOk K F os ρ σ H' s' → Q b H'
  | .exc nm fs s' => exOk K cl (E σ) F nm fs s'
  | .bad => False
def RT (t : TT) (f : Env → M Bool) : Prop := ∀ F os ρ σ H s Q, os.map (·.1) = O → StOk K F os ρ σ H s → satT K cl E F os ρ σ H Q (f ρ s) → t σ H Q
def satA (F : Frm) (os : Own) (ρ : Env) (σ : L2.St) (H : Hp) (Q : List V → Hp → Prop) : Res (List D) → Prop
  | .ok ds s' => ∀ vs H', Mw F.q H H' → StOk K F os ρ σ H' s' → RepL K (hid (wld F os) H') ds vs → Q vs H'
  | .exc nm fs s' => exOk K cl (E σ) F nm fs s'
  | .bad => False
def RA (t : TA) (f : Env → M (List D)) : Prop := ∀ F os ρ σ H s Q, os.map (·.1) = O → StOk K F os ρ σ H s → satA K cl E F os ρ σ H Q (f ρ s) → t σ H Q
end
section
variable {P : Program} {w : World} {K : Fr} {mg : Str → Option Value} {base : Heap} {cl : Str → Addr} {E : SK}
def ME (Φ : Cxs P w K mg base E) (cl : Str → Addr) (O : List Nat) (e : Expr) (f : Env → M D) : Prop := ∃ t, (∀ i, PE (Φ.X i) e t) ∧ RE K cl E O t f
def MT (Φ : Cxs P w K mg base E) (cl : Str → Addr) (O : List Nat) (e : Expr) (f : Env → M Bool) : Prop := ∃ t, (∀ i, PT (Φ.X i) e t) ∧ RT K cl E O t f
def MW (Φ : Cxs P w K mg base E) (cl : Str → Addr) (O : List Nat) (e : Expr) (f : Env → M Bool) : Prop := ∃ t, (∀ i, PW (Φ.X i) e t) ∧ RT K cl E O t f
def MA (Φ : Cxs P w K mg base E) (cl : Str → Addr) (O : List Nat) (es : List Expr) (f : Env → M (List D)) : Prop := ∃ t, (∀ i, PA (Φ.X i) es t) ∧ RA K cl E O t f
variable {Φ : Cxs P w K mg base E} {O : List Nat}
/-- what an exception asks is asked of the entry alone -/
theorem RE.intro {t : TE} {f : Env → M D} (h : ∀ F os ρ σ H s Q, os.map (·.1) = O → StOk K F os ρ σ H s → satE K cl E F os ρ σ H Q (f ρ s) → t σ H Q) : RE K cl E O t f := h
/-! names, constants -/
def fVar (i : Nat) (ρ : Env) : M D := match ρ[i]? with
  | some (some d) => ret d
  | _ => bad
def fC (d : D) (_ : Env) : M D := ret d
theorem lookup_none {os : Own} {i : Nat} (h : i ∉ os.map (·.1)) : os.lookup i = none := by
  cases e : os.lookup i with
  | none => rfl
  | some a => exact absurd (List.mem_map.mpr ⟨(i, a), lookup_mem e, rfl⟩) h
theorem me_var {i : Nat} {x : Str} {pos : Pos} (hN : ∀ j, (Φ.X j).N[i]? = some x) (hv : ∀ j, Vis (Φ.X j).env.scope x) (hO : i ∉ O)
    (hd : (x == ("__debug__" : Str)) = false := by decide) (hcd : (x == ("__classdict__" : Str)) = false := by decide) : ME Φ cl O (.Name x pos) (fVar i) := by
  refine ⟨tVar i, fun j => pe_var (hN j) (hv j) hd hcd, fun F os ρ σ H s Q hO2 h q => ?_⟩
  unfold fVar at q
  cases e : ρ[i]? with
  | none =>
    rw [e] at q
    exact q.elim
  | some o =>
    cases o with
    | none =>
      rw [e] at q
      exact q.elim
    | some d =>
      rw [e] at q
      obtain ⟨v, e1, e2⟩ := h.slots i d e
      rw [lookup_none (by rw [hO2]; exact hO)] at e2
      exact ⟨v, e1, q v H Mw.refl h e2⟩
theorem me_int {i j pos} : ME Φ cl O (.Constant (.int i) j pos) (fC (.int i)) := ⟨tC (.int i), fun _ => pe_int, fun F os ρ σ H s Q _ h q => q _ _ Mw.refl h rfl⟩
theorem me_bl {b j pos} : ME Φ cl O (.Constant (.bool b) j pos) (fC (.bl b)) := ⟨tC (.bl b), fun _ => pe_bl, fun F os ρ σ H s Q _ h q => q _ _ Mw.refl h rfl⟩
theorem me_non {j pos} : ME Φ cl O (.Constant .none j pos) (fC .non) := ⟨tC .non, fun _ => pe_non, fun F os ρ σ H s Q _ h q => q _ _ Mw.refl h rfl⟩
theorem me_str {x j pos} : ME Φ cl O (.Constant (.str x) j pos) (fC (.str x)) := ⟨tC (.str x), fun _ => pe_str, fun F os ρ σ H s Q _ h q => q _ _ Mw.refl h rfl⟩
/-- a constant of the module -/
theorem me_globI {x : Str} {i : Int} {tk : Tok} {pos : Pos} (hg : ∀ j, Gl (Φ.X j) x) (hm : mg x = some (.int i tk)) (hd : (x == ("__debug__" : Str)) = false := by decide) : ME Φ cl O (.Name x pos) (fC (.int i)) :=
  ⟨tC (.int i), fun j => pe_glob (v := .int i) (hg j) (by rw [Φ.hmg]; exact hm) ⟨_, rfl⟩ hd, fun F os ρ σ H s Q _ h q => q _ _ Mw.refl h rfl⟩
/-- a class or a def of the module, as a value -/
theorem me_globR {x : Str} {a : Addr} {pos : Pos} (hg : ∀ j, Gl (Φ.X j) x) (hm : mg x = some (.ref a)) (hd : (x == ("__debug__" : Str)) = false := by decide) : ME Φ cl O (.Name x pos) (fC (.ref a)) :=
  ⟨tC (.ref a), fun j => pe_glob (v := .ref a) (hg j) (by rw [Φ.hmg]; exact hm) rfl hd, fun F os ρ σ H s Q _ h q => q _ _ Mw.refl h rfl⟩
theorem me_ty {x : Str} {n : String} {pos : Pos} (hg : ∀ j, Gl (Φ.X j) x) (hm : mg x = none) (hv : bootBuiltins x = some (.type n)) (hn : x ≠ "__name__" := by decide) (hd : (x == ("__debug__" : Str)) = false := by decide) :
    ME Φ cl O (.Name x pos) (fC (.ty n)) :=
  ⟨tC (.ty n), fun j => pe_bltn (v := .ty n) (hg j) (by rw [Φ.hmg]; exact hm) hv rfl hn hd, fun F os ρ σ H s Q _ h q => q _ _ Mw.refl h rfl⟩
/-! two expressions -/
@[reducible] def lift {α : Type} (o : Option α) : M α := fun s => match o with
  | some d => .ok d s
  | none => .bad
def fOp (g : D → D → Option D) (f h : Env → M D) (ρ : Env) : M D := bnd (f ρ) fun x => bnd (h ρ) fun y => lift (g x y)
/-- an operation by values -/
def RO (K : Fr) (r : R2) (g : D → D → Option D) : Prop := ∀ (F : Frm) (os : Own) (ρ : Env) (σ : L2.St) (H : Hp) (s : BS) (Q : VK) (x y : V) (dx dy d : D), StOk K F os ρ σ H s →
  Rep K (hid (wld F os) H) dx x → Rep K (hid (wld F os) H) dy y → g dx dy = some d → (∀ v H', Mw F.q H H' → StOk K F os ρ σ H' s → Rep K (hid (wld F os) H') d v → Q v H') → r x y H Q
theorem rep_mv {F : Frm} {os : Own} {ρ : Env} {σ : L2.St} {H H' : Hp} {s : BS} (h : StOk K F os ρ σ H s) (m : Mw F.q H H') {d : D} {v : V} (r : Rep K (hid (wld F os) H) d v) : Rep K (hid (wld F os) H') d v :=
  Rep.mono (hid_mv h.qW m) d r
theorem repL_mv {F : Frm} {os : Own} {ρ : Env} {σ : L2.St} {H H' : Hp} {s : BS} (h : StOk K F os ρ σ H s) (m : Mw F.q H H') {d : List D} {v : List V} (r : RepL K (hid (wld F os) H) d v) : RepL K (hid (wld F os) H') d v :=
  RepL.mono (hid_mv h.qW m) d r
theorem r_op {r : R2} {g : D → D → Option D} {ta tb : TE} {f h : Env → M D} (ro : RO K r g) (ha : RE K cl E O ta f) (hb : RE K cl E O tb h) : RE K cl E O (tOp r ta tb) (fOp g f h) := by
  intro F os ρ σ H s Q hO st q
  unfold fOp at q
  refine ha F os ρ σ H s _ hO st ?_
  cases e : f ρ s with
  | bad =>
    simp only [bnd, e] at q
    exact q
  | exc nm fs s1 =>
    simp only [bnd, e] at q
    exact q
  | ok d s1 =>
    simp only [bnd, e] at q
    intro v H1 m1 st1 r1
    refine hb F os ρ σ H1 s1 _ hO st1 ?_
    cases e2 : h ρ s1 with
    | bad =>
      simp only [e2] at q
      exact q
    | exc nm fs s2 =>
      simp only [e2] at q
      exact q
    | ok d2 s2 =>
      simp only [e2] at q
      intro v2 H2 m2 st2 r2
      cases e3 : g d d2 with
      | none =>
        simp only [lift, e3] at q
        exact q.elim
      | some d3 =>
        simp only [lift, e3] at q
        exact ro F os ρ σ H2 s2 Q v v2 d d2 d3 st2 (rep_mv st1 m2 r1) r2 e3 fun v3 H3 m3 st3 r3 => q v3 H3 (m1.trans (m2.trans m3)) st3 r3
theorem me_op {op : Operator} {r : R2} {g : D → D → Option D} {a b : Expr} {f h : Env → M D} {pos : Pos} (ho : ∀ j, OpR (Φ.X j) (binaryOp op) r) (ro : RO K r g) (ha : ME Φ cl O a f) (hb : ME Φ cl O b h) : ME Φ cl O (.BinOp a op b pos) (fOp g f h) := by
  obtain ⟨ta, pa, ra⟩ := ha
  obtain ⟨tb, pb, rb⟩ := hb
  exact ⟨_, fun j => pe_op (ho j) (pa j) (pb j), r_op ro ra rb⟩
theorem me_cmp {op : CmpOp} {r : R2} {g : D → D → Option D} {a b : Expr} {f h : Env → M D} {pos : Pos} (ho : ∀ j, OpR (Φ.X j) (compareOp op) r) (ro : RO K r g) (ha : ME Φ cl O a f) (hb : ME Φ cl O b h) (hm : behindInMarks op b = false) :
    ME Φ cl O (.Compare a [op] [b] pos) (fOp g f h) := by
  obtain ⟨ta, pa, ra⟩ := ha
  obtain ⟨tb, pb, rb⟩ := hb
  exact ⟨_, fun j => pe_cmpR (ho j) (pa j) (pb j) hm, r_op ro ra rb⟩
theorem me_ix {r : R2} {g : D → D → Option D} {a b : Expr} {f h : Env → M D} {pos : Pos} (ho : ∀ j, IxR (Φ.X j) r) (ro : RO K r g) (ha : ME Φ cl O a f) (hb : ME Φ cl O b h) (hs : PlainIx b) : ME Φ cl O (.Subscript a b pos) (fOp g f h) := by
  obtain ⟨ta, pa, ra⟩ := ha
  obtain ⟨tb, pb, rb⟩ := hb
  exact ⟨_, fun j => pe_ix (ho j) (pa j) (pb j) hs, r_op ro ra rb⟩
/-! tests -/
def fTr (f : Env → M D) (ρ : Env) : M Bool := bnd (f ρ) fun d => match d with
  | .bl b => ret b
  | _ => bad
theorem r_test {t : TE} {f : Env → M D} (h : RE K cl E O t f) : RT K cl E O (fun σ H Q => t σ H fun x H1 => ∃ c, x = .bl c ∧ Q c H1) (fTr f) := by
  intro F os ρ σ H s Q hO st q
  unfold fTr at q
  refine h F os ρ σ H s _ hO st ?_
  cases e : f ρ s with
  | bad =>
    simp only [bnd, e] at q
    exact q
  | exc nm fs s1 =>
    simp only [bnd, e] at q
    exact q
  | ok d s1 =>
    simp only [bnd, e] at q
    intro v H1 m1 st1 r1
    cases d with
    | bl b =>
      have r1 : v = .bl b := r1
      subst r1
      exact ⟨b, rfl, q H1 m1 st1⟩
    | _ => exact q.elim
theorem mt_val {e : Expr} {f : Env → M D} (h : ME Φ cl O e f) (he : ∀ env whole, isTrue e env whole = (do let v ← whole; standAt e.pos; holding [v] (truthy v)) := by intro _ _; rfl) : MT Φ cl O e (fTr f) := by
  obtain ⟨t, p, r⟩ := h
  exact ⟨_, fun j => pt_val (p j) fun wh => he _ wh, r_test r⟩
theorem mt_cmp {op : CmpOp} {r : R2} {g : D → D → Option D} {a b : Expr} {f h : Env → M D} {pos : Pos} (ho : ∀ j, OpR (Φ.X j) (compareOp op) r) (ro : RO K r g) (ha : ME Φ cl O a f) (hb : ME Φ cl O b h) (hm : behindInMarks op b = false) :
    MT Φ cl O (.Compare a [op] [b] pos) (fTr (fOp g f h)) := by
  obtain ⟨ta, pa, ra⟩ := ha
  obtain ⟨tb, pb, rb⟩ := hb
  exact ⟨_, fun j => pt_cmpR (ho j) (pa j) (pb j) hm, r_test (r_op ro ra rb)⟩
def fNotT (f : Env → M Bool) (ρ : Env) : M Bool := bnd (f ρ) fun b => ret (!b)
theorem mt_not {e : Expr} {f : Env → M Bool} {pos : Pos} (h : MT Φ cl O e f) : MT Φ cl O (.UnaryOp .Not e pos) (fNotT f) := by
  obtain ⟨t, p, r⟩ := h
  refine ⟨_, fun j => pt_not (p j), fun F os ρ σ H s Q hO st q => ?_⟩
  unfold fNotT at q
  refine r F os ρ σ H s _ hO st ?_
  cases e : f ρ s with
  | bad =>
    simp only [bnd, e] at q
    exact q
  | exc nm fs s1 =>
    simp only [bnd, e] at q
    exact q
  | ok d s1 =>
    simp only [bnd, e] at q
    exact fun H1 m1 st1 => q H1 m1 st1
def fAndT (f g : Env → M Bool) (ρ : Env) : M Bool := bnd (f ρ) fun b => if b = true then g ρ else ret false
def fOrT (f g : Env → M Bool) (ρ : Env) : M Bool := bnd (f ρ) fun b => if b = true then ret true else g ρ
theorem r_and {t u : TT} {f g : Env → M Bool} (h : RT K cl E O t f) (h2 : RT K cl E O u g) : RT K cl E O (tAnd t u) (fAndT f g) := by
  intro F os ρ σ H s Q hO st q
  unfold fAndT at q
  refine h F os ρ σ H s _ hO st ?_
  cases e : f ρ s with
  | bad =>
    simp only [bnd, e] at q
    exact q
  | exc nm fs s1 =>
    simp only [bnd, e] at q
    exact q
  | ok b s1 =>
    simp only [bnd, e] at q
    intro H1 m1 st1
    cases b with
    | false =>
      rw [if_neg (by decide)] at q ⊢
      exact q H1 m1 st1
    | true =>
      rw [if_pos rfl] at q ⊢
      refine h2 F os ρ σ H1 s1 _ hO st1 ?_
      cases e2 : g ρ s1 with
      | bad =>
        rw [e2] at q
        exact q
      | exc nm fs s2 =>
        rw [e2] at q
        exact q
      | ok b2 s2 =>
        rw [e2] at q
        exact fun H2 m2 st2 => q H2 (m1.trans m2) st2
theorem r_or {t u : TT} {f g : Env → M Bool} (h : RT K cl E O t f) (h2 : RT K cl E O u g) : RT K cl E O (tOr t u) (fOrT f g) := by
  intro F os ρ σ H s Q hO st q
  unfold fOrT at q
  refine h F os ρ σ H s _ hO st ?_
  cases e : f ρ s with
  | bad =>
    simp only [bnd, e] at q
    exact q
  | exc nm fs s1 =>
    simp only [bnd, e] at q
    exact q
  | ok b s1 =>
    simp only [bnd, e] at q
    intro H1 m1 st1
    cases b with
    | true =>
      rw [if_pos rfl] at q ⊢
      exact q H1 m1 st1
    | false =>
      rw [if_neg (by decide)] at q ⊢
      refine h2 F os ρ σ H1 s1 _ hO st1 ?_
      cases e2 : g ρ s1 with
      | bad =>
        rw [e2] at q
        exact q
      | exc nm fs s2 =>
        rw [e2] at q
        exact q
      | ok b2 s2 =>
        rw [e2] at q
        exact fun H2 m2 st2 => q H2 (m1.trans m2) st2
section
variable {a b : Expr} {rest : List Expr} {pos : Pos} {f g : Env → M Bool}
theorem mw_pt {e : Expr} (h : MW Φ cl O e f) : MT Φ cl O e f := let ⟨t, p, r⟩ := h; ⟨t, fun j => (p j).pt, r⟩
theorem mw_and1 (h : MT Φ cl O a f) : MW Φ cl O (.BoolOp .And [a] pos) f := let ⟨t, p, r⟩ := h; ⟨t, fun j => pw_and1 (p j), r⟩
theorem mw_or1 (h : MT Φ cl O a f) : MW Φ cl O (.BoolOp .Or [a] pos) f := let ⟨t, p, r⟩ := h; ⟨t, fun j => pw_or1 (p j), r⟩
theorem mw_and (h : MT Φ cl O a f) (h2 : MW Φ cl O (.BoolOp .And (b :: rest) pos) g) : MW Φ cl O (.BoolOp .And (a :: b :: rest) pos) (fAndT f g) :=
  let ⟨t, p, r⟩ := h; let ⟨t2, p2, r2⟩ := h2; ⟨_, fun j => pw_and (p j) (p2 j), r_and r r2⟩
theorem mw_or (h : MT Φ cl O a f) (h2 : MW Φ cl O (.BoolOp .Or (b :: rest) pos) g) : MW Φ cl O (.BoolOp .Or (a :: b :: rest) pos) (fOrT f g) :=
  let ⟨t, p, r⟩ := h; let ⟨t2, p2, r2⟩ := h2; ⟨_, fun j => pw_or (p j) (p2 j), r_or r r2⟩
end
end
end Dm

namespace Dm
open PySem PySem.Spec PyProof.Rows L2 My
/-! ### data -/
mutual
def py : D → PyData
  | .non => .none
  | .bl b => .bool b
  | .int i => .int i
  | .str x => .str x
  | .lst l => .list (pyL l)
  | .tup l => .tuple (pyL l)
  | .tup0 l => .tuple (pyL l)
  | .ty _ => .none
  | .ref _ => .none
  | .dic _ => .none
  | .dct _ => .none
  | .ins _ _ => .none
  | .rng _ _ => .none
def pyL : List D → List PyData
  | [] => []
  | d :: l => py d :: pyL l
end
mutual
def isData : D → Bool
  | .non => true
  | .bl _ => true
  | .int _ => true
  | .str _ => true
  | .lst l => isDataL l
  | .tup l => isDataL l
  | .tup0 l => isDataL l
  | .ty _ => false
  | .ref _ => false
  | .dic _ => false
  | .dct _ => false
  | .ins _ _ => false
  | .rng _ _ => false
def isDataL : List D → Bool
  | [] => true
  | d :: l => isData d && isDataL l
end
mutual
theorem rep_dp {K : Fr} {H : Hp} : ∀ (d : D) {v : V}, isData d = true → Rep K H d v → Dp K H v (py d)
  | .non, _, _, h => by
    have h : _ = V.non := h
    rw [h]
    exact .non
  | .bl b, _, _, h => by
    have h : _ = V.bl b := h
    rw [h]
    exact .bl b
  | .int i, _, _, h => by
    have h : _ = V.int i := h
    rw [h]
    exact .int i
  | .str x, _, _, h => by
    have h : _ = V.str x := h
    rw [h]
    exact .str x
  | .lst l, _, g, h => by
    obtain ⟨a, vs, rfl, h1, h2⟩ := h
    exact .lst (seqL h1) (repL_dp l g h2)
  | .tup l, _, g, h => by
    obtain ⟨a, vs, rfl, h1, h2⟩ := h
    exact .tup (seqT (.inr h1)) (repL_dp l g h2)
  | .tup0 l, _, g, h => by
    obtain ⟨a, vs, rfl, h1, h2⟩ := h
    exact .tup h1 (repL_dp l g h2)
  | .ty _, _, g, _ => by cases g
  | .ref _, _, g, _ => by cases g
  | .dic _, _, g, _ => by cases g
  | .dct _, _, g, _ => by cases g
  | .ins _ _, _, g, _ => by cases g
  | .rng _ _, _, g, _ => by cases g
theorem repL_dp {K : Fr} {H : Hp} : ∀ (l : List D) {vs : List V}, isDataL l = true → RepL K H l vs → DpAll K H vs (pyL l)
  | [], _, _, h => by
    have h : _ = [] := h
    rw [h]
    exact .nil
  | d :: l, _, g, h => by
    obtain ⟨v, r, rfl, h1, h2⟩ := h
    have g : (isData d && isDataL l) = true := g
    rw [Bool.and_eq_true] at g
    exact .cons (rep_dp d g.1 h1) (repL_dp l g.2 h2)
end
mutual
theorem Dp.mono2 {K : Fr} {H H' : Hp} (s : Same H H') : ∀ (d : PyData) {v : V}, Dp K H v d → Dp K H' v d
  | .none, _, h => by
    cases h
    exact .non
  | .bool b, _, h => by
    cases h
    exact .bl b
  | .int i, _, h => by
    cases h
    exact .int i
  | .str x, _, h => by
    cases h
    exact .str x
  | .list l, _, h => by
    cases h with
    | lst h1 h2 => exact .lst (sqL_mono s h1) (DpAll.mono2 s l h2)
  | .tuple l, _, h => by
    cases h with
    | tup h1 h2 => exact .tup (sqT_mono s h1) (DpAll.mono2 s l h2)
  | .dict l, _, h => by cases h
theorem DpAll.mono2 {K : Fr} {H H' : Hp} (s : Same H H') : ∀ (l : List PyData) {vs : List V}, DpAll K H vs l → DpAll K H' vs l
  | [], _, h => by
    cases h
    exact .nil
  | d :: l, _, h => by
    cases h with
    | cons h1 h2 => exact .cons (Dp.mono2 s d h1) (DpAll.mono2 s l h2)
end
def good (d : D) : Bool := isData d && SeqAt.shaped (py d)
def deq (x y : D) : Bool := PyData.eqv (py x) (py y)
def eqD (x y : D) : Option D := if (good x && good y) = true then some (.bl (deq x y)) else none
def neD (x y : D) : Option D := if (good x && good y) = true then some (.bl (!deq x y)) else none
section
variable {K : Fr} {F : Frm} {os : Own} {ρ : Env} {σ : L2.St} {H : Hp} {s : BS}
theorem StOk.same (h : StOk K F os ρ σ H s) : Same (hid (wld F os) H) H := hid_same _ _
theorem good_dp {d : D} {v : V} (g : good d = true) (r : Rep K (hid (wld F os) H) d v) : Dp K H v (py d) ∧ SeqAt.shaped (py d) = true := by
  unfold good at g
  rw [Bool.and_eq_true] at g
  exact ⟨Dp.mono2 (hid_same _ _) _ (rep_dp d g.1 r), g.2⟩
end
theorem ro_eq {K : Fr} : RO K (rEqD K) eqD := by
  intro F os ρ σ H s Q x y dx dy d st rx ry e q
  unfold eqD at e
  split at e
  · next g =>
    rw [Bool.and_eq_true] at g
    cases e
    obtain ⟨h1, h2⟩ := good_dp g.1 rx
    obtain ⟨h3, h4⟩ := good_dp g.2 ry
    exact ⟨_, _, h1, h3, h2, h4, q _ H Mw.refl st rfl⟩
  · cases e
theorem ro_ne {K : Fr} : RO K (rNeD K) neD := by
  intro F os ρ σ H s Q x y dx dy d st rx ry e q
  unfold neD at e
  split at e
  · next g =>
    rw [Bool.and_eq_true] at g
    cases e
    obtain ⟨h1, h2⟩ := good_dp g.1 rx
    obtain ⟨h3, h4⟩ := good_dp g.2 ry
    exact ⟨_, _, h1, h3, h2, h4, q _ H Mw.refl st rfl⟩
  · cases e
/-! in, not in -/
def flatD : D → Bool
  | .non => true
  | .bl _ => true
  | .int _ => true
  | .str _ => true
  | _ => false
def vOf : D → V
  | .bl b => .bl b
  | .int i => .int i
  | .str x => .str x
  | _ => .non
theorem flat_v {K : Fr} {H : Hp} {d : D} {v : V} (f : flatD d = true) (r : Rep K H d v) : v = vOf d ∧ flatV v = true := by
  cases d with
  | non =>
    have r : v = .non := r
    exact ⟨r, by rw [r]; rfl⟩
  | bl b =>
    have r : v = .bl b := r
    exact ⟨r, by rw [r]; rfl⟩
  | int b =>
    have r : v = .int b := r
    exact ⟨r, by rw [r]; rfl⟩
  | str b =>
    have r : v = .str b := r
    exact ⟨r, by rw [r]; rfl⟩
  | _ => cases f
theorem flat_vs {K : Fr} {H : Hp} : ∀ {l : List D} {vs : List V}, l.all flatD = true → RepL K H l vs → vs = l.map vOf ∧ vs.all flatV = true
  | [], _, _, h => by
    have h : _ = [] := h
    rw [h]
    exact ⟨rfl, rfl⟩
  | d :: l, _, g, h => by
    obtain ⟨v, r, rfl, h1, h2⟩ := h
    rw [List.all_cons, Bool.and_eq_true] at g
    obtain ⟨e1, f1⟩ := flat_v g.1 h1
    obtain ⟨e2, f2⟩ := flat_vs g.2 h2
    rw [List.map_cons, List.all_cons, f1, f2, ← e1, ← e2]
    exact ⟨rfl, rfl⟩
def inB (x : D) : D → Option Bool
  | .lst l => if (good x && good (.lst l)) = true then some (l.any fun z => PyData.eqv (py z) (py x)) else none
  | .tup l => if (flatD x && l.all flatD) = true then some (l.any fun z => eqV (vOf z) (vOf x)) else none
  | .tup0 l => if (flatD x && l.all flatD) = true then some (l.any fun z => eqV (vOf z) (vOf x)) else none
  | .str t => match x with
    | .str z => some (!(Builtin.Str.occurrences t z 0 t.length 1).isEmpty)
    | _ => none
  | _ => none
def inD (x y : D) : Option D := (inB x y).map D.bl
def notInD (x y : D) : Option D := (inB x y).map fun b => D.bl (!b)
theorem any_py (x : PyData) : ∀ l : List D, (pyL l).any (fun z => PyData.eqv z x) = l.any fun z => PyData.eqv (py z) x
  | [] => rfl
  | d :: l => by
    show (py d :: pyL l).any _ = _
    rw [List.any_cons, List.any_cons, any_py x l]
def rInA (K : Fr) : R2 := fun x y H Q => rInD K x y H Q ∨ rIn K false x y H Q ∨ ∃ i j, x = .str i ∧ y = .str j ∧ Q (.bl (!(Builtin.Str.occurrences j i 0 j.length 1).isEmpty)) H
def rNotInA (K : Fr) : R2 := fun x y H Q => rNotInD K x y H Q ∨ rIn K true x y H Q ∨ ∃ i j, x = .str i ∧ y = .str j ∧ Q (.bl (!(!(Builtin.Str.occurrences j i 0 j.length 1).isEmpty))) H
theorem op_inA {X : Cx} (hu : X.A.units + 65 < cLine) : OpR X (compareOp .In) (rInA X.K) := (op_inD hu).or (op_in_seq.or op_in_str)
theorem op_notInA {X : Cx} (hu : X.A.units + 65 < cLine) : OpR X (compareOp .NotIn) (rNotInA X.K) := (op_notInD hu).or (op_notIn_seq.or op_notin_str)
theorem in_cases {K : Fr} {F : Frm} {os : Own} {H : Hp} {x y : V} {dx dy : D} {b : Bool} (rx : Rep K (hid (wld F os) H) dx x) (ry : Rep K (hid (wld F os) H) dy y) (e : inB dx dy = some b) :
    (∃ d ds, Dp K H x d ∧ Dp K H y (.list ds) ∧ SeqAt.shaped d = true ∧ SeqAt.shaped (.list ds) = true ∧ (ds.any fun z => PyData.eqv z d) = b) ∨
    (∃ p xs, y = .ref p ∧ (SqL K H p xs ∨ SqT K H p xs) ∧ flatV x = true ∧ xs.all flatV = true ∧ inV x xs = b) ∨
    ∃ i j, x = .str i ∧ y = .str j ∧ (!(Builtin.Str.occurrences j i 0 j.length 1).isEmpty) = b := by
  have tupc : ∀ l, (if (flatD dx && l.all flatD) = true then some (l.any fun z => eqV (vOf z) (vOf dx)) else none) = some b →
      (∃ p xs, y = .ref p ∧ SqT K H p xs ∧ RepL K (hid (wld F os) H) l xs) →
      ∃ p xs, y = .ref p ∧ (SqL K H p xs ∨ SqT K H p xs) ∧ flatV x = true ∧ xs.all flatV = true ∧ inV x xs = b := by
    intro l e ⟨p, xs, ey, hp, hl⟩
    split at e
    · next g =>
      rw [Bool.and_eq_true] at g
      obtain ⟨e1, f1⟩ := flat_v g.1 rx
      obtain ⟨e2, f2⟩ := flat_vs g.2 hl
      refine ⟨p, xs, ey, .inr hp, f1, f2, ?_⟩
      rw [← Option.some.inj e, e1, e2]
      unfold inV
      rw [List.any_map]
      rfl
    · cases e
  cases dy with
  | lst l =>
    have e : (if (good dx && good (.lst l)) = true then some (l.any fun z => PyData.eqv (py z) (py dx)) else none) = some b := e
    split at e
    · next g =>
      rw [Bool.and_eq_true] at g
      obtain ⟨h1, h2⟩ := good_dp g.1 rx
      obtain ⟨h3, h4⟩ := good_dp g.2 ry
      refine .inl ⟨_, _, h1, h3, h2, h4, ?_⟩
      rw [any_py]
      exact Option.some.inj e
    · cases e
  | tup l =>
    obtain ⟨a, vs, ey, h1, h2⟩ := ry
    exact .inr (.inl (tupc l e ⟨a, vs, ey, seqT (.inr (h1.mono (hid_same _ _))), h2⟩))
  | tup0 l =>
    obtain ⟨a, vs, ey, h1, h2⟩ := ry
    exact .inr (.inl (tupc l e ⟨a, vs, ey, sqT_mono (hid_same _ _) h1, h2⟩))
  | str t =>
    cases dx with
    | str z =>
      exact .inr (.inr ⟨z, t, rx, ry, Option.some.inj e⟩)
    | _ => cases e
  | _ => cases e
theorem ro_in {K : Fr} : RO K (rInA K) inD := by
  intro F os ρ σ H s Q x y dx dy d st rx ry e q
  unfold inD at e
  obtain ⟨b, e1, rfl⟩ := Option.map_eq_some_iff.mp e
  have qq := q (.bl b) H Mw.refl st rfl
  rcases in_cases rx ry e1 with ⟨d, ds, h1, h2, h3, h4, h5⟩ | ⟨p, xs, h1, h2, h3, h4, h5⟩ | ⟨i, j, h1, h2, h5⟩
  · exact .inl ⟨d, ds, h1, h2, h3, h4, by rw [h5]; exact qq⟩
  · refine .inr (.inl ⟨p, xs, h1, h2, h3, h4, ?_⟩)
    rw [if_neg (by decide), h5]
    exact qq
  · exact .inr (.inr ⟨i, j, h1, h2, by rw [h5]; exact qq⟩)
theorem ro_notIn {K : Fr} : RO K (rNotInA K) notInD := by
  intro F os ρ σ H s Q x y dx dy d st rx ry e q
  unfold notInD at e
  obtain ⟨b, e1, rfl⟩ := Option.map_eq_some_iff.mp e
  have qq := q (.bl (!b)) H Mw.refl st rfl
  rcases in_cases rx ry e1 with ⟨d, ds, h1, h2, h3, h4, h5⟩ | ⟨p, xs, h1, h2, h3, h4, h5⟩ | ⟨i, j, h1, h2, h5⟩
  · exact .inl ⟨d, ds, h1, h2, h3, h4, by rw [h5]; exact qq⟩
  · refine .inr (.inl ⟨p, xs, h1, h2, h3, h4, ?_⟩)
    rw [if_pos rfl, h5]
    exact qq
  · exact .inr (.inr ⟨i, j, h1, h2, by rw [h5]; exact qq⟩)
/-! order -/
def ltD : D → D → Option D
  | .int i, .int j => some (.bl (decide (i < j)))
  | _, _ => none
def leD : D → D → Option D
  | .int i, .int j => some (.bl (decide (i ≤ j)))
  | _, _ => none
def gtD : D → D → Option D
  | .int i, .int j => some (.bl (decide (j < i)))
  | _, _ => none
def geD : D → D → Option D
  | .int i, .int j => some (.bl (decide (j ≤ i)))
  | _, _ => none
theorem ro_i0 {K : Fr} {g : Int → Int → V} {gd : D → D → Option D} (h : ∀ dx dy d, gd dx dy = some d → ∃ i j, dx = .int i ∧ dy = .int j ∧ ∀ H, Rep K H d (g i j)) : RO K (rI0 g) gd := by
  intro F os ρ σ H s Q x y dx dy d st rx ry e q
  obtain ⟨i, j, rfl, rfl, h1⟩ := h dx dy d e
  exact ⟨i, j, rx, ry, q _ H Mw.refl st (h1 _)⟩
theorem two_ints {α : Type} {f : Int → Int → α} {dx dy : D} {d : α} (e : (match dx, dy with | .int i, .int j => some (f i j) | _, _ => none) = some d) : ∃ i j, dx = .int i ∧ dy = .int j ∧ f i j = d := by
  cases dx with
  | int i =>
    cases dy with
    | int j => exact ⟨i, j, rfl, rfl, Option.some.inj e⟩
    | _ => cases e
  | _ => cases e
theorem ro_lt {K : Fr} : RO K (rI0 fun i j => .bl (decide (i < j))) ltD := ro_i0 fun dx dy d e => by
  obtain ⟨i, j, h1, h2, h3⟩ := two_ints (f := fun i j => D.bl (decide (i < j))) e
  exact ⟨i, j, h1, h2, fun H => by rw [← h3]; rfl⟩
theorem ro_le {K : Fr} : RO K (rI0 fun i j => .bl (decide (i ≤ j))) leD := ro_i0 fun dx dy d e => by
  obtain ⟨i, j, h1, h2, h3⟩ := two_ints (f := fun i j => D.bl (decide (i ≤ j))) e
  exact ⟨i, j, h1, h2, fun H => by rw [← h3]; rfl⟩
theorem ro_gt {K : Fr} : RO K (rI0 fun i j => .bl (decide (j < i))) gtD := ro_i0 fun dx dy d e => by
  obtain ⟨i, j, h1, h2, h3⟩ := two_ints (f := fun i j => D.bl (decide (j < i))) e
  exact ⟨i, j, h1, h2, fun H => by rw [← h3]; rfl⟩
theorem ro_ge {K : Fr} : RO K (rI0 fun i j => .bl (decide (j ≤ i))) geD := ro_i0 fun dx dy d e => by
  obtain ⟨i, j, h1, h2, h3⟩ := two_ints (f := fun i j => D.bl (decide (j ≤ i))) e
  exact ⟨i, j, h1, h2, fun H => by rw [← h3]; rfl⟩
/-! is -/
theorem ite_some {α : Type} {c : Bool} {a d : α} (e : (if c = true then some a else none) = some d) : c = true ∧ a = d := by
  cases c with
  | true => exact ⟨rfl, Option.some.inj e⟩
  | false => cases e
def isNonD : D → Bool
  | .non => true
  | _ => false
def isD (x : D) : D → Option D
  | .non => some (.bl (isNonD x))
  | .bl b => match x with
    | .bl a => some (.bl (decide (a = b)))
    | _ => none
  | _ => none
def isNotD (x y : D) : Option D := match isD x y with
  | some (.bl b) => some (.bl (!b))
  | _ => none
theorem rep_non {K : Fr} {H : Hp} {d : D} {v : V} (r : Rep K H d v) : decide (v = .non) = isNonD d := by
  cases d with
  | non =>
    have r : v = .non := r
    rw [r]
    rfl
  | bl b =>
    have r : v = .bl b := r
    rw [r]
    rfl
  | int b =>
    have r : v = .int b := r
    rw [r]
    rfl
  | str b =>
    have r : v = .str b := r
    rw [r]
    rfl
  | ty b =>
    have r : v = .ty b := r
    rw [r]
    rfl
  | ref b =>
    have r : v = .ref b := r
    rw [r]
    rfl
  | lst l =>
    obtain ⟨a, _, rfl, _⟩ := r
    rfl
  | tup l =>
    obtain ⟨a, _, rfl, _⟩ := r
    rfl
  | tup0 l =>
    obtain ⟨a, _, rfl, _⟩ := r
    rfl
  | dic l =>
    obtain ⟨a, _, rfl, _⟩ := r
    rfl
  | dct l =>
    obtain ⟨a, _, rfl, _⟩ := r
    rfl
  | ins C l =>
    obtain ⟨a, _, _, _, rfl, _⟩ := r
    rfl
  | rng i j =>
    obtain ⟨a, rfl, _⟩ := r
    rfl
def rIsA : R2 := fun x y H Q => (y = .non ∧ Q (.bl (decide (x = .non))) H) ∨ ∃ a b, x = .bl a ∧ y = .bl b ∧ Q (.bl (decide (a = b))) H
theorem op_isA {X : Cx} : OpR X (compareOp .Is) rIsA := op_isN.or op_is_bl
theorem ro_is {K : Fr} : RO K rIsA isD := by
  intro F os ρ σ H s Q x y dx dy d st rx ry e q
  cases dy with
  | non =>
    refine .inl ⟨ry, ?_⟩
    rw [rep_non rx]
    cases e
    exact q _ H Mw.refl st rfl
  | bl b =>
    cases dx with
    | bl a =>
      cases e
      exact .inr ⟨a, b, rx, ry, q _ H Mw.refl st rfl⟩
    | _ => cases e
  | _ => cases e
def rIsNotN : R2 := fun x y H Q => y = .non ∧ Q (.bl (!decide (x = .non))) H
def isNotN (x : D) : D → Option D
  | .non => some (.bl (!isNonD x))
  | _ => none
theorem ro_isNotN {K : Fr} : RO K rIsNotN isNotN := by
  intro F os ρ σ H s Q x y dx dy d st rx ry e q
  cases dy with
  | non =>
    refine ⟨ry, ?_⟩
    rw [rep_non rx]
    cases e
    exact q _ H Mw.refl st rfl
  | _ => cases e
/-! arithmetic -/
def szOk (n : Nat) : Bool := decide (n ≤ 16000000)
theorem szOk_lt {n : Nat} (h : szOk n = true) : n < sizeLine := by
  have := of_decide_eq_true h
  rw [sizeLine_eq]
  omega
def addD : D → D → Option D
  | .int i, .int j => some (.int (i + j))
  | .lst l, .lst m => if szOk (l.length + m.length) = true then some (.lst (l ++ m)) else none
  | .tup l, .tup m => if szOk (l.length + m.length) = true then some (.tup (l ++ m)) else none
  | .tup0 l, .tup (m :: n) => if (szOk (l.length + (m :: n).length)) = true then some (.tup (l ++ m :: n)) else none
  | .tup (l :: k), .tup0 (m :: n) => if (szOk ((l :: k).length + (m :: n).length)) = true then some (.tup (l :: k ++ m :: n)) else none
  | .str x, .str y => if szOk (x.length + y.length) = true then some (.str (x ++ y)) else none
  | _, _ => none
/-- t + u; what is new is nothing but a tuple -/
def rCatN (K : Fr) : R2 := fun x y H Q => ∃ a b xs ys, x = .ref a ∧ y = .ref b ∧ SqT K H a xs ∧ SqT K H b ys ∧ xs.length + ys.length ≤ sizeLine ∧
  (xs = [] → Q (.ref b) H) ∧ (xs ≠ [] → ys = [] → Q (.ref a) H) ∧ (xs ≠ [] → ys ≠ [] → ∀ p o, H p = none → o.dict = none → Q (.ref p) (upd H p (.frz o (.tup (xs ++ ys)))))
theorem op_catN {X : Cx} : OpR X (binaryOp .Add) (rCatN X.K) := by
  intro pins s σ H x y v u Q I rx ry h
  obtain ⟨a, b, xs, ys, rfl, rfl, ha, hb, hz, q0, q1, q2⟩ := h
  by_cases hx : xs = []
  · subst hx
    cases rx
    cases ry
    obtain ⟨its, r1, p1, _⟩ := I.tuple ha
    obtain ⟨its2, r2, p2, _⟩ := I.tuple hb
    cases r1
    exact cat_tup0 p1 p2 ⟨.ref b, H, I, rfl, q0 rfl⟩
  · cases rx
    cases ry
    obtain ⟨its, r1, p1, _⟩ := I.tuple ha
    obtain ⟨its2, r2, p2, _⟩ := I.tuple hb
    refine HT.cat_tup p1 p2 (fun z => hx (r1.nil_iff.mp z)) (fun z => ⟨.ref a, H, I, rfl, q1 hx (r2.nil_iff.mp z)⟩) (fun z => ?_) (by rw [← r1.length, ← r2.length]; exact hz)
    have r3 := r1.append r2
    refine ⟨.ref s.heap.objs.size, _, I.laid (t' := s.toks) (o := .frz { cls := .type "tuple", data := .seq (its ++ its2).toArray } (.tup (xs ++ ys))) (fun b ob q => Heap.get?_push_of_some _ q) (Nat.le_refl _) ?_, rfl, q2 hx (fun e => z (r2.nil_iff.mpr e)) _ _ (I.hok.fresh (Nat.le_refl _)) rfl⟩
    exact ⟨Heap.get?_push_size _ rfl, by rw [List.length_append]; exact hz, _, r3, IsTup.new _ _⟩
def rAddA (K : Fr) : R2 := fun x y H Q => rI0 (fun i j => .int (i + j)) x y H Q ∨ rCat x y H Q ∨ rCatN K x y H Q ∨ ∃ i j, x = .str i ∧ y = .str j ∧ i.length + j.length ≤ sizeLine ∧ Q (.str (i ++ j)) H
theorem op_addA {X : Cx} : OpR X (binaryOp .Add) (rAddA X.K) := op_add.or (op_cat.or (op_catN.or op_add_str))
theorem mv_new {q : Addr} {H : Hp} {p : Addr} {o : HO} (np : H p = none) : Mw q H (upd H p o) := Mw.of (same_new np)
theorem rep_new {K : Fr} {F : Frm} {os : Own} {ρ : Env} {σ : L2.St} {H : Hp} {s : BS} (st : StOk K F os ρ σ H s) {p : Addr} {o : HO} (np : H p = none) {d : D} {v : V} (r : Rep K (hid (wld F os) H) d v) : Rep K (hid (wld F os) (upd H p o)) d v :=
  rep_mv st (mv_new np) r
theorem repL_new {K : Fr} {F : Frm} {os : Own} {ρ : Env} {σ : L2.St} {H : Hp} {s : BS} (st : StOk K F os ρ σ H s) {p : Addr} {o : HO} (np : H p = none) {d : List D} {v : List V} (r : RepL K (hid (wld F os) H) d v) : RepL K (hid (wld F os) (upd H p o)) d v :=
  repL_mv st (mv_new np) r
/-- a new list, a new tuple -/
theorem new_lst {K : Fr} {F : Frm} {os : Own} {ρ : Env} {σ : L2.St} {H : Hp} {s : BS} (st : StOk K F os ρ σ H s) {Q : VK} {l : List D} {vs : List V} (r : RepL K (hid (wld F os) H) l vs)
    (q : ∀ v H', Mw F.q H H' → StOk K F os ρ σ H' s → Rep K (hid (wld F os) H') (.lst l) v → Q v H') (p : Addr) (np : H p = none) : Q (.ref p) (upd H p (.lst vs)) :=
  q _ _ (mv_new np) (st.laid np) ⟨p, vs, rfl, st.hid_laid np, repL_new st np r⟩
theorem new_tup {K : Fr} {F : Frm} {os : Own} {ρ : Env} {σ : L2.St} {H : Hp} {s : BS} (st : StOk K F os ρ σ H s) {Q : VK} {l : List D} {vs : List V} (r : RepL K (hid (wld F os) H) l vs)
    (q : ∀ v H', Mw F.q H H' → StOk K F os ρ σ H' s → Rep K (hid (wld F os) H') (.tup l) v → Q v H') (p : Addr) (o : Obj) (np : H p = none) (od : o.dict = none) : Q (.ref p) (upd H p (.frz o (.tup vs))) :=
  q _ _ (mv_new np) (st.laid np) ⟨p, vs, rfl, ⟨o, od, st.hid_laid np⟩, repL_new st np r⟩
theorem repL_nil {K : Fr} {H : Hp} {l : List D} {vs : List V} (r : RepL K H l vs) : vs = [] ↔ l = [] := by
  have := r.len
  constructor
  · intro e
    rw [e] at this
    exact List.eq_nil_of_length_eq_zero this
  · intro e
    rw [e] at this
    exact List.eq_nil_of_length_eq_zero this.symm
theorem ro_add {K : Fr} : RO K (rAddA K) addD := by
  intro F os ρ σ H s Q x y dx dy d st rx ry e q
  have hsame : Same (hid (wld F os) H) H := hid_same _ _
  have cat : ∀ (l m : List D) (a b : Addr) (xs ys : List V), x = .ref a → y = .ref b → SqT K H a xs → SqT K H b ys → RepL K (hid (wld F os) H) l xs → RepL K (hid (wld F os) H) m ys →
      szOk (l.length + m.length) = true → (l = [] → Q (.ref b) H) → (l ≠ [] → m = [] → Q (.ref a) H) → d = .tup (l ++ m) → rCatN K x y H Q := by
    intro l m a b xs ys ex ey h1 h2 r1 r2 sz q0 q1 ed
    refine ⟨a, b, xs, ys, ex, ey, h1, h2, ?_, fun e => q0 ((repL_nil r1).mp e), fun n e => q1 (fun z => n ((repL_nil r1).mpr z)) ((repL_nil r2).mp e), fun _ _ p o np od => ?_⟩
    · rw [← r1.len, ← r2.len]
      exact Nat.le_of_lt (szOk_lt sz)
    · subst ed
      exact new_tup st (r1.app r2) q p o np od
  cases dx with
  | int i =>
    cases dy with
    | int j =>
      cases e
      exact .inl ⟨i, j, rx, ry, q _ H Mw.refl st rfl⟩
    | _ => cases e
  | str i =>
    cases dy with
    | str j =>
      have e : (if szOk (i.length + j.length) = true then some (D.str (i ++ j)) else none) = some d := e
      split at e
      · next g =>
        cases e
        exact .inr (.inr (.inr ⟨i, j, rx, ry, Nat.le_of_lt (szOk_lt g), q _ H Mw.refl st rfl⟩))
      · cases e
    | _ => cases e
  | lst l =>
    cases dy with
    | lst m =>
      have e : (if szOk (l.length + m.length) = true then some (D.lst (l ++ m)) else none) = some d := e
      split at e
      · next g =>
        cases e
        obtain ⟨a, vs, ex, h1, h2⟩ := rx
        obtain ⟨b, ws, ey, h3, h4⟩ := ry
        refine .inr (.inl ⟨a, b, vs, ws, ex, ey, hsame _ _ h1, hsame _ _ h3, ?_, fun p np => new_lst st (h2.app h4) q p np⟩)
        rw [← h2.len, ← h4.len]
        exact Nat.le_of_lt (szOk_lt g)
      · cases e
    | _ => cases e
  | tup l =>
    cases dy with
    | tup m =>
      obtain ⟨a, vs, ex, h1, h2⟩ := id rx
      obtain ⟨b, ws, ey, h3, h4⟩ := id ry
      have e : (if szOk (l.length + m.length) = true then some (D.tup (l ++ m)) else none) = some d := by
        cases l <;> exact e
      split at e
      · next g =>
        cases e
        refine .inr (.inr (.inl (cat l m a b vs ws ex ey (seqT (.inr (h1.mono hsame))) (seqT (.inr (h3.mono hsame))) h2 h4 g (fun z => ?_) (fun _ z => ?_) rfl)))
        · subst z
          rw [← ey]
          exact q _ H Mw.refl st ry
        · subst z
          rw [← ex]
          exact q _ H Mw.refl st (by rw [List.append_nil]; exact rx)
      · cases e
    | tup0 m =>
      cases l with
      | nil =>
        cases m <;> cases e
      | cons x1 l =>
        cases m with
        | nil => cases e
        | cons y1 m =>
          obtain ⟨a, vs, ex, h1, h2⟩ := id rx
          obtain ⟨b, ws, ey, h3, h4⟩ := id ry
          have e : (if szOk ((x1 :: l).length + (y1 :: m).length) = true then some (D.tup (x1 :: l ++ y1 :: m)) else none) = some d := e
          split at e
          · next g =>
            cases e
            refine .inr (.inr (.inl (cat (x1 :: l) (y1 :: m) a b vs ws ex ey (seqT (.inr (h1.mono hsame))) (sqT_mono hsame h3) h2 h4 g (fun z => nomatch z) (fun _ z => nomatch z) rfl)))
          · cases e
    | _ => cases l <;> cases e
  | tup0 l =>
    cases dy with
    | tup m =>
      cases m with
      | nil => cases e
      | cons y1 m =>
        obtain ⟨a, vs, ex, h1, h2⟩ := id rx
        obtain ⟨b, ws, ey, h3, h4⟩ := id ry
        have e : (if szOk (l.length + (y1 :: m).length) = true then some (D.tup (l ++ y1 :: m)) else none) = some d := e
        split at e
        · next g =>
          cases e
          refine .inr (.inr (.inl (cat l (y1 :: m) a b vs ws ex ey (sqT_mono hsame h1) (seqT (.inr (h3.mono hsame))) h2 h4 g (fun z => ?_) (fun _ z => nomatch z) rfl)))
          subst z
          rw [← ey]
          exact q _ H Mw.refl st ry
        · cases e
    | _ => cases e
  | _ => cases e
def subD : D → D → Option D
  | .int i, .int j => some (.int (i - j))
  | _, _ => none
theorem ro_sub {K : Fr} : RO K (rI0 fun i j => .int (i - j)) subD := ro_i0 fun dx dy d e => by
  obtain ⟨i, j, h1, h2, h3⟩ := two_ints (f := fun i j => D.int (i - j)) e
  exact ⟨i, j, h1, h2, fun H => by rw [← h3]; rfl⟩
def mulD : D → D → Option D
  | .int i, .int j => if decide (i.natAbs.log2 + j.natAbs.log2 < 1000000) = true then some (.int (i * j)) else none
  | .lst l, .int k => if (decide (0 ≤ k) && decide (k ≤ 1000000) && szOk (l.length * k.toNat)) = true then some (.lst (List.replicate k.toNat l).flatten) else none
  | _, _ => none
def rMulA : R2 := fun x y H Q => rI CMulW (fun i j => .int (i * j)) x y H Q ∨ rRep x y H Q
theorem op_mulA {X : Cx} : OpR X (binaryOp .Mult) rMulA := op_mulW.or op_rep
theorem repL_rep {K : Fr} {H : Hp} {l : List D} {vs : List V} (r : RepL K H l vs) : ∀ n, RepL K H (List.replicate n l).flatten (List.replicate n vs).flatten
  | 0 => rfl
  | n + 1 => by
    rw [List.replicate_succ, List.replicate_succ, List.flatten_cons, List.flatten_cons]
    exact r.app (repL_rep r n)
theorem ro_mul {K : Fr} : RO K rMulA mulD := by
  intro F os ρ σ H s Q x y dx dy d st rx ry e q
  cases dx with
  | int i =>
    cases dy with
    | int j =>
      have e : (if decide (i.natAbs.log2 + j.natAbs.log2 < 1000000) = true then some (D.int (i * j)) else none) = some d := e
      split at e
      · next g =>
        cases e
        exact .inl ⟨i, j, rx, ry, (of_decide_eq_true g : i.natAbs.log2 + j.natAbs.log2 < 1000000), q _ H Mw.refl st rfl⟩
      · cases e
    | _ => cases e
  | lst l =>
    cases dy with
    | int k =>
      have e : (if (decide (0 ≤ k) && decide (k ≤ 1000000) && szOk (l.length * k.toNat)) = true then some (D.lst (List.replicate k.toNat l).flatten) else none) = some d := e
      split at e
      · next g =>
        cases e
        rw [Bool.and_eq_true, Bool.and_eq_true] at g
        have g1 := of_decide_eq_true g.1.1
        have g2 := of_decide_eq_true g.1.2
        obtain ⟨a, vs, ex, h1, h2⟩ := rx
        refine .inr ⟨a, k, vs, ex, ry, hid_same _ _ _ _ h1, by omega, by omega, ?_, fun p np => new_lst st (repL_rep h2 _) q p np⟩
        rw [← h2.len]
        exact Nat.le_of_lt (szOk_lt g.2)
      · cases e
    | _ => cases e
  | _ => cases e
def divD : D → D → Option D
  | .int i, .int j => if (decide (0 < j) && decide (j.natAbs.log2 < 9000)) = true then some (.int (i / j)) else none
  | _, _ => none
theorem ro_div {K : Fr} : RO K (rI CDivW fun i j => .int (i / j)) divD := by
  intro F os ρ σ H s Q x y dx dy d st rx ry e q
  cases dx with
  | int i =>
    cases dy with
    | int j =>
      obtain ⟨g, rfl⟩ := ite_some (c := (decide (0 < j) && decide (j.natAbs.log2 < 9000))) (a := D.int (i / j)) e
      rw [Bool.and_eq_true] at g
      exact ⟨i, j, rx, ry, ⟨of_decide_eq_true g.1, of_decide_eq_true g.2⟩, q _ H Mw.refl st rfl⟩
    | _ => cases e
  | _ => cases e
def modD : D → D → Option D
  | .int i, .int j => if decide (0 < j) = true then some (.int (i % j)) else none
  | _, _ => none
theorem ro_mod {K : Fr} : RO K (rI (fun _ j => 0 < j) fun i j => .int (i % j)) modD := by
  intro F os ρ σ H s Q x y dx dy d st rx ry e q
  cases dx with
  | int i =>
    cases dy with
    | int j =>
      obtain ⟨g, rfl⟩ := ite_some (c := decide (0 < j)) (a := D.int (i % j)) e
      exact ⟨i, j, rx, ry, of_decide_eq_true g, q _ H Mw.refl st rfl⟩
    | _ => cases e
  | _ => cases e
def powD : D → D → Option D
  | .int i, .int j => if (decide (0 ≤ j) && decide (j ≤ 1000000) && decide (i.natAbs < 18446744073709551616)) = true then some (.int (i ^ j.toNat)) else none
  | _, _ => none
theorem ro_pow {K : Fr} : RO K (rI CPow fun i j => .int (i ^ j.toNat)) powD := by
  intro F os ρ σ H s Q x y dx dy d st rx ry e q
  cases dx with
  | int i =>
    cases dy with
    | int j =>
      obtain ⟨g, rfl⟩ := ite_some (c := (decide (0 ≤ j) && decide (j ≤ 1000000) && decide (i.natAbs < 18446744073709551616))) (a := D.int (i ^ j.toNat)) e
      rw [Bool.and_eq_true, Bool.and_eq_true] at g
      exact ⟨i, j, rx, ry, ⟨of_decide_eq_true g.1.1, of_decide_eq_true g.1.2, by rw [show (2 : Nat) ^ 64 = 18446744073709551616 from rfl]; exact of_decide_eq_true g.2⟩, q _ H Mw.refl st rfl⟩
    | _ => cases e
  | _ => cases e
/-! items -/
def seqOf : D → Option (List D)
  | .lst l => some l
  | .tup l => some l
  | .tup0 l => some l
  | _ => none
theorem seq_of {K : Fr} {H H' : Hp} (s : Same H H') {d : D} {v : V} {l : List D} (e : seqOf d = some l) (r : Rep K H d v) : ∃ a vs, v = .ref a ∧ (SqL K H' a vs ∨ SqT K H' a vs) ∧ RepL K H l vs := by
  cases d with
  | lst m =>
    cases e
    obtain ⟨a, vs, ex, h1, h2⟩ := r
    exact ⟨a, vs, ex, .inl (seqL (s _ _ h1)), h2⟩
  | tup m =>
    cases e
    obtain ⟨a, vs, ex, h1, h2⟩ := r
    exact ⟨a, vs, ex, .inr (seqT (.inr (h1.mono s))), h2⟩
  | tup0 m =>
    cases e
    obtain ⟨a, vs, ex, h1, h2⟩ := r
    exact ⟨a, vs, ex, .inr (sqT_mono s h1), h2⟩
  | _ => cases e
def ixD (x y : D) : Option D := match seqOf x, y with
  | some l, .int i => atI l i
  | none, .int i => match x with
    | .str z => if szOk z.length = true then (atI z.cps.toList i).map fun c => D.str ⟨#[c]⟩ else none
    | _ => none
  | _, _ => none
theorem repL_atI {K : Fr} {H : Hp} {l : List D} {vs : List V} {i : Int} {d : D} (r : RepL K H l vs) (e : atI l i = some d) : ∃ v, atI vs i = some v ∧ Rep K H d v := by
  unfold atI at e ⊢
  rw [← r.len]
  obtain ⟨j, e1, e2⟩ := Option.bind_eq_some_iff.mp e
  obtain ⟨v, e3, e4⟩ := r.get e2
  exact ⟨v, by rw [e1]; exact e3, e4⟩
theorem ro_ix {K : Fr} : RO K (rIx K) ixD := by
  intro F os ρ σ H s Q x y dx dy d st rx ry e q
  have hsame : Same (hid (wld F os) H) H := hid_same _ _
  unfold ixD at e
  cases es : seqOf dx with
  | some l =>
    cases dy with
    | int i =>
      rw [es] at e
      obtain ⟨a, vs, ex, h1, h2⟩ := seq_of hsame es rx
      obtain ⟨v, e3, e4⟩ := repL_atI h2 e
      have qq := q v H Mw.refl st e4
      rcases h1 with h1 | h1
      · exact .inl ⟨a, vs, i, v, ex, ry, h1, e3, qq⟩
      · exact .inr (.inl ⟨a, vs, i, v, ex, ry, h1, e3, qq⟩)
    | _ =>
      rw [es] at e
      cases e
  | none =>
    cases dy with
    | int i =>
      rw [es] at e
      cases dx with
      | str z =>
        simp only at e
        split at e
        · next g =>
          obtain ⟨c, e1, rfl⟩ := Option.map_eq_some_iff.mp e
          exact .inr (.inr ⟨z, i, c, rx, ry, Nat.le_of_lt (szOk_lt g), e1, q _ H Mw.refl st rfl⟩)
        · cases e
      | _ => cases e
    | _ =>
      rw [es] at e
      cases e
end Dm

namespace Dm
open PySem PySem.Spec PyProof.Rows L2 My
section
variable {P : Program} {w : World} {K : Fr} {mg : Str → Option Value} {base : Heap} {cl : Str → Addr} {E : SK} {Φ : Cxs P w K mg base E} {O : List Nat}
variable {F : Frm} {os : Own} {ρ : Env} {σ : L2.St} {H : Hp} {s : BS} {β : Type} {G : Res β → Prop}
theorem RE.bind {t : TE} {f : Env → M D} (h : RE K cl E O t f) (hO : os.map (·.1) = O) (st : StOk K F os ρ σ H s) {k : D → M β} {Q : VK} (hx : ∀ nm fs s', G (.exc nm fs s') → exOk K cl (E σ) F nm fs s') (hb : ¬ G .bad)
    (q : G (bnd (f ρ) k s)) (nx : ∀ d s1 v H1, Mw F.q H H1 → StOk K F os ρ σ H1 s1 → Rep K (hid (wld F os) H1) d v → G (k d s1) → Q v H1) : t σ H Q := by
  refine h F os ρ σ H s _ hO st ?_
  cases e : f ρ s with
  | bad =>
    simp only [bnd, e] at q
    exact hb q
  | exc nm fs s1 =>
    simp only [bnd, e] at q
    exact hx _ _ _ q
  | ok d s1 =>
    simp only [bnd, e] at q
    exact fun v H1 m1 st1 r1 => nx d s1 v H1 m1 st1 r1 q
theorem RT.bind {t : TT} {f : Env → M Bool} (h : RT K cl E O t f) (hO : os.map (·.1) = O) (st : StOk K F os ρ σ H s) {k : Bool → M β} {Q : Bool → Hp → Prop} (hx : ∀ nm fs s', G (.exc nm fs s') → exOk K cl (E σ) F nm fs s') (hb : ¬ G .bad)
    (q : G (bnd (f ρ) k s)) (nx : ∀ d s1 H1, Mw F.q H H1 → StOk K F os ρ σ H1 s1 → G (k d s1) → Q d H1) : t σ H Q := by
  refine h F os ρ σ H s _ hO st ?_
  cases e : f ρ s with
  | bad =>
    simp only [bnd, e] at q
    exact hb q
  | exc nm fs s1 =>
    simp only [bnd, e] at q
    exact hx _ _ _ q
  | ok d s1 =>
    simp only [bnd, e] at q
    exact fun H1 m1 st1 => nx d s1 H1 m1 st1 q
theorem RA.bind {t : TA} {f : Env → M (List D)} (h : RA K cl E O t f) (hO : os.map (·.1) = O) (st : StOk K F os ρ σ H s) {k : List D → M β} {Q : List V → Hp → Prop} (hx : ∀ nm fs s', G (.exc nm fs s') → exOk K cl (E σ) F nm fs s') (hb : ¬ G .bad)
    (q : G (bnd (f ρ) k s)) (nx : ∀ d s1 v H1, Mw F.q H H1 → StOk K F os ρ σ H1 s1 → RepL K (hid (wld F os) H1) d v → G (k d s1) → Q v H1) : t σ H Q := by
  refine h F os ρ σ H s _ hO st ?_
  cases e : f ρ s with
  | bad =>
    simp only [bnd, e] at q
    exact hb q
  | exc nm fs s1 =>
    simp only [bnd, e] at q
    exact hx _ _ _ q
  | ok d s1 =>
    simp only [bnd, e] at q
    exact fun v H1 m1 st1 r1 => nx d s1 v H1 m1 st1 r1 q
abbrev hxE {Q : VK} : ∀ nm fs s', satE K cl E F os ρ σ H Q (.exc nm fs s') → exOk K cl (E σ) F nm fs s' := fun _ _ _ h => h
abbrev hbE {Q : VK} : ¬ satE K cl E F os ρ σ H Q .bad := fun h => h
/-! values by tests -/
def fAndV (f g : Env → M D) (ρ : Env) : M D := bnd (f ρ) fun d => match d with
  | .bl b => if b = true then g ρ else ret (.bl false)
  | _ => bad
def fOrV (f g : Env → M D) (ρ : Env) : M D := bnd (f ρ) fun d => match d with
  | .bl b => if b = true then ret (.bl true) else g ρ
  | _ => bad
def fNotV (f : Env → M D) (ρ : Env) : M D := bnd (f ρ) fun d => match d with
  | .bl b => ret (.bl (!b))
  | _ => bad
def fIf {α : Type} (c : Env → M Bool) (f g : Env → M α) (ρ : Env) : M α := bnd (c ρ) fun b => if b = true then f ρ else g ρ
def fChain (g1 g2 : D → D → Option D) (fa fb fc : Env → M D) (ρ : Env) : M D := bnd (fa ρ) fun x => bnd (fb ρ) fun y => bnd (lift (g1 x y)) fun z => match z with
  | .bl b => if b = true then bnd (fc ρ) fun w => lift (g2 y w) else ret (.bl false)
  | _ => bad
section
variable {a b c : Expr} {rest : List Expr} {pos : Pos} {f g : Env → M D}
theorem me_one {op} (h : ME Φ cl O a f) : ME Φ cl O (.BoolOp op [a] pos) f := let ⟨t, p, r⟩ := h; ⟨t, fun j => pe_one (p j), r⟩
theorem satE_tail {t : TE} {g : Env → M D} (h : RE K cl E O t g) {F : Frm} {os : Own} {ρ : Env} {σ : L2.St} {H H1 : Hp} {s1 : BS} {Q : VK} (hO : os.map (·.1) = O) (m1 : Mw F.q H H1) (st1 : StOk K F os ρ σ H1 s1) (q : satE K cl E F os ρ σ H Q (g ρ s1)) : t σ H1 Q := by
  refine h F os ρ σ H1 s1 Q hO st1 ?_
  cases e : g ρ s1 with
  | bad =>
    rw [e] at q
    exact q
  | exc nm fs s2 =>
    rw [e] at q
    exact q
  | ok d s2 =>
    rw [e] at q
    exact fun v H2 m2 st2 r2 => q v H2 (m1.trans m2) st2 r2
theorem me_and (h : ME Φ cl O a f) (h2 : ME Φ cl O (.BoolOp .And (b :: rest) pos) g) : ME Φ cl O (.BoolOp .And (a :: b :: rest) pos) (fAndV f g) := by
  obtain ⟨ta, pa, ra⟩ := h
  obtain ⟨tb, pb, rb⟩ := h2
  refine ⟨_, fun j => pe_and (pa j) (pb j), fun F os ρ σ H s Q hO st q => ?_⟩
  refine ra.bind hO st hxE hbE q fun d s1 v H1 m1 st1 r1 q1 => ?_
  cases d with
  | bl b =>
    refine ⟨b, r1, ?_⟩
    cases b with
    | true => exact satE_tail rb hO m1 st1 q1
    | false => exact q1 _ _ m1 st1 rfl
  | _ => exact q1.elim
theorem me_or (h : ME Φ cl O a f) (h2 : ME Φ cl O (.BoolOp .Or (b :: rest) pos) g) : ME Φ cl O (.BoolOp .Or (a :: b :: rest) pos) (fOrV f g) := by
  obtain ⟨ta, pa, ra⟩ := h
  obtain ⟨tb, pb, rb⟩ := h2
  refine ⟨_, fun j => pe_or (pa j) (pb j), fun F os ρ σ H s Q hO st q => ?_⟩
  refine ra.bind hO st hxE hbE q fun d s1 v H1 m1 st1 r1 q1 => ?_
  cases d with
  | bl b =>
    refine ⟨b, r1, ?_⟩
    cases b with
    | false => exact satE_tail rb hO m1 st1 q1
    | true => exact q1 _ _ m1 st1 rfl
  | _ => exact q1.elim
theorem me_not (h : ME Φ cl O a f) : ME Φ cl O (.UnaryOp .Not a pos) (fNotV f) := by
  obtain ⟨ta, pa, ra⟩ := h
  refine ⟨_, fun j => pe_not (pa j), fun F os ρ σ H s Q hO st q => ?_⟩
  refine ra.bind hO st hxE hbE q fun d s1 v H1 m1 st1 r1 q1 => ?_
  cases d with
  | bl b => exact ⟨b, r1, q1 _ _ m1 st1 rfl⟩
  | _ => exact q1.elim
theorem me_ifExp {c : Expr} {fc : Env → M Bool} (hc : MT Φ cl O c fc) (h : ME Φ cl O a f) (h2 : ME Φ cl O b g) : ME Φ cl O (.IfExp c a b pos) (fIf fc f g) := by
  obtain ⟨tc, pc, rc⟩ := hc
  obtain ⟨ta, pa, ra⟩ := h
  obtain ⟨tb, pb, rb⟩ := h2
  refine ⟨_, fun j => pe_ifExp (pc j) (pa j) (pb j), fun F os ρ σ H s Q hO st q => ?_⟩
  refine rc.bind hO st hxE hbE q fun d s1 H1 m1 st1 q1 => ?_
  cases d with
  | true => exact satE_tail ra hO m1 st1 q1
  | false => exact satE_tail rb hO m1 st1 q1
theorem r_chain {r r' : R2} {g1 g2 : D → D → Option D} {ta tb tc : TE} {fa fb fc : Env → M D} (o1 : RO K r g1) (o2 : RO K r' g2) (ra : RE K cl E O ta fa) (rb : RE K cl E O tb fb) (rc : RE K cl E O tc fc) : RE K cl E O (tChain r r' ta tb tc) (fChain g1 g2 fa fb fc) := by
  intro F os ρ σ H s Q hO st q
  refine ra.bind hO st hxE hbE q fun x s1 v H1 m1 st1 r1 q1 => ?_
  refine rb.bind hO st1 hxE hbE q1 fun y s2 v2 H2 m2 st2 r2 q2 => ?_
  cases e : g1 x y with
  | none =>
    simp only [bnd, lift, e] at q2
    exact q2.elim
  | some z =>
    simp only [bnd, lift, e] at q2
    refine o1 F os ρ σ H2 s2 _ v v2 x y z st2 (rep_mv st1 m2 r1) r2 e fun v3 H3 m3 st3 r3 => ?_
    have m13 := m1.trans (m2.trans m3)
    cases z with
    | bl b =>
      refine ⟨b, r3, ?_⟩
      cases b with
      | false => exact q2 _ _ m13 st3 rfl
      | true =>
        refine rc.bind hO st3 hxE hbE q2 fun z s4 v4 H4 m4 st4 r4 q4 => ?_
        cases e2 : g2 y z with
        | none =>
          simp only [lift, e2] at q4
          exact q4.elim
        | some d =>
          simp only [lift, e2] at q4
          exact o2 F os ρ σ H4 s4 Q v2 v4 y z d st4 (rep_mv st3 m4 (rep_mv st2 m3 r2)) r4 e2 fun v5 H5 m5 st5 r5 => q4 v5 H5 (m13.trans (m4.trans m5)) st5 r5
    | _ => exact q2.elim
theorem me_chain {op op' : CmpOp} {r r' : R2} {g1 g2 : D → D → Option D} {fa fb fc : Env → M D} (ho : ∀ j, OpR (Φ.X j) (compareOp op) r) (o1 : RO K r g1) (ho' : ∀ j, OpR (Φ.X j) (compareOp op') r') (o2 : RO K r' g2) (ha : ME Φ cl O a fa) (hb : ME Φ cl O b fb) (hc : ME Φ cl O c fc)
    (hm : lastMarks [op, op'] [b, c] = false := by with_unfolding_all rfl) : ME Φ cl O (.Compare a [op, op'] [b, c] pos) (fChain g1 g2 fa fb fc) := by
  obtain ⟨ta, pa, ra⟩ := ha
  obtain ⟨tb, pb, rb⟩ := hb
  obtain ⟨tc, pc, rc⟩ := hc
  exact ⟨_, fun j => pe_chain (ho j) (ho' j) (pa j) (pb j) (pc j) hm, r_chain o1 o2 ra rb rc⟩
theorem mt_chain {op op' : CmpOp} {r r' : R2} {g1 g2 : D → D → Option D} {fa fb fc : Env → M D} (ho : ∀ j, OpR (Φ.X j) (compareOp op) r) (o1 : RO K r g1) (ho' : ∀ j, OpR (Φ.X j) (compareOp op') r') (o2 : RO K r' g2) (ha : ME Φ cl O a fa) (hb : ME Φ cl O b fb) (hc : ME Φ cl O c fc)
    (hm : lastMarks [op, op'] [b, c] = false := by with_unfolding_all rfl) : MT Φ cl O (.Compare a [op, op'] [b, c] pos) (fTr (fChain g1 g2 fa fb fc)) := by
  obtain ⟨ta, pa, ra⟩ := ha
  obtain ⟨tb, pb, rb⟩ := hb
  obtain ⟨tc, pc, rc⟩ := hc
  exact ⟨_, fun j => pt_chain (ho j) (ho' j) (pa j) (pb j) (pc j) hm, r_test (r_chain o1 o2 ra rb rc)⟩
end
/-! arguments, displays -/
def fNil (_ : Env) : M (List D) := ret []
def fCons (f : Env → M D) (g : Env → M (List D)) (ρ : Env) : M (List D) := bnd (f ρ) fun x => bnd (g ρ) fun xs => ret (x :: xs)
abbrev hxA {Q : List V → Hp → Prop} : ∀ nm fs s', satA K cl E F os ρ σ H Q (.exc nm fs s') → exOk K cl (E σ) F nm fs s' := fun _ _ _ h => h
abbrev hbA {Q : List V → Hp → Prop} : ¬ satA K cl E F os ρ σ H Q .bad := fun h => h
section
variable {e o : Expr} {es : List Expr} {pos apos cpos p : Pos} {f : Env → M D} {fs : Env → M (List D)}
theorem r_nil : RA K cl E O tNil fNil := fun F os ρ σ H s Q hO st q => q _ _ Mw.refl st rfl
theorem r_cons {t : TE} {u : TA} (h : RE K cl E O t f) (h2 : RA K cl E O u fs) : RA K cl E O (tCons t u) (fCons f fs) := by
  intro F os ρ σ H s Q hO st q
  refine h.bind hO st hxA hbA q fun d s1 v H1 m1 st1 r1 q1 => ?_
  refine h2.bind hO st1 hxA hbA q1 fun d2 s2 v2 H2 m2 st2 r2 q2 => ?_
  exact q2 _ _ (m1.trans m2) st2 ⟨v, v2, rfl, rep_mv st1 m2 r1, r2⟩
theorem ma_nil : MA Φ cl O [] fNil := ⟨_, fun j => pa_nil, r_nil⟩
theorem ma_cons (h : ME Φ cl O e f) (h2 : MA Φ cl O es fs) (hs : ∀ env, starEach (e :: es) env = (false, eval e env) :: starEach es env := by intro _; rfl) : MA Φ cl O (e :: es) (fCons f fs) := by
  obtain ⟨ta, pa, ra⟩ := h
  obtain ⟨tb, pb, rb⟩ := h2
  exact ⟨_, fun j => pa_cons (pa j) (pb j) (hs _), r_cons ra rb⟩
def fLst (fs : Env → M (List D)) (ρ : Env) : M D := bnd (fs ρ) fun l => if szOk l.length = true then ret (.lst l) else bad
def fTup (fs : Env → M (List D)) (ρ : Env) : M D := bnd (fs ρ) fun l => if szOk l.length = true then ret (.tup l) else bad
theorem me_lst (h : MA Φ cl O es fs) : ME Φ cl O (.List es pos) (fLst fs) := by
  obtain ⟨t, p, r⟩ := h
  refine ⟨_, fun j => pe_lst (p j), fun F os ρ σ H s Q hO st q => ?_⟩
  refine r.bind hO st hxE hbE q fun l s1 vs H1 m1 st1 r1 q1 => ?_
  cases z : szOk l.length with
  | false =>
    simp only [z] at q1
    exact q1.elim
  | true =>
    simp only [z] at q1
    refine ⟨by rw [← r1.len]; exact Nat.le_of_lt (szOk_lt z), fun p np => ?_⟩
    exact new_lst st1 r1 (fun v H' m st' r' => q1 v H' (m1.trans m) st' r') p np
def tTupN (t : TA) : TE := fun σ H Q => t σ H fun xs H1 => xs.length ≤ sizeLine ∧ ∀ p o, H1 p = none → o.dict = none → Q (.ref p) (upd H1 p (.frz o (.tup xs)))
theorem pe_tupN {X : Cx} {t : TA} {x1} (h : PA X es t) : PE X (.Tuple es x1 pos) (tTupN t) := by
  refine ⟨fun pins s σ H Q I hq => ?_⟩
  refine wpAny_Tuple_spliced (thn (h.run pos pins s σ H _ I hq) fun us s1 ⟨xs, H1, I1, r, z, q⟩ => ⟨by rw [← r.length]; exact z, ?_⟩)
  have hf : H1 s1.heap.objs.size = none := I1.hok.fresh (Nat.le_refl _)
  refine ⟨.ref s1.heap.objs.size, _, I1.laid (t' := s1.toks) (o := .frz { cls := .type "tuple", data := .seq us.toArray } (.tup xs)) (fun b u e => Heap.get?_push_of_some _ e) (Nat.le_refl _) ?_, rfl, q _ _ hf rfl⟩
  exact ⟨Heap.get?_push_size _ rfl, z, us, r, ⟨_, Heap.get?_push_size _ rfl, rfl, _, rfl⟩⟩
theorem me_tup {x1} (h : MA Φ cl O es fs) : ME Φ cl O (.Tuple es x1 pos) (fTup fs) := by
  obtain ⟨t, p, r⟩ := h
  refine ⟨_, fun j => pe_tupN (p j), fun F os ρ σ H s Q hO st q => ?_⟩
  refine r.bind hO st hxE hbE q fun l s1 vs H1 m1 st1 r1 q1 => ?_
  cases z : szOk l.length with
  | false =>
    simp only [z] at q1
    exact q1.elim
  | true =>
    simp only [z] at q1
    refine ⟨by rw [← r1.len]; exact Nat.le_of_lt (szOk_lt z), fun p o np od => ?_⟩
    exact new_tup st1 r1 (fun v H' m st' r' => q1 v H' (m1.trans m) st' r') p o np od
/-! slices -/
def cutD (l : List D) (lo hi : Option Int) : List D := (l.drop (HT.sIx l.length 0 lo)).take (HT.sIx l.length l.length hi - HT.sIx l.length 0 lo)
def slD (x : D) (lo hi : Option Int) : Option D := match x with
  | .lst l => some (.lst (cutD l lo hi))
  | .tup l => some (.tup (cutD l lo hi))
  | _ => none
def fPartN (_ : Env) : M (Option Int) := ret none
def fPart (f : Env → M D) (ρ : Env) : M (Option Int) := bnd (f ρ) fun d => match d with
  | .int i => ret (some i)
  | _ => bad
def satO (F : Frm) (K : Fr) (cl : Str → Addr) (E : SK) (os : Own) (ρ : Env) (σ : L2.St) (H : Hp) (Q : Option Int → Hp → Prop) : Res (Option Int) → Prop
  | .ok b s' => ∀ H', Mw F.q H H' → StOk K F os ρ σ H' s' → Q b H'
  | .exc nm fs s' => exOk K cl (E σ) F nm fs s'
  | .bad => False
def MO (Φ : Cxs P w K mg base E) (cl : Str → Addr) (O : List Nat) (e : Option Expr) (f : Env → M (Option Int)) : Prop := ∃ t, (∀ i, PO (Φ.X i) e t) ∧
  ∀ (F : Frm) (os : Own) (ρ : Env) (σ : L2.St) (H : Hp) (s : BS) (Q : Option Int → Hp → Prop), os.map (·.1) = O → StOk K F os ρ σ H s → satO F K cl E os ρ σ H Q (f ρ s) → t σ H Q
theorem mo_none : MO Φ cl O none fPartN := ⟨_, fun j => po_none, fun F os ρ σ H s Q hO st q => q _ Mw.refl st⟩
theorem mo_some (h : ME Φ cl O e f) : MO Φ cl O (some e) (fPart f) := by
  obtain ⟨t, p, r⟩ := h
  refine ⟨_, fun j => po_some (p j), fun F os ρ σ H s Q hO st q => ?_⟩
  refine r.bind (G := satO F K cl E os ρ σ H Q) hO st (fun _ _ _ h => h) (fun h => h) q fun d s1 v H1 m1 st1 r1 q1 => ?_
  cases d with
  | int i => exact ⟨i, r1, q1 _ m1 st1⟩
  | _ => exact q1.elim
def fSl (f : Env → M D) (g h : Env → M (Option Int)) (ρ : Env) : M D := bnd (f ρ) fun x => bnd (g ρ) fun lo => bnd (h ρ) fun hi => lift (slD x lo hi)
/-- t[lo:hi]: what is new is nothing but a tuple -/
def rSlN (K : PySem.W.Frag) : V → Option Int → Option Int → Hp → VK → Prop := fun x lo hi H Q => ∃ a xs, x = .ref a ∧ SqT K H a xs ∧
  (HT.sIx xs.length 0 lo = 0 ∧ HT.sIx xs.length xs.length hi = xs.length → Q (.ref a) H) ∧ (¬ (HT.sIx xs.length 0 lo = 0 ∧ HT.sIx xs.length xs.length hi = xs.length) → ∀ p o, H p = none → o.dict = none → Q (.ref p) (upd H p (.frz o (.tup (cutV xs lo hi)))))
theorem sl_tupN {X : Cx} : SlR X (rSlN X.K) := by
  intro pins s σ H x v vl vu lo hi sl Q I rx hs pl pu h
  obtain ⟨a, xs, rfl, hx, q1, q2⟩ := h
  cases rx
  obtain ⟨its, r, ht, hz⟩ := I.tuple hx
  have hlen : its.toArray.size = xs.length := by rw [List.size_toArray]; exact r.length.symm
  refine ⟨"tuple", _, PyProof.Rows.slot_tuple_getitem.lookup, ht.typeIs, ?_⟩
  by_cases hw : HT.sIx xs.length 0 lo = 0 ∧ HT.sIx xs.length xs.length hi = xs.length
  · exact getItem_tuple_whole ht hs pl pu (by rw [hlen]; exact hw) ⟨.ref a, H, I, rfl, q1 hw⟩
  · refine HT.getItem_tuple_cut ht hs pl pu (by rw [hlen]; exact hw) ?_ (by rw [hlen]; exact hz)
    rw [hlen]
    have rr := (r.drop (HT.sIx xs.length 0 lo)).take (HT.sIx xs.length xs.length hi - HT.sIx xs.length 0 lo)
    refine ⟨.ref s.heap.objs.size, _, I.laid (t' := s.toks) (o := .frz { cls := .type "tuple", data := .seq ((its.drop (HT.sIx xs.length 0 lo)).take (HT.sIx xs.length xs.length hi - HT.sIx xs.length 0 lo)).toArray } (.tup (cutV xs lo hi))) (fun b ob q => Heap.get?_push_of_some _ q) (Nat.le_refl _) ?_, rfl, q2 hw _ _ (I.hok.fresh (Nat.le_refl _)) rfl⟩
    exact ⟨Heap.get?_push_size _ rfl, Nat.le_trans (cutV_length xs lo hi) hz, _, rr, IsTup.new _ _⟩
def rSlAll (K : Fr) : V → Option Int → Option Int → Hp → VK → Prop := fun x lo hi H Q => rSlL K x lo hi H Q ∨ rSlN K x lo hi H Q
theorem sl_all {X : Cx} : SlR X (rSlAll X.K) := L2.SlR.or sl_list sl_tupN
theorem cut_rep {H : Hp} {l : List D} {vs : List V} (r : RepL K H l vs) (lo hi : Option Int) : RepL K H (cutD l lo hi) (cutV vs lo hi) := by
  unfold cutD cutV
  rw [r.len]
  exact (r.drop _).take _
theorem me_slice {lo hi : Option Expr} {p2 : Pos} {f : Env → M D} {g h : Env → M (Option Int)} (he : ME Φ cl O e f) (hl : MO Φ cl O lo g) (hh : MO Φ cl O hi h) : ME Φ cl O (.Subscript e (.Slice lo hi none p2) pos) (fSl f g h) := by
  obtain ⟨t, p, r⟩ := he
  obtain ⟨tl, pl, rl⟩ := hl
  obtain ⟨th, ph, rh⟩ := hh
  refine ⟨tSl (rSlAll K) t tl th, fun j => pe_slice (by have z := @sl_all (Φ.X j); rwa [Φ.hK j] at z) (p j) (pl j) (ph j), fun F os ρ σ H s Q hO st q => ?_⟩
  have obind : ∀ {u : TO} {f : Env → M (Option Int)} {H0 : Hp} {s0 : BS} {k : Option Int → M D} {Q2 : Option Int → Hp → Prop}, (∀ (F : Frm) (os : Own) (ρ : Env) (σ : L2.St) (H : Hp) (s : BS) (Q : Option Int → Hp → Prop), os.map (·.1) = O → StOk K F os ρ σ H s → satO F K cl E os ρ σ H Q (f ρ s) → u σ H Q) →
      StOk K F os ρ σ H0 s0 → satE K cl E F os ρ σ H Q (bnd (f ρ) k s0) → (∀ o s1 H1, Mw F.q H0 H1 → StOk K F os ρ σ H1 s1 → satE K cl E F os ρ σ H Q (k o s1) → Q2 o H1) → u σ H0 Q2 := by
    intro u f H0 s0 k Q2 ru st0 q0 nx
    refine ru F os ρ σ H0 s0 _ hO st0 ?_
    cases e : f ρ s0 with
    | bad =>
      simp only [bnd, e] at q0
      exact q0
    | exc nm fs s1 =>
      simp only [bnd, e] at q0
      exact q0
    | ok d s1 =>
      simp only [bnd, e] at q0
      exact fun H1 m1 st1 => nx d s1 H1 m1 st1 q0
  refine r.bind hO st hxE hbE q fun x s1 v H1 m1 st1 r1 q1 => ?_
  refine obind rl st1 q1 fun lo s2 H2 m2 st2 q2 => ?_
  refine obind rh st2 q2 fun hi s3 H3 m3 st3 q3 => ?_
  have m13 := m1.trans (m2.trans m3)
  have r3 := rep_mv st2 m3 (rep_mv st1 m2 r1)
  cases x with
  | lst l =>
    obtain ⟨a, vs, rfl, h1, h2⟩ := r3
    refine .inl ⟨a, vs, rfl, seqL (hid_same _ _ _ _ h1), fun p np => ?_⟩
    exact new_lst st3 (cut_rep h2 lo hi) (fun v H' m st' r' => q3 v H' (m13.trans m) st' r') p np
  | tup l =>
    obtain ⟨a, vs, rfl, h1, h2⟩ := id r3
    refine .inr ⟨a, vs, rfl, seqT (.inr (h1.mono (hid_same _ _))), fun hw => ?_, fun _ p o np od => ?_⟩
    · refine q3 _ _ m13 st3 ?_
      have e : cutD l lo hi = l := by
        unfold cutD
        rw [h2.len, hw.1, hw.2, List.drop_zero, Nat.sub_zero, List.take_of_length_le (by rw [h2.len]; exact Nat.le_refl _)]
      rw [e]
      exact r3
    · exact new_tup st3 (cut_rep h2 lo hi) (fun v H' m st' r' => q3 v H' (m13.trans m) st' r') p o np od
  | _ => exact q3.elim
/-! calls by values -/
def RC (K : Fr) (r : List V → Hp → VK → Prop) (g : List D → Option D) : Prop := ∀ (F : Frm) (os : Own) (ρ : Env) (σ : L2.St) (H : Hp) (s : BS) (Q : VK) (vs : List V) (ds : List D) (d : D), StOk K F os ρ σ H s →
  RepL K (hid (wld F os) H) ds vs → g ds = some d → (∀ v H', Mw F.q H H' → StOk K F os ρ σ H' s → Rep K (hid (wld F os) H') d v → Q v H') → r vs H Q
def fCall (g : List D → Option D) (fs : Env → M (List D)) (ρ : Env) : M D := bnd (fs ρ) fun ds => lift (g ds)
theorem r_callV {r : List V → Hp → VK → Prop} {g : List D → Option D} {t : TA} (rc : RC K r g) (h : RA K cl E O t fs) : RE K cl E O (tCB r t) (fCall g fs) := by
  intro F os ρ σ H s Q hO st q
  refine h.bind hO st hxE hbE q fun ds s1 vs H1 m1 st1 r1 q1 => ?_
  cases e : g ds with
  | none =>
    simp only [lift, e] at q1
    exact q1.elim
  | some d =>
    simp only [lift, e] at q1
    exact rc F os ρ σ H1 s1 Q vs ds d st1 r1 e fun v H' m st' r' => q1 v H' (m1.trans m) st' r'
theorem me_callB {x : Str} {id : String} {r : List V → Hp → VK → Prop} {g : List D → Option D} (hc : ∀ j, CallR (Φ.X j) (.builtin id) r) (rc : RC K r g) (hg : ∀ j, Gl (Φ.X j) x) (hm : mg x = none) (hv : bootBuiltins x = some (.builtin id)) (ha : MA Φ cl O (e :: es) fs)
    (hn : x ≠ "__name__" := by decide) (hdb : (x == ("__debug__" : Str)) = false := by decide) (he : ∀ env, starEach (e :: es) env = (false, eval e env) :: starEach es env := by intro _; rfl) (hpl : ∀ env, (backTo pos (starEach es env)).any (·.1) = false := by intro _; rfl) :
    ME Φ cl O (.Call (.Name x p) (e :: es) [] pos) (fCall g fs) := by
  obtain ⟨t, pa, ra⟩ := ha
  exact ⟨_, fun j => pe_callB (hc j) (hg j) (by rw [Φ.hmg]; exact hm) hv (pa j) hn hdb (he _) (hpl _), r_callV rc ra⟩
theorem me_callTy {x : Str} {T : String} {r : List V → Hp → VK → Prop} {g : List D → Option D} (hc : ∀ j, CallR (Φ.X j) (.type T) r) (rc : RC K r g) (hg : ∀ j, Gl (Φ.X j) x) (hm : mg x = none) (hv : bootBuiltins x = some (.type T)) (ha : MA Φ cl O (e :: es) fs)
    (hn : x ≠ "__name__" := by decide) (hdb : (x == ("__debug__" : Str)) = false := by decide) (he : ∀ env, starEach (e :: es) env = (false, eval e env) :: starEach es env := by intro _; rfl) (hpl : ∀ env, (backTo pos (starEach es env)).any (·.1) = false := by intro _; rfl) :
    ME Φ cl O (.Call (.Name x p) (e :: es) [] pos) (fCall g fs) := by
  obtain ⟨t, pa, ra⟩ := ha
  exact ⟨_, fun j => pe_callTy (hc j) (hg j) (by rw [Φ.hmg]; exact hm) hv (pa j) hn hdb (he _) (hpl _), r_callV rc ra⟩
/-! own defs -/
def satF (K : Fr) (cl : Str → Addr) (E : XK) (F : Frm) (Q : VK) : Res D → Prop
  | .ok d s' => ∀ v H', Mw F.q F.H0 H' → BagAt F.T F.q F.c H' s' → Rep K (hid F.W H') d v → Q v H'
  | .exc nm fs s' => exOk K cl E F nm fs s'
  | .bad => False
/-- what a def promises: what its mirror tells -/
def spD (K : Fr) (cl : Str → Addr) (n : Nat) (m : List D → M D) : Sp := fun vs H Q E => ∃ (F : Frm) (s : BS) (ds : List D), F.H0 = H ∧ FOk F ∧ BagAt F.T F.q F.c H s ∧ RepL K (hid F.W H) ds vs ∧ ds.length = n ∧ satF K cl E F Q (m ds s)
def fOwn (n : Nat) (m : List D → M D) (fs : Env → M (List D)) (ρ : Env) : M D := bnd (fs ρ) fun ds => if ds.length = n then m ds else bad
theorem spD_of {n : Nat} {m : List D → M D} {H1 : Hp} {s1 : BS} {ds : List D} {vs : List V} {Q : VK} (m1 : Mw F.q H H1) (st1 : StOk K F os ρ σ H1 s1) (r1 : RepL K (hid (wld F os) H1) ds vs) (hl : ds.length = n) (q : satE K cl E F os ρ σ H Q (m ds s1)) :
    spD K cl n m vs H1 Q (E σ) := by
  refine ⟨⟨wld F os, H1, F.q, F.c, fun _ => none, F.T⟩, s1, ds, rfl, ⟨st1.qW, List.mem_append_right _ st1.fok.cW, st1.fok.cq, fun a ha => st1.wpres ha⟩, st1.bag, r1, hl, ?_⟩
  cases e : m ds s1 with
  | bad =>
    rw [e] at q
    exact q
  | exc nm fs s2 =>
    rw [e] at q
    intro H' dd fvs mv bg nd e2 rf
    exact q H' dd fvs (st1.mv.trans mv) bg (st1.fresh0 nd) e2 (RepF.mono (hid_sub fun a ha => List.mem_append_right _ ha) _ rf)
  | ok d s2 =>
    rw [e] at q
    exact fun v H' mv bg r => q v H' (m1.trans mv) (st1.step mv bg) r
theorem r_own {n : Nat} {m : List D → M D} {t : TA} (h : RA K cl E O t fs) : RE K cl E O (fun σ H Q => t σ H fun vs H1 => spD K cl n m vs H1 Q (E σ)) (fOwn n m fs) := by
  intro F os ρ σ H s Q hO st q
  refine h.bind hO st hxE hbE q fun ds s1 vs H1 m1 st1 r1 q1 => ?_
  by_cases hl : ds.length = n
  · simp only [hl] at q1
    exact spD_of m1 st1 r1 hl q1
  · simp only [hl] at q1
    exact q1.elim
theorem me_own {x : Str} {fa : Addr} {fd : FuncData} {ps : List Str} {k : Nat} {n : Nat} {m : List D → M D} (Fn : FnOk P w K mg base (L2.CX P w) k fa fd ps (spD K cl n m)) (hk : k ≤ Φ.lv) (hg : ∀ j, Gl (Φ.X j) x) (hm : mg x = some (.ref fa)) (kp : PySem.W.keepIn K (.ref fa) = true)
    (hb : Binds K fd ps []) (ha : MA Φ cl O (e :: es) fs) (hdb : (x == ("__debug__" : Str)) = false := by decide) (he : ∀ env, starEach (e :: es) env = (false, eval e env) :: starEach es env := by intro _; rfl) (hpl : ∀ env, (backTo pos (starEach es env)).any (·.1) = false := by intro _; rfl) :
    ME Φ cl O (.Call (.Name x p) (e :: es) [] pos) (fOwn n m fs) := by
  obtain ⟨t, pa, ra⟩ := ha
  refine ⟨_, fun j => ?_, r_own ra⟩
  have Fn2 : FnOk (Φ.X j).prog (Φ.X j).w (Φ.X j).K (Φ.X j).mg (Φ.X j).base (L2.CX (Φ.X j).prog (Φ.X j).w) k fa fd ps (spD K cl n m) := by
    rw [Φ.hP, Φ.hw, Φ.hK, Φ.hmg, Φ.hb]
    exact Fn
  exact pe_callS (E := E) Fn2 ((Φ.room j).mono hk) (hg j) (by rw [Φ.hmg]; exact hm) (by rw [Φ.hK]; exact kp) (by rw [Φ.hK]; exact hb) (Φ.pass j) (pa j) hdb (he _) (hpl _)
end
end
end Dm

namespace Dm
open PySem PySem.Spec PyProof.Rows L2 My
/-! ### built-in calls -/
def intsOf : List D → Option (List Int)
  | [] => some []
  | .int i :: l => match intsOf l with
    | some r => some (i :: r)
    | none => none
  | _ :: _ => none
theorem intsOf_rep {K : Fr} {H : Hp} : ∀ {l : List D} {ns : List Int} {vs : List V}, intsOf l = some ns → RepL K H l vs → vs = ns.map V.int ∧ l = ns.map D.int
  | [], _, _, e, h => by
    cases e
    have h : _ = [] := h
    exact ⟨h, rfl⟩
  | d :: l, ns, vs, e, h => by
    obtain ⟨v, r, rfl, h1, h2⟩ := h
    cases d with
    | int i =>
      have e : (match intsOf l with | some r => some (i :: r) | none => none) = some ns := e
      cases e2 : intsOf l with
      | none =>
        rw [e2] at e
        cases e
      | some ms =>
        rw [e2] at e
        cases e
        obtain ⟨a, b⟩ := intsOf_rep e2 h2
        have h1 : v = .int i := h1
        rw [h1, a, b]
        exact ⟨rfl, rfl⟩
    | _ => cases e
theorem intsOf_map : ∀ ns : List Int, intsOf (ns.map D.int) = some ns
  | [] => rfl
  | n :: ns => by
    show (match intsOf (ns.map D.int) with | some r => some (n :: r) | none => none) = _
    rw [intsOf_map ns]
def boolsOf : List D → Option (List Bool)
  | [] => some []
  | .bl i :: l => match boolsOf l with
    | some r => some (i :: r)
    | none => none
  | _ :: _ => none
theorem boolsOf_rep {K : Fr} {H : Hp} : ∀ {l : List D} {ns : List Bool} {vs : List V}, boolsOf l = some ns → RepL K H l vs → vs = ns.map V.bl
  | [], _, _, e, h => by
    cases e
    have h : _ = [] := h
    exact h
  | d :: l, ns, vs, e, h => by
    obtain ⟨v, r, rfl, h1, h2⟩ := h
    cases d with
    | bl i =>
      have e : (match boolsOf l with | some r => some (i :: r) | none => none) = some ns := e
      cases e2 : boolsOf l with
      | none =>
        rw [e2] at e
        cases e
      | some ms =>
        rw [e2] at e
        cases e
        have a := boolsOf_rep e2 h2
        have h1 : v = .bl i := h1
        rw [h1, a]
        rfl
    | _ => cases e
theorem boolsOf_map : ∀ ns : List Bool, boolsOf (ns.map D.bl) = some ns
  | [] => rfl
  | n :: ns => by
    show (match boolsOf (ns.map D.bl) with | some r => some (n :: r) | none => none) = _
    rw [boolsOf_map ns]
theorem rep_ints {K : Fr} {H : Hp} : ∀ ns : List Int, RepL K H (ns.map D.int) (ns.map V.int)
  | [] => rfl
  | n :: ns => ⟨_, _, rfl, rfl, rep_ints ns⟩
theorem one_arg {K : Fr} {H : Hp} {d : D} {vs : List V} (h : RepL K H [d] vs) : ∃ v, vs = [v] ∧ Rep K H d v := by
  obtain ⟨v, r, rfl, h1, h2⟩ := h
  have h2 : r = [] := h2
  rw [h2]
  exact ⟨v, rfl, h1⟩
theorem two_args {K : Fr} {H : Hp} {d e : D} {vs : List V} (h : RepL K H [d, e] vs) : ∃ v u, vs = [v, u] ∧ Rep K H d v ∧ Rep K H e u := by
  obtain ⟨v, r, rfl, h1, h2⟩ := h
  obtain ⟨u, rfl, h3⟩ := one_arg h2
  exact ⟨v, u, rfl, h1, h3⟩
def lenD : List D → Option D
  | [d] => match d with
    | .str x => if szOk x.length = true then some (.int x.length) else none
    | _ => (seqOf d).map fun l => .int l.length
  | _ => none
def rLenA (K : Fr) : List V → Hp → VK → Prop := fun xs H Q => ∃ x n, xs = [x] ∧ LenV K x H n ∧ Q (.int n) H
theorem rc_len {K : Fr} : RC K (rLenA K) lenD := by
  intro F os ρ σ H s Q vs ds d st r e q
  match ds, e with
  | [x], e =>
    obtain ⟨v, rfl, r1⟩ := one_arg r
    have sq : ∀ l, seqOf x = some l → rLenA K [v] H Q ∨ d ≠ .int l.length := by
      intro l es
      by_cases c : d = .int l.length
      · left
        obtain ⟨a, ws, rfl, h1, h2⟩ := seq_of (hid_same _ _) es r1
        refine ⟨.ref a, ws.length, rfl, ?_, ?_⟩
        · rcases h1 with h1 | h1
          · exact .inl ⟨ws, h1, rfl⟩
          · exact .inr ⟨ws, h1, rfl⟩
        · subst c
          rw [← h2.len]
          exact q _ H Mw.refl st rfl
      · exact .inr c
    cases x with
    | str z =>
      obtain ⟨g, rfl⟩ := ite_some (c := szOk z.length) (a := D.int z.length) e
      exact ⟨.str z, z.length, by rw [show v = .str z from r1], ⟨Nat.le_of_lt (szOk_lt g), rfl⟩, q _ H Mw.refl st rfl⟩
    | lst l => exact (sq l rfl).resolve_right (fun z => z (Option.some.inj e).symm)
    | tup l => exact (sq l rfl).resolve_right (fun z => z (Option.some.inj e).symm)
    | tup0 l => exact (sq l rfl).resolve_right (fun z => z (Option.some.inj e).symm)
    | _ => cases e
  | [], e => cases e
  | x1 :: x2 :: _, e => cases x1 <;> first | (cases e; done) | (cases x2 <;> cases e)
def listD : List D → Option D
  | [d] => (seqOf d).map D.lst
  | _ => none
theorem rc_list {K : Fr} : RC K (rListOf K) listD := by
  intro F os ρ σ H s Q vs ds d st r e q
  match ds, e with
  | [x], e =>
    obtain ⟨v, rfl, r1⟩ := one_arg r
    obtain ⟨l, es, rfl⟩ := Option.map_eq_some_iff.mp e
    obtain ⟨a, ws, rfl, h1, h2⟩ := seq_of (hid_same _ _) es r1
    exact ⟨a, ws, rfl, h1, fun p np => new_lst st h2 q p np⟩
  | [], e => cases e
  | x1 :: x2 :: _, e => cases x1 <;> first | (cases e; done) | (cases x2 <;> cases e)
def tupleD : List D → Option D
  | [.lst l] => some (.tup l)
  | [.tup l] => some (.tup l)
  | [.tup0 l] => some (.tup0 l)
  | _ => none
theorem rc_tuple {K : Fr} : RC K (rTupN K) tupleD := by
  intro F os ρ σ H s Q vs ds d st r e q
  match ds, e with
  | [.lst l], e =>
    obtain ⟨v, rfl, a, ws, rfl, h1, h2⟩ := one_arg r
    cases e
    exact ⟨a, ws, rfl, .inl ⟨seqL (hid_same _ _ _ _ h1), fun p o np od => new_tup st h2 q p o np od⟩⟩
  | [.tup l], e =>
    obtain ⟨v, rfl, r1⟩ := one_arg r
    obtain ⟨a, ws, rfl, h1, h2⟩ := id r1
    cases e
    exact ⟨a, ws, rfl, .inr ⟨seqT (.inr (h1.mono (hid_same _ _))), q _ H Mw.refl st r1⟩⟩
  | [.tup0 l], e =>
    obtain ⟨v, rfl, r1⟩ := one_arg r
    obtain ⟨a, ws, rfl, h1, h2⟩ := id r1
    cases e
    exact ⟨a, ws, rfl, .inr ⟨sqT_mono (hid_same _ _) h1, q _ H Mw.refl st r1⟩⟩
  | [], e => cases e
  | x1 :: x2 :: _, e => cases x1 <;> first | (cases e; done) | (cases x2 <;> cases e)
def insI (x : Int) : List Int → List Int
  | [] => [x]
  | y :: l => if x ≤ y then x :: y :: l else y :: insI x l
def sortI : List Int → List Int
  | [] => []
  | x :: l => insI x (sortI l)
theorem insI_perm (x : Int) : ∀ l, (insI x l).Perm (x :: l)
  | [] => .refl _
  | y :: l => by
    unfold insI
    split
    · exact .refl _
    · exact ((insI_perm x l).cons y).trans (.swap x y l)
theorem sortI_perm : ∀ l, (sortI l).Perm l
  | [] => .refl _
  | x :: l => (insI_perm x _).trans ((sortI_perm l).cons x)
theorem insI_up (x : Int) : ∀ l, l.Pairwise (· ≤ ·) → (insI x l).Pairwise (· ≤ ·)
  | [], _ => List.pairwise_singleton _ _
  | y :: l, h => by
    unfold insI
    split
    · next c =>
      refine List.Pairwise.cons (fun z hz => ?_) h
      rcases List.mem_cons.mp hz with e | hz
      · rw [e]
        exact c
      · exact Int.le_trans c (List.rel_of_pairwise_cons h hz)
    · next c =>
      refine List.Pairwise.cons (fun z hz => ?_) (insI_up x l (List.Pairwise.of_cons h))
      rcases List.mem_cons.mp ((insI_perm x l).mem_iff.mp hz) with e | hz
      · rw [e]
        omega
      · exact List.rel_of_pairwise_cons h hz
theorem sortI_up : ∀ l, (sortI l).Pairwise (· ≤ ·)
  | [] => .nil
  | x :: l => insI_up x _ (sortI_up l)
theorem sortI_eq {l m : List Int} (p : m.Perm l) (u : m.Pairwise (· ≤ ·)) : m = sortI l :=
  (p.trans (sortI_perm l).symm).eq_of_pairwise (fun a b _ _ => Int.le_antisymm) u (sortI_up l)
def sortedD : List D → Option D
  | [d] => match seqOf d with
    | some l => match intsOf l with
      | some ns => if decide (ns.length < 64) = true then some (.lst ((sortI ns).map D.int)) else none
      | none => none
    | none => none
  | _ => none
theorem rc_sorted {K : Fr} : RC K (rSort2 K) sortedD := by
  intro F os ρ σ H s Q vs ds d st r e q
  match ds, e with
  | [x], e =>
    obtain ⟨v, rfl, r1⟩ := one_arg r
    have e : (match seqOf x with | some l => (match intsOf l with | some ns => if decide (ns.length < 64) = true then some (D.lst ((sortI ns).map D.int)) else none | none => none) | none => none) = some d := e
    cases es : seqOf x with
    | none =>
      rw [es] at e
      cases e
    | some l =>
      rw [es] at e
      simp only at e
      cases ei : intsOf l with
      | none =>
        rw [ei] at e
        cases e
      | some ns =>
        rw [ei] at e
        simp only at e
        obtain ⟨g, rfl⟩ := ite_some e
        obtain ⟨a, ws, rfl, h1, h2⟩ := seq_of (hid_same _ _) es r1
        obtain ⟨ew, _⟩ := intsOf_rep ei h2
        refine ⟨a, ns, rfl, by rw [← ew]; exact h1, of_decide_eq_true g, fun ns' p pm up np => ?_⟩
        rw [sortI_eq pm up]
        exact new_lst st (rep_ints _) q p np
  | [], e => cases e
  | x1 :: x2 :: _, e => cases x1 <;> first | (cases e; done) | (cases x2 <;> cases e)
def sumD : List D → Option D
  | [.lst l] => match intsOf l with
    | some ns => some (.int ns.sum)
    | none => none
  | _ => none
theorem rc_sum {K : Fr} : RC K (rSum K) sumD := by
  intro F os ρ σ H s Q vs ds d st r e q
  match ds, e with
  | [.lst l], e =>
    obtain ⟨v, rfl, a, ws, rfl, h1, h2⟩ := one_arg r
    have e : (match intsOf l with | some ns => some (D.int ns.sum) | none => none) = some d := e
    cases ei : intsOf l with
    | none =>
      rw [ei] at e
      cases e
    | some ns =>
      rw [ei] at e
      cases e
      obtain ⟨ew, _⟩ := intsOf_rep ei h2
      exact ⟨a, ns, rfl, by rw [← ew]; exact seqL (hid_same _ _ _ _ h1), q _ H Mw.refl st rfl⟩
  | [], e => cases e
  | x1 :: x2 :: _, e => cases x1 <;> first | (cases e; done) | (cases x2 <;> cases e)
def maxI : List Int → Option Int
  | [] => none
  | x :: l => some (l.foldl max x)
def minI : List Int → Option Int
  | [] => none
  | x :: l => some (l.foldl min x)
theorem foldl_max_ge : ∀ (l : List Int) (x : Int), x ≤ l.foldl max x ∧ (∀ y ∈ l, y ≤ l.foldl max x) ∧ (l.foldl max x = x ∨ l.foldl max x ∈ l)
  | [], x => ⟨Int.le_refl _, (fun _ h => nomatch h), .inl rfl⟩
  | z :: l, x => by
    obtain ⟨h1, h2, h3⟩ := foldl_max_ge l (max x z)
    rw [List.foldl_cons]
    refine ⟨by omega, fun y hy => ?_, ?_⟩
    · rcases List.mem_cons.mp hy with e | hy
      · rw [e]
        omega
      · exact h2 y hy
    · rcases h3 with h3 | h3
      · rw [h3]
        by_cases c : x ≤ z
        · exact .inr (by rw [Int.max_eq_right c]; exact List.mem_cons_self)
        · exact .inl (by rw [Int.max_eq_left (by omega)])
      · exact .inr (List.mem_cons_of_mem _ h3)
theorem foldl_min_le : ∀ (l : List Int) (x : Int), l.foldl min x ≤ x ∧ (∀ y ∈ l, l.foldl min x ≤ y) ∧ (l.foldl min x = x ∨ l.foldl min x ∈ l)
  | [], x => ⟨Int.le_refl _, (fun _ h => nomatch h), .inl rfl⟩
  | z :: l, x => by
    obtain ⟨h1, h2, h3⟩ := foldl_min_le l (min x z)
    rw [List.foldl_cons]
    refine ⟨by omega, fun y hy => ?_, ?_⟩
    · rcases List.mem_cons.mp hy with e | hy
      · rw [e]
        omega
      · exact h2 y hy
    · rcases h3 with h3 | h3
      · rw [h3]
        by_cases c : x ≤ z
        · exact .inl (by rw [Int.min_eq_left c])
        · exact .inr (by rw [Int.min_eq_right (by omega)]; exact List.mem_cons_self)
      · exact .inr (List.mem_cons_of_mem _ h3)
theorem maxI_eq {ns : List Int} {m : Int} (h1 : m ∈ ns) (h2 : ∀ y ∈ ns, y ≤ m) : maxI ns = some m := by
  cases ns with
  | nil => cases h1
  | cons x l =>
    obtain ⟨g1, g2, g3⟩ := foldl_max_ge l x
    have a : l.foldl max x ≤ m := by
      rcases g3 with g3 | g3
      · rw [g3]
        exact h2 _ List.mem_cons_self
      · exact h2 _ (List.mem_cons_of_mem _ g3)
    have b : m ≤ l.foldl max x := by
      rcases List.mem_cons.mp h1 with e | e
      · rw [e]
        exact g1
      · exact g2 _ e
    show some _ = some _
    rw [Int.le_antisymm a b]
theorem minI_eq {ns : List Int} {m : Int} (h1 : m ∈ ns) (h2 : ∀ y ∈ ns, m ≤ y) : minI ns = some m := by
  cases ns with
  | nil => cases h1
  | cons x l =>
    obtain ⟨g1, g2, g3⟩ := foldl_min_le l x
    have a : m ≤ l.foldl min x := by
      rcases g3 with g3 | g3
      · rw [g3]
        exact h2 _ List.mem_cons_self
      · exact h2 _ (List.mem_cons_of_mem _ g3)
    have b : l.foldl min x ≤ m := by
      rcases List.mem_cons.mp h1 with e | e
      · rw [e]
        exact g1
      · exact g2 _ e
    show some _ = some _
    rw [Int.le_antisymm b a]
def maxD : List D → Option D
  | [d] => match seqOf d with
    | some l => match intsOf l with
      | some ns => (maxI ns).map D.int
      | none => none
    | none => none
  | [.int i, .int j] => some (.int (if j > i then j else i))
  | _ => none
def rMaxA (K : Fr) : List V → Hp → VK → Prop := fun vs H Q => rMax K vs H Q ∨ rMaxTup K vs H Q ∨ ∃ i j, vs = [.int i, .int j] ∧ Q (.int (if j > i then j else i)) H
theorem CallR.or {X : Cx} {f : Value} {r r' : List V → Hp → VK → Prop} (a : CallR X f r) (b : CallR X f r') : CallR X f (fun vs H Q => r vs H Q ∨ r' vs H Q) :=
  fun pins s σ H vs us Q I rr h => h.elim (a pins s σ H vs us Q I rr) (b pins s σ H vs us Q I rr)
theorem cr_maxA {X : Cx} (hc : X.calm = true) (hu : X.A.units + 64 < cLine) : CallR X (.builtin "max") (rMaxA X.K) := CallR.or (cr_max hc) (CallR.or (cr_maxTup hc hu) (call_max2 hc))
theorem rc_max {K : Fr} : RC K (rMaxA K) maxD := by
  intro F os ρ σ H s Q vs ds d st r e q
  match ds, e with
  | [x], e =>
    obtain ⟨v, rfl, r1⟩ := one_arg r
    have e : (match seqOf x with | some l => (match intsOf l with | some ns => (maxI ns).map D.int | none => none) | none => none) = some d := e
    cases es : seqOf x with
    | none =>
      rw [es] at e
      cases e
    | some l =>
      rw [es] at e
      simp only at e
      cases ei : intsOf l with
      | none =>
        rw [ei] at e
        cases e
      | some ns =>
        rw [ei] at e
        simp only at e
        obtain ⟨m, em, rfl⟩ := Option.map_eq_some_iff.mp e
        obtain ⟨a, ws, rfl, h1, h2⟩ := seq_of (hid_same _ _) es r1
        obtain ⟨ew, _⟩ := intsOf_rep ei h2
        subst ew
        have qq := q (.int m) H Mw.refl st rfl
        rcases h1 with h1 | h1
        · refine .inl ⟨a, ns, rfl, h1, ?_, fun m' a1 a2 => ?_⟩
          · cases ns with
            | nil => cases em
            | cons x l => exact Nat.succ_pos _
          · have := maxI_eq a1 a2
            rw [em] at this
            rw [← Option.some.inj this]
            exact qq
        · cases ns with
          | nil => cases em
          | cons x l =>
            refine .inr (.inl ⟨a, x, l, rfl, h1, ?_⟩)
            have em : some (l.foldl max x) = some m := em
            rw [Option.some.inj em]
            exact qq
  | [.int i, .int j], e =>
    obtain ⟨v, u, rfl, r1, r2⟩ := two_args r
    cases e
    exact .inr (.inr ⟨i, j, by rw [show v = .int i from r1, show u = .int j from r2], q _ H Mw.refl st rfl⟩)
  | [], e => cases e
  | x1 :: x2 :: _ :: _, e => cases x1 <;> first | (cases e; done) | (cases x2 <;> cases e)
def minD : List D → Option D
  | [.lst l] => match intsOf l with
    | some ns => (minI ns).map D.int
    | none => none
  | [.int i, .int j] => some (.int (if j < i then j else i))
  | _ => none
def rMinA (K : Fr) : List V → Hp → VK → Prop := fun vs H Q => rMin K vs H Q ∨ ∃ i j, vs = [.int i, .int j] ∧ Q (.int (if j < i then j else i)) H
theorem cr_minA {X : Cx} (hc : X.calm = true) : CallR X (.builtin "min") (rMinA X.K) := CallR.or (cr_min hc) (call_min2 hc)
theorem rc_min {K : Fr} : RC K (rMinA K) minD := by
  intro F os ρ σ H s Q vs ds d st r e q
  match ds, e with
  | [.lst l], e =>
    obtain ⟨v, rfl, a, ws, rfl, h1, h2⟩ := one_arg r
    have e : (match intsOf l with | some ns => (minI ns).map D.int | none => none) = some d := e
    cases ei : intsOf l with
    | none =>
      rw [ei] at e
      cases e
    | some ns =>
      rw [ei] at e
      simp only at e
      obtain ⟨m, em, rfl⟩ := Option.map_eq_some_iff.mp e
      obtain ⟨ew, _⟩ := intsOf_rep ei h2
      subst ew
      refine .inl ⟨a, ns, rfl, seqL (hid_same _ _ _ _ h1), ?_, fun m' a1 a2 => ?_⟩
      · cases ns with
        | nil => cases em
        | cons x l => exact Nat.succ_pos _
      · have := minI_eq a1 a2
        rw [em] at this
        rw [← Option.some.inj this]
        exact q (.int m) H Mw.refl st rfl
  | [.int i, .int j], e =>
    obtain ⟨v, u, rfl, r1, r2⟩ := two_args r
    cases e
    exact .inr ⟨i, j, by rw [show v = .int i from r1, show u = .int j from r2], q _ H Mw.refl st rfl⟩
  | [], e => cases e
  | x1 :: x2 :: _ :: _, e => cases x1 <;> first | (cases e; done) | (cases x2 <;> cases e)
def allD : List D → Option D
  | [.lst l] => match boolsOf l with
    | some ns => some (.bl (ns.all id))
    | none => none
  | _ => none
theorem rc_all {K : Fr} : RC K (rAll K) allD := by
  intro F os ρ σ H s Q vs ds d st r e q
  match ds, e with
  | [.lst l], e =>
    obtain ⟨v, rfl, a, ws, rfl, h1, h2⟩ := one_arg r
    have e : (match boolsOf l with | some ns => some (D.bl (ns.all id)) | none => none) = some d := e
    cases ei : boolsOf l with
    | none =>
      rw [ei] at e
      cases e
    | some ns =>
      rw [ei] at e
      cases e
      have ew := boolsOf_rep ei h2
      exact ⟨a, ns, rfl, by rw [← ew]; exact seqL (hid_same _ _ _ _ h1), q _ H Mw.refl st rfl⟩
  | [], e => cases e
  | x1 :: x2 :: _, e => cases x1 <;> first | (cases e; done) | (cases x2 <;> cases e)
def absD : List D → Option D
  | [.int i] => some (.int (if i < 0 then -i else i))
  | _ => none
theorem rc_abs {K : Fr} : RC K (fun xs H Q => ∃ i, xs = [.int i] ∧ Q (.int (if i < 0 then -i else i)) H) absD := by
  intro F os ρ σ H s Q vs ds d st r e q
  match ds, e with
  | [.int i], e =>
    obtain ⟨v, rfl, r1⟩ := one_arg r
    cases e
    exact ⟨i, by rw [show v = .int i from r1], q _ H Mw.refl st rfl⟩
  | [], e => cases e
  | x1 :: x2 :: _, e => cases x1 <;> first | (cases e; done) | (cases x2 <;> cases e)
def intD : List D → Option D
  | [.int i] => some (.int i)
  | [.bl k] => some (.int (if k then 1 else 0))
  | _ => none
theorem rc_int {K : Fr} : RC K (fun xs H Q => (∃ i, xs = [.int i] ∧ Q (.int i) H) ∨ ∃ k, xs = [.bl k] ∧ Q (.int (if k then 1 else 0)) H) intD := by
  intro F os ρ σ H s Q vs ds d st r e q
  match ds, e with
  | [.int i], e =>
    obtain ⟨v, rfl, r1⟩ := one_arg r
    cases e
    exact .inl ⟨i, by rw [show v = .int i from r1], q _ H Mw.refl st rfl⟩
  | [.bl i], e =>
    obtain ⟨v, rfl, r1⟩ := one_arg r
    cases e
    exact .inr ⟨i, by rw [show v = .bl i from r1], q _ H Mw.refl st rfl⟩
  | [], e => cases e
  | x1 :: x2 :: _, e => cases x1 <;> first | (cases e; done) | (cases x2 <;> cases e)
def boolD : List D → Option D
  | [.int i] => some (.bl (i != 0))
  | [.bl k] => some (.bl k)
  | _ => none
theorem rc_bool {K : Fr} : RC K (fun xs H Q => (∃ i, xs = [.int i] ∧ Q (.bl (i != 0)) H) ∨ ∃ k, xs = [.bl k] ∧ Q (.bl k) H) boolD := by
  intro F os ρ σ H s Q vs ds d st r e q
  match ds, e with
  | [.int i], e =>
    obtain ⟨v, rfl, r1⟩ := one_arg r
    cases e
    exact .inl ⟨i, by rw [show v = .int i from r1], q _ H Mw.refl st rfl⟩
  | [.bl i], e =>
    obtain ⟨v, rfl, r1⟩ := one_arg r
    cases e
    exact .inr ⟨i, by rw [show v = .bl i from r1], q _ H Mw.refl st rfl⟩
  | [], e => cases e
  | x1 :: x2 :: _, e => cases x1 <;> first | (cases e; done) | (cases x2 <;> cases e)
def reprD : List D → Option D
  | [.bl b] => some (.str (if b then "True" else "False"))
  | _ => none
theorem rc_repr {K : Fr} : RC K (fun xs H Q => ∃ b, xs = [.bl b] ∧ Q (.str (if b then "True" else "False")) H) reprD := by
  intro F os ρ σ H s Q vs ds d st r e q
  match ds, e with
  | [.bl i], e =>
    obtain ⟨v, rfl, r1⟩ := one_arg r
    cases e
    exact ⟨i, by rw [show v = .bl i from r1], q _ H Mw.refl st rfl⟩
  | [], e => cases e
  | x1 :: x2 :: _, e => cases x1 <;> first | (cases e; done) | (cases x2 <;> cases e)
def strD : List D → Option D
  | [.int i] => if decide (i.natAbs.log2 < 1920) = true then some (.str (toString i)) else none
  | _ => none
theorem rc_str {K : Fr} : RC K (fun xs H Q => ∃ i, xs = [.int i] ∧ i.natAbs.log2 < 1920 ∧ Q (.str (toString i)) H) strD := by
  intro F os ρ σ H s Q vs ds d st r e q
  match ds, e with
  | [.int i], e =>
    obtain ⟨v, rfl, r1⟩ := one_arg r
    obtain ⟨g, rfl⟩ := ite_some (c := decide (i.natAbs.log2 < 1920)) (a := D.str (toString i)) e
    exact ⟨i, by rw [show v = .int i from r1], of_decide_eq_true g, q _ H Mw.refl st rfl⟩
  | [], e => cases e
  | x1 :: x2 :: _, e => cases x1 <;> first | (cases e; done) | (cases x2 <;> cases e)
def tyName : D → Option String
  | .non => some "NoneType"
  | .bl _ => some "bool"
  | .int _ => some "int"
  | .str _ => some "str"
  | .lst _ => some "list"
  | .tup _ => some "tuple"
  | .tup0 _ => some "tuple"
  | .dic _ => some "dict"
  | .dct _ => some "dict"
  | _ => none
theorem ty_of {K : Fr} {H H' : Hp} (s : Same H H') {d : D} {v : V} {n : String} (e : tyName d = some n) (r : Rep K H d v) : TyX K H' v (.type n) := by
  cases d with
  | non =>
    cases e
    rw [show v = .non from r]
    exact .base .non
  | bl b =>
    cases e
    rw [show v = .bl b from r]
    exact .base (.bl b)
  | int b =>
    cases e
    rw [show v = .int b from r]
    exact .base (.int b)
  | str b =>
    cases e
    rw [show v = .str b from r]
    exact .base (.str b)
  | lst l =>
    cases e
    obtain ⟨a, vs, rfl, h1, _⟩ := r
    exact .base (.lst (s _ _ h1))
  | tup l =>
    cases e
    obtain ⟨a, vs, rfl, ⟨o, _, h1⟩, _⟩ := r
    exact .fTuple (s _ _ h1)
  | tup0 l =>
    cases e
    obtain ⟨a, vs, rfl, h1, _⟩ := r
    rcases h1 with (h1 | ⟨o, h1⟩) | ⟨o, _, _, h1, h2, _⟩
    · exact .base (.tup (s _ _ h1))
    · exact .fTuple (s _ _ h1)
    · exact .kTuple h1 h2
  | dic l =>
    cases e
    obtain ⟨a, vs, rfl, h1, _⟩ := r
    exact .base (.dK (s _ _ h1))
  | dct l =>
    cases e
    obtain ⟨a, vs, rfl, h1, _⟩ := r
    exact .base (.dT (s _ _ h1))
  | _ => cases e
def isiB (x : D) (n : String) : Option Bool := match tyName x with
  | some t => kitB t n
  | none => none
def isiD : List D → Option D
  | [x, .ty n] => (isiB x n).map D.bl
  | _ => none
theorem rc_isi {K : Fr} : RC K (rIsi K) isiD := by
  intro F os ρ σ H s Q vs ds d st r e q
  match ds, e with
  | [x, .ty n], e =>
    obtain ⟨v, u, rfl, r1, r2⟩ := two_args r
    have e : (isiB x n).map D.bl = some d := e
    obtain ⟨b, eb, rfl⟩ := Option.map_eq_some_iff.mp e
    unfold isiB at eb
    cases et : tyName x with
    | none =>
      rw [et] at eb
      cases eb
    | some t =>
      rw [et] at eb
      exact ⟨v, u, .type t, .type n, b, rfl, by rw [show u = .ty n from r2]; exact .ty n, ty_of (hid_same _ _) et r1, kit_ty eb, q _ H Mw.refl st rfl⟩
  | [], e => cases e
  | [_], e => cases e
  | x1 :: x2 :: _ :: _, e => cases x1 <;> first | (cases e; done) | (cases x2 <;> cases e)
end Dm

namespace Dm
open PySem PySem.Spec PyProof.Rows L2 My
/-! ### what a loop walks -/
structure IterOk (K : Fr) (B : Hp) (J : It) (l : List D) : Prop where
  stop : ∀ i H, Same B H → i = l.length → J.stop i H
  go : ∀ i H, Same B H → i < l.length → J.go i H
  yld : ∀ i H v H', Same B H → i < l.length → J.yld i H v H' → ∃ d, l[i]? = some d ∧ ((H' = H ∧ Rep K B d v) ∨
    ∃ T ys ds, v = .ref T ∧ H T = none ∧ H' = upd H T (.tup ys) ∧ d = .tup0 ds ∧ RepL K B ds ys)
section
variable {P : Program} {w : World} {K : Fr} {mg : Str → Option Value} {base : Heap} {cl : Str → Addr} {E : SK} {Φ : Cxs P w K mg base E} {O : List Nat}
/-- a turn's item, behind the step that tells it -/
theorem StOk.item {F : Frm} {os : Own} {ρ : Env} {σ : L2.St} {H H' : Hp} {s : BS} {B : Hp} {d : D} {v : V} (st : StOk K F os ρ σ H s) (b : Same B (hid (wld F os) H))
    (y : (H' = H ∧ Rep K B d v) ∨ ∃ T ys ds, v = .ref T ∧ H T = none ∧ H' = upd H T (.tup ys) ∧ d = .tup0 ds ∧ RepL K B ds ys) :
    Mw F.q H H' ∧ StOk K F os ρ σ H' s ∧ Rep K (hid (wld F os) H') d v ∧ Same H H' := by
  rcases y with ⟨rfl, r⟩ | ⟨T, ys, ds, rfl, nT, rfl, rfl, r⟩
  · exact ⟨Mw.refl, st, Rep.mono b _ r, Same.refl _⟩
  · refine ⟨mv_new nT, st.laid nT, ⟨T, ys, rfl, .inl (.inl (st.hid_laid nT)), repL_new st nT (RepL.mono b _ r)⟩, same_new nT⟩
def satI (K : Fr) (cl : Str → Addr) (E : SK) (F : Frm) (os : Own) (ρ : Env) (σ : L2.St) (H : Hp) (R : It → Hp → Prop) : Res (List D) → Prop
  | .ok l s' => ∀ J H', Mw F.q H H' → StOk K F os ρ σ H' s' → IterOk K (hid (wld F os) H') J l → R J H'
  | .exc nm fs s' => exOk K cl (E σ) F nm fs s'
  | .bad => False
def RI (K : Fr) (cl : Str → Addr) (E : SK) (O : List Nat) (t : TI) (f : Env → M (List D)) : Prop := ∀ (F : Frm) (os : Own) (ρ : Env) (σ : L2.St) (H : Hp) (s : BS) (R : It → Hp → Prop), os.map (·.1) = O → StOk K F os ρ σ H s → satI K cl E F os ρ σ H R (f ρ s) → t σ H R
def MI (Φ : Cxs P w K mg base E) (cl : Str → Addr) (O : List Nat) (tg it : Expr) (f : Env → M (List D)) : Prop := ∃ t, (∀ j, PI (Φ.X j) tg it t) ∧ RI K cl E O t f
section
variable {F : Frm} {os : Own} {ρ : Env} {σ : L2.St} {H : Hp} {s : BS}
abbrev hxI {R : It → Hp → Prop} : ∀ nm fs s', satI K cl E F os ρ σ H R (.exc nm fs s') → exOk K cl (E σ) F nm fs s' := fun _ _ _ h => h
abbrev hbI {R : It → Hp → Prop} : ¬ satI K cl E F os ρ σ H R .bad := fun h => h
end
theorem Inv_list_len {K : Fr} {H : Hp} {a : Addr} {xs : List V} (h : H a = some (.lst xs)) : ∃ xs', SqL K H a xs' := ⟨xs, seqL h⟩
theorem itl_ok {B : Hp} {a : Addr} {vs : List V} {l : List D} (h : B a = some (.lst vs)) (r : RepL K B l vs) : IterOk K B (Itl K a) l where
  stop := fun i H b e => ⟨vs, seqL (b _ _ h), by rw [← r.len, e]; exact Nat.le_refl _⟩
  go := fun i H b lt => by
    have e := r.len
    exact ⟨vs, _, seqL (b _ _ h), List.getElem?_eq_getElem (by omega)⟩
  yld := fun i H v H' b lt y => by
    obtain ⟨rfl, f⟩ := y
    have e1 : l[i]? = some l[i] := List.getElem?_eq_getElem lt
    obtain ⟨u, e2, r2⟩ := r.get e1
    have e3 := f vs (seqL (b _ _ h))
    rw [e2] at e3
    cases e3
    exact ⟨_, e1, .inl ⟨rfl, r2⟩⟩
theorem itt_ok {B : Hp} {a : Addr} {vs : List V} {l : List D} (h : SqT K B a vs) (r : RepL K B l vs) : IterOk K B (Itt K a) l where
  stop := fun i H b e => ⟨vs, sqT_mono b h, by rw [← r.len, e]; exact Nat.le_refl _⟩
  go := fun i H b lt => by
    have e := r.len
    exact ⟨vs, _, sqT_mono b h, List.getElem?_eq_getElem (by omega)⟩
  yld := fun i H v H' b lt y => by
    obtain ⟨rfl, f⟩ := y
    have e1 : l[i]? = some l[i] := List.getElem?_eq_getElem lt
    obtain ⟨u, e2, r2⟩ := r.get e1
    have e3 := f vs (sqT_mono b h)
    rw [e2] at e3
    cases e3
    exact ⟨_, e1, .inl ⟨rfl, r2⟩⟩
/-- the numbers from lo on, n of them -/
def rgD (lo : Int) (n : Nat) : List D := (List.range n).map fun (i : Nat) => D.int (lo + (i : Int))
theorem rgD_len (lo : Int) (n : Nat) : (rgD lo n).length = n := by
  unfold rgD
  rw [List.length_map, List.length_range]
theorem itr_ok {B : Hp} {lo : Int} {n : Nat} : IterOk K B (Itr lo n) (rgD lo n) where
  stop := fun i H b e => by
    rw [rgD_len] at e
    rw [e]
    exact Nat.le_refl _
  go := fun i H b lt => by
    rw [rgD_len] at lt
    exact lt
  yld := fun i H v H' b lt y => by
    obtain ⟨rfl, rfl⟩ := y
    rw [rgD_len] at lt
    refine ⟨.int (lo + i), ?_, .inl ⟨rfl, rfl⟩⟩
    unfold rgD
    rw [List.getElem?_map, List.getElem?_range lt]
    rfl
theorem ite_ok {B : Hp} {a : Addr} {vs : List V} {l : List D} (h : B a = some (.lst vs)) (r : RepL K B l vs) : IterOk K B (Ite K a) ((rgD 0 l.length).zip l |>.map fun p => D.tup0 [p.1, p.2]) := by
  have hl : ((rgD 0 l.length).zip l |>.map fun p => D.tup0 [p.1, p.2]).length = l.length := by
    rw [List.length_map, List.length_zip, rgD_len, Nat.min_self]
  refine ⟨fun i H b e => ?_, fun i H b lt => ?_, fun i H v H' b lt y => ?_⟩
  · rw [hl] at e
    exact ⟨vs, seqL (b _ _ h), by rw [← r.len, e]; exact Nat.le_refl _⟩
  · rw [hl] at lt
    have e := r.len
    exact ⟨vs, _, seqL (b _ _ h), List.getElem?_eq_getElem (by omega)⟩
  · rw [hl] at lt
    obtain ⟨T, x, rfl, nT, rfl, f⟩ := y
    have e1 : l[i]? = some l[i] := List.getElem?_eq_getElem lt
    obtain ⟨u, e2, r2⟩ := r.get e1
    have e3 := f vs (seqL (b _ _ h))
    rw [e2] at e3
    cases e3
    refine ⟨.tup0 [.int (i : Int), l[i]], ?_, .inr ⟨T, _, _, rfl, nT, rfl, rfl, ⟨_, _, rfl, rfl, ⟨_, _, rfl, r2, rfl⟩⟩⟩⟩
    rw [List.getElem?_map]
    have z : ((rgD 0 l.length).zip l)[i]? = some (D.int (i : Int), l[i]) := by
      refine List.getElem?_zip_eq_some.mpr ⟨?_, e1⟩
      unfold rgD
      rw [List.getElem?_map, List.getElem?_range lt]
      show some (D.int (0 + (i : Int))) = _
      rw [Int.zero_add]
    rw [z]
    rfl
theorem itet_ok {B : Hp} {a : Addr} {vs : List V} {l : List D} (h : SqT K B a vs) (r : RepL K B l vs) : IterOk K B (IteT K a) ((rgD 0 l.length).zip l |>.map fun p => D.tup0 [p.1, p.2]) := by
  have hl : ((rgD 0 l.length).zip l |>.map fun p => D.tup0 [p.1, p.2]).length = l.length := by
    rw [List.length_map, List.length_zip, rgD_len, Nat.min_self]
  refine ⟨fun i H b e => ?_, fun i H b lt => ?_, fun i H v H' b lt y => ?_⟩
  · rw [hl] at e
    exact ⟨vs, sqT_mono b h, by rw [← r.len, e]⟩
  · rw [hl] at lt
    have e := r.len
    exact ⟨vs, _, sqT_mono b h, List.getElem?_eq_getElem (by omega)⟩
  · rw [hl] at lt
    obtain ⟨T, x, rfl, nT, rfl, f⟩ := y
    have e1 : l[i]? = some l[i] := List.getElem?_eq_getElem lt
    obtain ⟨u, e2, r2⟩ := r.get e1
    have e3 := f vs (sqT_mono b h)
    rw [e2] at e3
    cases e3
    refine ⟨.tup0 [.int (i : Int), l[i]], ?_, .inr ⟨T, _, _, rfl, nT, rfl, rfl, ⟨_, _, rfl, rfl, ⟨_, _, rfl, r2, rfl⟩⟩⟩⟩
    rw [List.getElem?_map]
    have z : ((rgD 0 l.length).zip l)[i]? = some (D.int (i : Int), l[i]) := by
      refine List.getElem?_zip_eq_some.mpr ⟨?_, e1⟩
      unfold rgD
      rw [List.getElem?_map, List.getElem?_range lt]
      show some (D.int (0 + (i : Int))) = _
      rw [Int.zero_add]
    rw [z]
    rfl
/-! the sources -/
def fSeq (f : Env → M D) (ρ : Env) : M (List D) := bnd (f ρ) fun d => lift (seqOf d)
def rgOk (i : Int) : Bool := decide (-100000000 ≤ i) && decide (i < 100000000)
def fRg1 (fs : Env → M (List D)) (ρ : Env) : M (List D) := bnd (fs ρ) fun ds => match ds with
  | [.int j] => if rgOk j = true then ret (rgD 0 j.toNat) else bad
  | _ => bad
def rg2 : List D → Option (List D)
  | [.int i, .int j] => if (rgOk i && rgOk j) = true then some (rgD i (j - i).toNat) else none
  | _ => none
theorem rg2_some {ds l : List D} (e : rg2 ds = some l) : ∃ i j, ds = [.int i, .int j] ∧ (rgOk i && rgOk j) = true ∧ l = rgD i (j - i).toNat := by
  match ds, e with
  | [.int i, .int j], e =>
    obtain ⟨g, h⟩ := ite_some (c := (rgOk i && rgOk j)) (a := rgD i (j - i).toNat) e
    exact ⟨i, j, rfl, g, h.symm⟩
  | [], e => cases e
  | [x1], e => cases x1 <;> cases e
  | x1 :: x2 :: _ :: _, e => cases x1 <;> first | (cases e; done) | (cases x2 <;> cases e)
def fRg2 (fs : Env → M (List D)) (ρ : Env) : M (List D) := bnd (fs ρ) fun ds => lift (rg2 ds)
def enumD (l : List D) : List D := (rgD 0 l.length).zip l |>.map fun p => D.tup0 [p.1, p.2]
def fEnum (fs : Env → M (List D)) (ρ : Env) : M (List D) := bnd (fs ρ) fun ds => match ds with
  | [d] => lift ((seqOf d).map enumD)
  | _ => bad
theorem mi_seq {tg e : Expr} {f : Env → M D} (h : ME Φ cl O e f) : MI Φ cl O tg e (fSeq f) := by
  obtain ⟨t, p, r⟩ := h
  refine ⟨fun σ H R => iList K t σ H R ∨ iTup K t σ H R, fun j => by have z := pi_seq (tg := tg) (p j); rwa [Φ.hK j] at z, fun F os ρ σ H s R hO st q => ?_⟩
  -- which one is told by the value
  have run : ∀ (G : D → Prop), (∀ d l, G d → seqOf d = some l → (∃ m, d = .lst m) ∨ ∃ m, d = .tup m ∨ d = .tup0 m) → True := fun _ _ => trivial
  cases e : f ρ s with
  | bad =>
    unfold fSeq at q
    simp only [bnd, e] at q
    exact q.elim
  | exc nm fs s1 =>
    unfold fSeq at q
    simp only [bnd, e] at q
    refine .inl (r F os ρ σ H s _ hO st ?_)
    rw [e]
    exact q
  | ok d s1 =>
    unfold fSeq at q
    simp only [bnd, e] at q
    cases d with
    | lst l =>
      refine .inl (r F os ρ σ H s _ hO st ?_)
      rw [e]
      intro v H1 m1 st1 r1
      obtain ⟨a, vs, rfl, h1, h2⟩ := r1
      exact ⟨a, rfl, ⟨vs, seqL (hid_same _ _ _ _ h1)⟩, q _ _ m1 st1 (itl_ok h1 h2)⟩
    | tup l =>
      refine .inr (r F os ρ σ H s _ hO st ?_)
      rw [e]
      intro v H1 m1 st1 r1
      obtain ⟨a, vs, rfl, h1, h2⟩ := r1
      exact ⟨a, rfl, ⟨vs, seqT (.inr (h1.mono (hid_same _ _)))⟩, q _ _ m1 st1 (itt_ok (seqT (.inr h1)) h2)⟩
    | tup0 l =>
      refine .inr (r F os ρ σ H s _ hO st ?_)
      rw [e]
      intro v H1 m1 st1 r1
      obtain ⟨a, vs, rfl, h1, h2⟩ := r1
      exact ⟨a, rfl, ⟨vs, sqT_mono (hid_same _ _) h1⟩, q _ _ m1 st1 (itt_ok h1 h2)⟩
    | _ => exact q.elim
theorem mi_range1 {tg a : Expr} {fs : Env → M (List D)} {p pos : Pos} (hg : ∀ j, Gl (Φ.X j) "range") (hm : mg "range" = none) (ha : MA Φ cl O [a] fs) (hs : ∀ env, starEach [a] env = [(false, eval a env)] := by intro _; rfl) :
    MI Φ cl O tg (.Call (.Name "range" p) [a] [] pos) (fRg1 fs) := by
  obtain ⟨t, pa, ra⟩ := ha
  refine ⟨_, fun j => pi_range1 (hg j) (by rw [Φ.hmg]; exact hm) (pa j) (hs _), fun F os ρ σ H s R hO st q => ?_⟩
  refine ra.bind hO st hxI hbI q fun ds s1 vs H1 m1 st1 r1 q1 => ?_
  match ds, q1, r1 with
  | [.int j], q1, r1 =>
    obtain ⟨v, rfl, r2⟩ := one_arg r1
    have q1 : satI K cl E F os ρ σ H R ((if rgOk j = true then ret (rgD 0 j.toNat) else bad) s1) := q1
    cases g : rgOk j with
    | false =>
      rw [g] at q1
      exact q1.elim
    | true =>
      rw [g] at q1
      unfold rgOk at g
      rw [Bool.and_eq_true] at g
      have g1 := of_decide_eq_true g.1
      have g2 := of_decide_eq_true g.2
      exact ⟨j, by rw [show v = .int j from r2], by omega, by omega, q1 _ _ m1 st1 itr_ok⟩
  | [], q1, _ => exact q1.elim
  | x1 :: x2 :: _, q1, _ => cases x1 <;> exact q1.elim
theorem mi_range2 {tg a b : Expr} {fs : Env → M (List D)} {p pos : Pos} (hg : ∀ j, Gl (Φ.X j) "range") (hm : mg "range" = none) (ha : MA Φ cl O [a, b] fs) (hs : ∀ env, starEach [a, b] env = [(false, eval a env), (false, eval b env)] := by intro _; rfl)
    (hs2 : ∀ env, starEach [b] env = [(false, eval b env)] := by intro _; rfl) : MI Φ cl O tg (.Call (.Name "range" p) [a, b] [] pos) (fRg2 fs) := by
  obtain ⟨t, pa, ra⟩ := ha
  refine ⟨_, fun j => pi_range2 (hg j) (by rw [Φ.hmg]; exact hm) (pa j) (hs _) (hs2 _), fun F os ρ σ H s R hO st q => ?_⟩
  refine ra.bind hO st hxI hbI q fun ds s1 vs H1 m1 st1 r1 q1 => ?_
  cases e : rg2 ds with
  | none =>
    simp only [lift, e] at q1
    exact q1.elim
  | some l =>
    simp only [lift, e] at q1
    obtain ⟨i, j, rfl, g, rfl⟩ := rg2_some e
    obtain ⟨v, u, rfl, r2, r3⟩ := two_args r1
    unfold rgOk at g
    rw [Bool.and_eq_true, Bool.and_eq_true, Bool.and_eq_true] at g
    have g1 := of_decide_eq_true g.1.1
    have g2 := of_decide_eq_true g.1.2
    have g3 := of_decide_eq_true g.2.1
    have g4 := of_decide_eq_true g.2.2
    exact ⟨i, j, by rw [show v = .int i from r2, show u = .int j from r3], by omega, q1 _ _ m1 st1 itr_ok⟩
theorem mi_enum {e : Expr} {fs : Env → M (List D)} {p pos tpos : Pos} {elts : List Expr} {kk : Nat} (hg : ∀ j, Gl (Φ.X j) "enumerate") (hm : mg "enumerate" = none) (ha : MA Φ cl O [e] fs) (hs : ∀ env, starEach [e] env = [(false, eval e env)] := by intro _; rfl) :
    MI Φ cl O (.Tuple elts kk tpos) (.Call (.Name "enumerate" p) [e] [] pos) (fEnum fs) := by
  obtain ⟨t, pa, ra⟩ := ha
  refine ⟨fun σ H R => iEnum K t σ H R ∨ iEnumT K t σ H R, fun j => by have z := pi_enumS (elts := elts) (kk := kk) (tpos := tpos) (p := p) (pos := pos) (hg j) (by rw [Φ.hmg]; exact hm) (pa j) (hs _); rwa [Φ.hK j] at z, fun F os ρ σ H s R hO st q => ?_⟩
  cases e : fs ρ s with
  | bad =>
    unfold fEnum at q
    simp only [bnd, e] at q
    exact q.elim
  | exc nm fs s1 =>
    unfold fEnum at q
    simp only [bnd, e] at q
    refine .inl (ra F os ρ σ H s _ hO st ?_)
    rw [e]
    exact q
  | ok ds s1 =>
    unfold fEnum at q
    simp only [bnd, e] at q
    match ds, q, e with
    | [.lst l], q, e =>
      refine .inl (ra F os ρ σ H s _ hO st ?_)
      rw [e]
      intro v H1 m1 st1 r1
      obtain ⟨u, rfl, a, vs, rfl, h1, h2⟩ := one_arg r1
      exact ⟨a, vs, rfl, seqL (hid_same _ _ _ _ h1), q _ _ m1 st1 (ite_ok h1 h2)⟩
    | [.tup l], q, e =>
      refine .inr (ra F os ρ σ H s _ hO st ?_)
      rw [e]
      intro v H1 m1 st1 r1
      obtain ⟨u, rfl, a, vs, rfl, h1, h2⟩ := one_arg r1
      exact ⟨a, vs, rfl, seqT (.inr (h1.mono (hid_same _ _))), q _ _ m1 st1 (itet_ok (seqT (.inr h1)) h2)⟩
    | [.tup0 l], q, e =>
      refine .inr (ra F os ρ σ H s _ hO st ?_)
      rw [e]
      intro v H1 m1 st1 r1
      obtain ⟨u, rfl, a, vs, rfl, h1, h2⟩ := one_arg r1
      exact ⟨a, vs, rfl, sqT_mono (hid_same _ _) h1, q _ _ m1 st1 (itet_ok h1 h2)⟩
    | [], q, _ => exact q.elim
    | _ :: _ :: _, q, _ => exact q.elim
    | [.non], q, _ => exact q.elim
    | [.bl _], q, _ => exact q.elim
    | [.int _], q, _ => exact q.elim
    | [.str _], q, _ => exact q.elim
    | [.ty _], q, _ => exact q.elim
    | [.ref _], q, _ => exact q.elim
    | [.dic _], q, _ => exact q.elim
    | [.dct _], q, _ => exact q.elim
    | [.ins _ _], q, _ => exact q.elim
    | [.rng _ _], q, _ => exact q.elim
/-! zip -/
def zipD (l m : List D) : List D := (l.zip m).map fun p => D.tup0 [p.1, p.2]
theorem zipD_get {l m : List D} {i : Nat} {x y : D} (h1 : l[i]? = some x) (h2 : m[i]? = some y) : (zipD l m)[i]? = some (.tup0 [x, y]) := by
  have z : (l.zip m)[i]? = some (x, y) := List.getElem?_zip_eq_some.mpr ⟨h1, h2⟩
  unfold zipD
  rw [List.getElem?_map, z]
  rfl
theorem zipD_len (l m : List D) : (zipD l m).length = min l.length m.length := by
  unfold zipD
  rw [List.length_map, List.length_zip]
theorem itz_ok {B : Hp} {a b : Addr} {vs ws : List V} {l m : List D} (h : B a = some (.lst vs)) (h2 : B b = some (.lst ws)) (r : RepL K B l vs) (r2 : RepL K B m ws) : IterOk K B (Itz K a b) (zipD l m) := by
  have e1 := r.len
  have e2 := r2.len
  refine ⟨fun i H s e => ?_, fun i H s lt => ?_, fun i H v H' s lt y => ?_⟩
  · rw [zipD_len] at e
    exact ⟨vs, ws, seqL (s _ _ h), seqL (s _ _ h2), by omega⟩
  · rw [zipD_len] at lt
    exact ⟨vs, ws, _, _, seqL (s _ _ h), seqL (s _ _ h2), List.getElem?_eq_getElem (by omega), List.getElem?_eq_getElem (by omega)⟩
  · rw [zipD_len] at lt
    obtain ⟨T, x, y, rfl, nT, rfl, f, g⟩ := y
    have e3 : l[i]? = some l[i] := List.getElem?_eq_getElem (by omega)
    have e4 : m[i]? = some m[i] := List.getElem?_eq_getElem (by omega)
    obtain ⟨u, e5, q1⟩ := r.get e3
    obtain ⟨u2, e6, q2⟩ := r2.get e4
    have z1 := f vs (seqL (s _ _ h))
    have z2 := g ws (seqL (s _ _ h2))
    rw [e5] at z1
    rw [e6] at z2
    cases z1
    cases z2
    exact ⟨_, zipD_get e3 e4, .inr ⟨T, _, _, rfl, nT, rfl, rfl, ⟨_, _, rfl, q1, ⟨_, _, rfl, q2, rfl⟩⟩⟩⟩
theorem itzx_ok {B : Hp} {a b : Addr} {vs ws : List V} {l m : List D} (h : SqT K B a vs) (h2 : B b = some (.lst ws)) (r : RepL K B l vs) (r2 : RepL K B m ws) (hl : l.length = m.length) : IterOk K B (ItzX K a b) (zipD l m) := by
  have e1 := r.len
  have e2 := r2.len
  refine ⟨fun i H s e => ?_, fun i H s lt => ?_, fun i H v H' s lt y => ?_⟩
  · rw [zipD_len] at e
    exact ⟨vs, ws, sqT_mono s h, seqL (s _ _ h2), by omega, by omega⟩
  · rw [zipD_len] at lt
    exact ⟨vs, ws, _, _, sqT_mono s h, seqL (s _ _ h2), List.getElem?_eq_getElem (by omega), List.getElem?_eq_getElem (by omega)⟩
  · rw [zipD_len] at lt
    obtain ⟨T, x, y, rfl, nT, rfl, f, g⟩ := y
    have e3 : l[i]? = some l[i] := List.getElem?_eq_getElem (by omega)
    have e4 : m[i]? = some m[i] := List.getElem?_eq_getElem (by omega)
    obtain ⟨u, e5, q1⟩ := r.get e3
    obtain ⟨u2, e6, q2⟩ := r2.get e4
    have z1 := f vs (sqT_mono s h)
    have z2 := g ws (seqL (s _ _ h2))
    rw [e5] at z1
    rw [e6] at z2
    cases z1
    cases z2
    exact ⟨_, zipD_get e3 e4, .inr ⟨T, _, _, rfl, nT, rfl, rfl, ⟨_, _, rfl, q1, ⟨_, _, rfl, q2, rfl⟩⟩⟩⟩
theorem itzt_ok {B : Hp} {a b : Addr} {vs ws : List V} {l m : List D} (h : SqT K B a vs) (h2 : SqT K B b ws) (r : RepL K B l vs) (r2 : RepL K B m ws) : IterOk K B (RZ.ItzT K a b) (zipD l m) := by
  have e1 := r.len
  have e2 := r2.len
  refine ⟨fun i H s e => ?_, fun i H s lt => ?_, fun i H v H' s lt y => ?_⟩
  · rw [zipD_len] at e
    exact ⟨vs, ws, sqT_mono s h, sqT_mono s h2, by omega⟩
  · rw [zipD_len] at lt
    exact ⟨vs, ws, _, _, sqT_mono s h, sqT_mono s h2, List.getElem?_eq_getElem (by omega), List.getElem?_eq_getElem (by omega)⟩
  · rw [zipD_len] at lt
    obtain ⟨T, x, y, rfl, nT, rfl, f, g⟩ := y
    have e3 : l[i]? = some l[i] := List.getElem?_eq_getElem (by omega)
    have e4 : m[i]? = some m[i] := List.getElem?_eq_getElem (by omega)
    obtain ⟨u, e5, q1⟩ := r.get e3
    obtain ⟨u2, e6, q2⟩ := r2.get e4
    have z1 := f vs (sqT_mono s h)
    have z2 := g ws (sqT_mono s h2)
    rw [e5] at z1
    rw [e6] at z2
    cases z1
    cases z2
    exact ⟨_, zipD_get e3 e4, .inr ⟨T, _, _, rfl, nT, rfl, rfl, ⟨_, _, rfl, q1, ⟨_, _, rfl, q2, rfl⟩⟩⟩⟩
def zip2 : D → D → Option (List D)
  | .lst l, .lst m => some (zipD l m)
  | .tup l, .lst m => if decide (l.length = m.length) = true then some (zipD l m) else none
  | .tup0 l, .lst m => if decide (l.length = m.length) = true then some (zipD l m) else none
  | .tup l, .tup m => some (zipD l m)
  | .tup0 l, .tup m => some (zipD l m)
  | .tup l, .tup0 m => some (zipD l m)
  | .tup0 l, .tup0 m => some (zipD l m)
  | _, _ => none
def fZip (fs : Env → M (List D)) (ρ : Env) : M (List D) := bnd (fs ρ) fun ds => match ds with
  | [x, y] => lift (zip2 x y)
  | _ => bad
theorem zip2_cases {F : Frm} {os : Own} {H : Hp} {x y : D} {z : List D} {v u : V} (e : zip2 x y = some z) (rx : Rep K (hid (wld F os) H) x v) (ry : Rep K (hid (wld F os) H) y u) :
    (∃ a b xs ys, v = .ref a ∧ u = .ref b ∧ SqL K H a xs ∧ SqL K H b ys ∧ IterOk K (hid (wld F os) H) (Itz K a b) z ∧ ∃ l, x = .lst l) ∨
    (∃ a b xs ys, v = .ref a ∧ u = .ref b ∧ SqT K H a xs ∧ SqL K H b ys ∧ IterOk K (hid (wld F os) H) (ItzX K a b) z ∧ ∀ l, x ≠ .lst l) ∨
    (∃ a b xs ys, v = .ref a ∧ u = .ref b ∧ SqT K H a xs ∧ SqT K H b ys ∧ IterOk K (hid (wld F os) H) (RZ.ItzT K a b) z ∧ ∀ l, x ≠ .lst l) := by
  have S := hid_same (wld F os) H
  have tl : ∀ (l m : List D) (a b : Addr) (vs ws : List V), v = .ref a → u = .ref b → SqT K (hid (wld F os) H) a vs → (hid (wld F os) H) b = some (.lst ws) → RepL K (hid (wld F os) H) l vs → RepL K (hid (wld F os) H) m ws →
      (if decide (l.length = m.length) = true then some (zipD l m) else none) = some z → (∃ a b xs ys, v = .ref a ∧ u = .ref b ∧ SqT K H a xs ∧ SqL K H b ys ∧ IterOk K (hid (wld F os) H) (ItzX K a b) z) := by
    intro l m a b vs ws e1 e2 h1 h2 r1 r2 g
    obtain ⟨g2, e9⟩ := ite_some g
    subst e9
    exact ⟨a, b, vs, ws, e1, e2, sqT_mono S h1, seqL (S _ _ h2), itzx_ok h1 h2 r1 r2 (of_decide_eq_true g2)⟩
  have tt : ∀ (l m : List D) (a b : Addr) (vs ws : List V), v = .ref a → u = .ref b → SqT K (hid (wld F os) H) a vs → SqT K (hid (wld F os) H) b ws → RepL K (hid (wld F os) H) l vs → RepL K (hid (wld F os) H) m ws →
      some (zipD l m) = some z → (∃ a b xs ys, v = .ref a ∧ u = .ref b ∧ SqT K H a xs ∧ SqT K H b ys ∧ IterOk K (hid (wld F os) H) (RZ.ItzT K a b) z) := by
    intro l m a b vs ws e1 e2 h1 h2 r1 r2 g
    cases g
    exact ⟨a, b, vs, ws, e1, e2, sqT_mono S h1, sqT_mono S h2, itzt_ok h1 h2 r1 r2⟩
  cases x with
  | lst l =>
    cases y with
    | lst m =>
      obtain ⟨a, vs, ea, h1, r1⟩ := rx
      obtain ⟨b, ws, eb, h2, r2⟩ := ry
      cases e
      exact .inl ⟨a, b, vs, ws, ea, eb, seqL (S _ _ h1), seqL (S _ _ h2), itz_ok h1 h2 r1 r2, l, rfl⟩
    | _ => cases e
  | tup l =>
    obtain ⟨a, vs, ea, h1, r1⟩ := rx
    cases y with
    | lst m =>
      obtain ⟨b, ws, eb, h2, r2⟩ := ry
      obtain ⟨a, b, xs, ys, z1, z2, z3, z4, z5⟩ := tl l m a b vs ws ea eb (seqT (.inr h1)) h2 r1 r2 e
      exact .inr (.inl ⟨a, b, xs, ys, z1, z2, z3, z4, z5, fun _ q => nomatch q⟩)
    | tup m =>
      obtain ⟨b, ws, eb, h2, r2⟩ := ry
      obtain ⟨a, b, xs, ys, z1, z2, z3, z4, z5⟩ := tt l m a b vs ws ea eb (seqT (.inr h1)) (seqT (.inr h2)) r1 r2 e
      exact .inr (.inr ⟨a, b, xs, ys, z1, z2, z3, z4, z5, fun _ q => nomatch q⟩)
    | tup0 m =>
      obtain ⟨b, ws, eb, h2, r2⟩ := ry
      obtain ⟨a, b, xs, ys, z1, z2, z3, z4, z5⟩ := tt l m a b vs ws ea eb (seqT (.inr h1)) h2 r1 r2 e
      exact .inr (.inr ⟨a, b, xs, ys, z1, z2, z3, z4, z5, fun _ q => nomatch q⟩)
    | _ => cases e
  | tup0 l =>
    obtain ⟨a, vs, ea, h1, r1⟩ := rx
    cases y with
    | lst m =>
      obtain ⟨b, ws, eb, h2, r2⟩ := ry
      obtain ⟨a, b, xs, ys, z1, z2, z3, z4, z5⟩ := tl l m a b vs ws ea eb h1 h2 r1 r2 e
      exact .inr (.inl ⟨a, b, xs, ys, z1, z2, z3, z4, z5, fun _ q => nomatch q⟩)
    | tup m =>
      obtain ⟨b, ws, eb, h2, r2⟩ := ry
      obtain ⟨a, b, xs, ys, z1, z2, z3, z4, z5⟩ := tt l m a b vs ws ea eb h1 (seqT (.inr h2)) r1 r2 e
      exact .inr (.inr ⟨a, b, xs, ys, z1, z2, z3, z4, z5, fun _ q => nomatch q⟩)
    | tup0 m =>
      obtain ⟨b, ws, eb, h2, r2⟩ := ry
      obtain ⟨a, b, xs, ys, z1, z2, z3, z4, z5⟩ := tt l m a b vs ws ea eb h1 h2 r1 r2 e
      exact .inr (.inr ⟨a, b, xs, ys, z1, z2, z3, z4, z5, fun _ q => nomatch q⟩)
    | _ => cases e
  | _ => cases e
theorem mi_zip {e e2 : Expr} {fs : Env → M (List D)} {p pos tpos : Pos} {elts : List Expr} {kk : Nat} (hg : ∀ j, Gl (Φ.X j) "zip") (hm : mg "zip" = none) (ha : MA Φ cl O [e, e2] fs)
    (hs : ∀ env, starEach [e, e2] env = (false, eval e env) :: starEach [e2] env := by intro _; rfl) (hpl : ∀ env, (backTo pos (starEach [e2] env)).any (·.1) = false := by intro _; rfl) :
    MI Φ cl O (.Tuple elts kk tpos) (.Call (.Name "zip" p) [e, e2] [] pos) (fZip fs) := by
  obtain ⟨t, pa, ra⟩ := ha
  refine ⟨fun σ H R => iZip K t σ H R ∨ iZipX K t σ H R, fun j => by
    have z1 := pi_zip (elts := elts) (kk := kk) (tpos := tpos) (p := p) (pos := pos) (hg j) (by rw [Φ.hmg]; exact hm) (pa j) (hs _) (hpl _)
    have z2 := pi_zipX (elts := elts) (kk := kk) (tpos := tpos) (p := p) (pos := pos) (hg j) (by rw [Φ.hmg]; exact hm) (pa j) (hs _) (hpl _)
    rw [Φ.hK j] at z1 z2
    exact PI.or z1 z2, fun F os ρ σ H s R hO st q => ?_⟩
  cases e : fs ρ s with
  | bad =>
    unfold fZip at q
    simp only [bnd, e] at q
    exact q.elim
  | exc nm fs s1 =>
    unfold fZip at q
    simp only [bnd, e] at q
    refine .inl (ra F os ρ σ H s _ hO st ?_)
    rw [e]
    exact q
  | ok ds s1 =>
    unfold fZip at q
    simp only [bnd, e] at q
    match ds, q, e with
    | [x, y], q, e =>
      have q : satI K cl E F os ρ σ H R (lift (zip2 x y) s1) := q
      cases ez : zip2 x y with
      | none =>
        rw [ez] at q
        exact q.elim
      | some z =>
        rw [ez] at q
        by_cases c : ∃ l, x = .lst l
        · refine .inl (ra F os ρ σ H s _ hO st ?_)
          rw [e]
          intro vv H1 m1 st1 r1
          obtain ⟨v, u, rfl, rx, ry⟩ := two_args r1
          rcases zip2_cases ez rx ry with ⟨a, b, xs, ys, rfl, rfl, h1, h2, h3, _⟩ | ⟨_, _, _, _, _, _, _, _, _, n⟩ | ⟨_, _, _, _, _, _, _, _, _, n⟩
          · exact ⟨a, b, xs, ys, rfl, h1, h2, q _ _ m1 st1 h3⟩
          · exact absurd c.choose_spec (n _)
          · exact absurd c.choose_spec (n _)
        · refine .inr (ra F os ρ σ H s _ hO st ?_)
          rw [e]
          intro vv H1 m1 st1 r1
          obtain ⟨v, u, rfl, rx, ry⟩ := two_args r1
          rcases zip2_cases ez rx ry with ⟨_, _, _, _, _, _, _, _, _, n⟩ | ⟨a, b, xs, ys, rfl, rfl, h1, h2, h3, _⟩ | ⟨a, b, xs, ys, rfl, rfl, h1, h2, h3, _⟩
          · exact absurd n c
          · exact ⟨a, b, xs, ys, rfl, .inl ⟨h1, h2, q _ _ m1 st1 h3⟩⟩
          · exact ⟨a, b, xs, ys, rfl, .inr ⟨h1, h2, q _ _ m1 st1 h3⟩⟩
    | [], q, _ => exact q.elim
    | [_], q, _ => exact q.elim
    | _ :: _ :: _ :: _, q, _ => exact q.elim
end
end Dm

namespace Dm
open PySem PySem.Spec PyProof.Rows L2 My
/-! ### owned lists -/
theorem lookup_cons_ne {os : Own} {k i : Nat} {a : Addr} (h : i ≠ k) : ((k, a) :: os).lookup i = os.lookup i := by
  rw [List.lookup_cons, beq_false_of_ne h]
theorem lookup_cons_eq {os : Own} {k : Nat} {a : Addr} : ((k, a) :: os).lookup k = some a := by
  rw [List.lookup_cons, beq_self_eq_true]
def drp (os : Own) (i : Nat) : Own := os.filter fun p => p.1 != i
def drpO (O : List Nat) (i : Nat) : List Nat := O.filter fun k => k != i
theorem drp_map (os : Own) (i : Nat) : (drp os i).map (·.1) = drpO (os.map (·.1)) i := by
  induction os with
  | nil => rfl
  | cons p os ih =>
    unfold drp drpO at *
    rw [List.map_cons, List.filter_cons, List.filter_cons]
    by_cases c : (p.1 != i) = true
    · rw [if_pos c, if_pos c, List.map_cons, ih]
    · rw [if_neg c, if_neg c, ih]
theorem drp_lookup {i j : Nat} (h : j ≠ i) : ∀ os : Own, (drp os i).lookup j = os.lookup j
  | [] => rfl
  | (k, a) :: os => by
    have ih := drp_lookup h os
    unfold drp at *
    rw [List.filter_cons]
    by_cases c : (k != i) = true
    · rw [if_pos c]
      by_cases e : j = k
      · subst e
        rw [lookup_cons_eq, lookup_cons_eq]
      · rw [lookup_cons_ne e, lookup_cons_ne e, ih]
    · rw [if_neg c, ih]
      have : k = i := by simpa using c
      rw [lookup_cons_ne (by rw [this]; exact h)]
theorem drp_self (i : Nat) : ∀ os : Own, (drp os i).lookup i = none := fun os => lookup_none fun z => by
  obtain ⟨p, hp, e⟩ := List.mem_map.mp z
  have := (List.mem_filter.mp hp).2
  rw [e] at this
  simp at this
theorem drp_sub {os : Own} {i : Nat} : ∀ p ∈ drp os i, p ∈ os := fun p h => (List.mem_filter.mp h).1
section
variable {K : Fr} {F : Frm} {os : Own} {ρ : Env} {σ : L2.St} {H H' : Hp} {s s' : BS} {D₀ : Addr} {vs : List V} {k i : Nat}
theorem wld_cons {p : Nat × Addr} : wld F (p :: os) = p.2 :: wld F os := rfl
theorem hid_grow (nD : H D₀ = none) (hq : F.q ∈ wld F os) (m : Mw F.q H H') : Same (hid (wld F os) H) (hid (D₀ :: wld F os) H') := fun a o e => by
  obtain ⟨n, e, nt⟩ := hid_of e
  have na : a ≠ D₀ := ne_of_none e nD
  exact hid_at (fun z => (List.mem_cons.mp z).elim na n) nt (m.keep _ _ (fun z => n (by rw [z]; exact hq)) nt e)
/-- a new list that nobody else knows -/
theorem StOk.grow (st : StOk K F os ρ σ H s) (nD : H D₀ = none) (m : Mw F.q H H') {o : HO} (eD : H' D₀ = some o) (b : BagAt F.T F.q F.c H' s') (hk : ρ.length ≤ k) (nt : isTbl o = false := by rfl) : StOk K F ((k, D₀) :: os) ρ σ H' s' where
  mv := st.mv.trans m
  fok := st.fok
  bag := b
  new := fun p hp => by
    rcases List.mem_cons.mp hp with e | hp
    · rw [e]
      exact st.fresh0 (.of nD)
    · exact st.new p hp
  thr := fun p hp => by
    rcases List.mem_cons.mp hp with e | hp
    · rw [e]
      exact ⟨o, eD, nt⟩
    · obtain ⟨o, e, t⟩ := st.thr p hp
      exact ⟨o, m.keep _ _ (st.own_q hp) t e, t⟩
  nd := by
    refine List.nodup_cons.mpr ⟨fun z => st.fresh nD (List.mem_append_left _ z), st.nd⟩
  len := st.len
  few := st.few
  frz := st.frz.trans (hid_grow nD st.qW m)
  slots := fun i d e => by
    obtain ⟨v, e1, e2⟩ := st.slots i d e
    have hi : i < ρ.length := (List.getElem?_eq_some_iff.mp e).1
    refine ⟨v, e1, ?_⟩
    rw [lookup_cons_ne (by omega)]
    exact e2.mono (hid_grow nD st.qW m) fun a ea o t e3 => m.keep _ _ (st.own_q (lookup_mem ea)) t e3
theorem hid_drp (i : Nat) : Same (hid (wld F os) H) (hid (wld F (drp os i)) H) := hid_sub fun a ha => by
  rcases List.mem_append.mp ha with z | z
  · obtain ⟨p, hp, e⟩ := List.mem_map.mp z
    exact List.mem_append_left _ (List.mem_map.mpr ⟨p, drp_sub p hp, e⟩)
  · exact List.mem_append_right _ z
theorem nodup_addr {os : Own} (nd : (os.map (·.2)).Nodup) {p r : Nat × Addr} (hp : p ∈ os) (hr : r ∈ os) (e : p.2 = r.2) : p = r := by
  obtain ⟨i, hi, ei⟩ := List.mem_iff_getElem.mp hp
  obtain ⟨j, hj, ej⟩ := List.mem_iff_getElem.mp hr
  have : i = j := by
    have z1 : (os.map (·.2))[i]'(by rw [List.length_map]; exact hi) = (os.map (·.2))[j]'(by rw [List.length_map]; exact hj) := by
      rw [List.getElem_map, List.getElem_map, ei, ej, e]
    exact (List.getElem_inj nd).mp z1
  subst this
  rw [← ei, ← ej]
/-- the list of a slot is known to others from here on -/
theorem StOk.freeze (st : StOk K F os ρ σ H s) (i : Nat) : StOk K F (drp os i) ρ σ H s where
  mv := st.mv
  fok := st.fok
  bag := st.bag
  new := fun p hp => st.new p (drp_sub p hp)
  thr := fun p hp => st.thr p (drp_sub p hp)
  nd := by
    have h := st.nd
    unfold drp
    exact List.Nodup.sublist ((List.filter_sublist (l := os)).map _) h
  len := st.len
  few := st.few
  frz := st.frz.trans (hid_drp i)
  slots := fun j d e => by
    obtain ⟨v, e1, e2⟩ := st.slots j d e
    refine ⟨v, e1, ?_⟩
    by_cases c : j = i
    · subst c
      rw [drp_self]
      cases el : os.lookup j with
      | none =>
        rw [el] at e2
        exact Rep.mono (hid_drp j) _ e2
      | some a =>
        rw [el] at e2
        obtain ⟨rfl, o, e3, e4⟩ := e2
        have ma := lookup_mem el
        have out : a ∉ wld F (drp os j) := fun z => by
          rcases List.mem_append.mp z with z | z
          · obtain ⟨p, hp, ep⟩ := List.mem_map.mp z
            have q := nodup_addr st.nd (drp_sub p hp) ma ep
            have := (List.mem_filter.mp hp).2
            rw [q] at this
            simp at this
          · exact st.own_ne ma z
        rcases e4 with ⟨l, vs, rfl, rfl, e4⟩ | ⟨l, vs, rfl, rfl, e4⟩
        · exact ⟨a, vs, rfl, hid_at out rfl e3, RepL.mono (hid_drp j) _ e4⟩
        · exact ⟨a, vs, rfl, hid_at out rfl e3, RepT.mono (hid_drp j) _ e4⟩
    · rw [drp_lookup c]
      exact e2.mono (hid_drp i) fun _ _ _ _ e => e
/-- the nameless list at the head is known to others from here on -/
theorem StOk.tell {l : List D} (st : StOk K F ((k, D₀) :: os) ρ σ H s) (hk : ρ.length ≤ k) (e : H D₀ = some (.lst vs)) (r : RepL K (hid (wld F ((k, D₀) :: os)) H) l vs) : StOk K F os ρ σ H s ∧ Rep K (hid (wld F os) H) (.lst l) (.ref D₀) := by
  have sub : Same (hid (wld F ((k, D₀) :: os)) H) (hid (wld F os) H) := hid_sub fun a ha => List.mem_cons_of_mem _ ha
  refine ⟨⟨st.mv, st.fok, st.bag, fun p hp => st.new p (List.mem_cons_of_mem _ hp), fun p hp => st.thr p (List.mem_cons_of_mem _ hp), (List.nodup_cons.mp st.nd).2, st.len, st.few, st.frz.trans sub, fun j d ej => ?_⟩, D₀, vs, rfl, ?_, RepL.mono sub _ r⟩
  · obtain ⟨v, e1, e2⟩ := st.slots j d ej
    have hj : j < ρ.length := (List.getElem?_eq_some_iff.mp ej).1
    rw [lookup_cons_ne (by omega)] at e2
    exact ⟨v, e1, e2.mono sub fun _ _ _ _ e => e⟩
  · refine hid_at ?_ rfl e
    · intro z
      rcases List.mem_append.mp z with z | z
      · exact (List.nodup_cons.mp st.nd).1 z
      · exact st.own_ne (p := (k, D₀)) List.mem_cons_self z
/-! slots -/
theorem StOk.set (st : StOk K F os ρ σ H s) {d : D} {v : V} (hi : os.lookup i = none) (r : Rep K (hid (wld F os) H) d v) : StOk K F os (ρ.set i (some d)) (σ.set i (some v)) H s where
  mv := st.mv
  fok := st.fok
  bag := st.bag
  new := st.new
  thr := st.thr
  nd := st.nd
  len := by rw [List.length_set, List.length_set, st.len]
  few := by rw [List.length_set]; exact st.few
  frz := st.frz
  slots := fun j e ej => by
    by_cases c : i = j
    · subst c
      by_cases lt : i < ρ.length
      · rw [List.getElem?_set_self lt] at ej
        cases ej
        refine ⟨v, List.getElem?_set_self (by rw [st.len]; exact lt), ?_⟩
        rw [hi]
        exact r
      · rw [List.getElem?_eq_none (by rw [List.length_set]; omega)] at ej
        cases ej
    · rw [List.getElem?_set_ne c] at ej
      obtain ⟨u, e1, e2⟩ := st.slots j e ej
      exact ⟨u, by rw [List.getElem?_set_ne c]; exact e1, e2⟩
/-- a slot gets the nameless list at the head -/
theorem StOk.setOwn {l : List D} (st : StOk K F ((k, D₀) :: os) ρ σ H s) (hk : ρ.length ≤ k) (e : H D₀ = some (.lst vs)) (r : RepL K (hid (wld F ((k, D₀) :: os)) H) l vs) :
    StOk K F ((i, D₀) :: drp os i) (ρ.set i (some (.lst l))) (σ.set i (some (.ref D₀))) H s := by
  have sub : Same (hid (wld F ((k, D₀) :: os)) H) (hid (wld F ((i, D₀) :: drp os i)) H) := hid_sub fun a ha => by
    rcases List.mem_cons.mp ha with z | z
    · rw [z]
      exact List.mem_cons_self
    · refine List.mem_cons_of_mem _ ?_
      rcases List.mem_append.mp z with z | z
      · obtain ⟨p, hp, e⟩ := List.mem_map.mp z
        exact List.mem_append_left _ (List.mem_map.mpr ⟨p, drp_sub p hp, e⟩)
      · exact List.mem_append_right _ z
  refine ⟨st.mv, st.fok, st.bag, fun p hp => ?_, fun p hp => ?_, ?_, by rw [List.length_set, List.length_set, st.len], by rw [List.length_set]; exact st.few, st.frz.trans sub, fun j d ej => ?_⟩
  · rcases List.mem_cons.mp hp with e | hp
    · rw [e]
      exact st.new (k, D₀) List.mem_cons_self
    · exact st.new p (List.mem_cons_of_mem _ (drp_sub p hp))
  · rcases List.mem_cons.mp hp with e2 | hp
    · rw [e2]
      exact ⟨_, e, rfl⟩
    · exact st.thr p (List.mem_cons_of_mem _ (drp_sub p hp))
  · have h := List.nodup_cons.mp st.nd
    refine List.nodup_cons.mpr ⟨fun z => ?_, ?_⟩
    · obtain ⟨p, hp, e⟩ := List.mem_map.mp z
      exact h.1 (List.mem_map.mpr ⟨p, drp_sub p hp, e⟩)
    · unfold drp
      exact List.Nodup.sublist ((List.filter_sublist (l := os)).map _) h.2
  · by_cases c : i = j
    · subst c
      by_cases lt : i < ρ.length
      · rw [List.getElem?_set_self lt] at ej
        cases ej
        refine ⟨.ref D₀, List.getElem?_set_self (by rw [st.len]; exact lt), ?_⟩
        rw [lookup_cons_eq]
        exact ⟨rfl, _, e, .inl ⟨l, vs, rfl, rfl, RepL.mono sub _ r⟩⟩
      · rw [List.getElem?_eq_none (by rw [List.length_set]; omega)] at ej
        cases ej
    · rw [List.getElem?_set_ne c] at ej
      obtain ⟨u, e1, e2⟩ := st.slots j d ej
      have hj : j < ρ.length := (List.getElem?_eq_some_iff.mp ej).1
      refine ⟨u, by rw [List.getElem?_set_ne c]; exact e1, ?_⟩
      rw [lookup_cons_ne (by omega)] at e2
      rw [lookup_cons_ne (Ne.symm c), drp_lookup (Ne.symm c)]
      exact e2.mono sub fun _ _ _ _ e => e
theorem owned_at {l : List D} {a : Addr} (st : StOk K F os ρ σ H s) (el : os.lookup i = some a) (eρ : ρ[i]? = some (some (.lst l))) : ∃ vs, H a = some (.lst vs) := by
  obtain ⟨v, e1, e2⟩ := st.slots i _ eρ
  rw [el] at e2
  obtain ⟨_, o, e3, e4⟩ := e2
  obtain ⟨ws, rfl, _⟩ := e4.lst
  exact ⟨ws, e3⟩
/-- the list of a slot is changed -/
theorem StOk.upd {l l' : List D} {vs' : List V} {a : Addr} (st : StOk K F os ρ σ H s) (el : os.lookup i = some a) (eρ : ρ[i]? = some (some (.lst l))) (r : RepL K (hid (wld F os) H) l' vs') :
    StOk K F os (ρ.set i (some (.lst l'))) σ (L2.upd H a (.lst vs')) s := by
  have ma := lookup_mem el
  have aW : a ∈ wld F os := List.mem_append_left _ (List.mem_map.mpr ⟨_, ma, rfl⟩)
  have eh : hid (wld F os) (L2.upd H a (.lst vs')) = hid (wld F os) H := hid_upd_in aW
  have naq : a ≠ F.q := st.own_q ma
  have nac : a ≠ F.c := fun z => st.own_ne ma (by rw [z]; exact st.fok.cW)
  have lt : i < ρ.length := (List.getElem?_eq_some_iff.mp eρ).1
  refine ⟨st.mv.updL (st.new (i, a) ma) (owned_at st el eρ).choose_spec, st.fok, ⟨st.bag.eT, tabs_updL st.bag.tabs (owned_at st el eρ).choose_spec, st.bag.eq, ?_, ?_⟩, st.new, fun p hp => ?_, st.nd, by rw [List.length_set, st.len], by rw [List.length_set]; exact st.few, ?_, fun j d ej => ?_⟩
  · rw [upd_ne (Ne.symm naq)]
    exact st.bag.at_
  · rw [upd_ne (Ne.symm nac)]
    exact st.bag.cells
  · by_cases c : p.2 = a
    · exact ⟨_, by rw [c, upd_same], rfl⟩
    · obtain ⟨ws, e, t⟩ := st.thr p hp
      exact ⟨ws, by rw [upd_ne c]; exact e, t⟩
  · rw [eh]
    exact st.frz
  · rw [eh]
    by_cases c : i = j
    · subst c
      rw [List.getElem?_set_self lt] at ej
      cases ej
      obtain ⟨v, e1, e2⟩ := st.slots i _ eρ
      rw [el] at e2
      obtain ⟨rfl, _⟩ := e2
      refine ⟨.ref a, e1, ?_⟩
      rw [el]
      exact ⟨rfl, _, upd_same, .inl ⟨l', vs', rfl, rfl, r⟩⟩
    · rw [List.getElem?_set_ne c] at ej
      obtain ⟨u, e1, e2⟩ := st.slots j d ej
      refine ⟨u, e1, e2.mono (Same.refl _) fun b eb ws _ e3 => ?_⟩
      have nb : b ≠ a := fun z => by
        have q := nodup_addr st.nd (lookup_mem eb) ma z
        have := congrArg Prod.fst q
        exact c this.symm
      rw [upd_ne nb]
      exact e3
/-! wiped slots -/
def wipeE (ρ : Env) : List Nat → Env
  | [] => ρ
  | v :: vs => (wipeE ρ vs).set v none
theorem wipe_get (σ : L2.St) (j : Nat) : ∀ us : List Nat, (wipe σ us)[j]? = if j ∈ us then (σ[j]?).map fun _ => none else σ[j]?
  | [] => by rw [if_neg (by simp)]; rfl
  | v :: us => by
    have ih := wipe_get σ j us
    show ((wipe σ us).set v none)[j]? = _
    by_cases c : v = j
    · subst c
      rw [if_pos List.mem_cons_self]
      by_cases lt : v < σ.length
      · rw [List.getElem?_set_self (by rw [wipe_length]; exact lt), List.getElem?_eq_getElem lt]
        rfl
      · rw [List.getElem?_eq_none (by rw [List.length_set, wipe_length]; omega), List.getElem?_eq_none (by omega)]
        rfl
    · rw [List.getElem?_set_ne c, ih]
      by_cases m : j ∈ us
      · rw [if_pos m, if_pos (List.mem_cons_of_mem _ m)]
      · rw [if_neg m, if_neg fun z => (List.mem_cons.mp z).elim (fun e => c e.symm) m]
theorem wipeE_get (ρ : Env) (j : Nat) : ∀ us : List Nat, (wipeE ρ us)[j]? = if j ∈ us then (ρ[j]?).map fun _ => none else ρ[j]?
  | [] => by rw [if_neg (by simp)]; rfl
  | v :: us => by
    have ih := wipeE_get ρ j us
    have len : ∀ us : List Nat, (wipeE ρ us).length = ρ.length := fun us => by
      induction us with
      | nil => rfl
      | cons v us ih => show ((wipeE ρ us).set v none).length = _; rw [List.length_set, ih]
    show ((wipeE ρ us).set v none)[j]? = _
    by_cases c : v = j
    · subst c
      rw [if_pos List.mem_cons_self]
      by_cases lt : v < ρ.length
      · rw [List.getElem?_set_self (by rw [len]; exact lt), List.getElem?_eq_getElem lt]
        rfl
      · rw [List.getElem?_eq_none (by rw [List.length_set, len]; omega), List.getElem?_eq_none (by omega)]
        rfl
    · rw [List.getElem?_set_ne c, ih]
      by_cases m : j ∈ us
      · rw [if_pos m, if_pos (List.mem_cons_of_mem _ m)]
      · rw [if_neg m, if_neg fun z => (List.mem_cons.mp z).elim (fun e => c e.symm) m]
theorem wipeE_len (ρ : Env) : ∀ us : List Nat, (wipeE ρ us).length = ρ.length
  | [] => rfl
  | v :: us => by show ((wipeE ρ us).set v none).length = _; rw [List.length_set, wipeE_len ρ us]
theorem wipe_idem (σ : L2.St) (us : List Nat) : wipe (wipe σ us) us = wipe σ us := by
  refine List.ext_getElem? fun j => ?_
  rw [wipe_get (wipe σ us), wipe_get]
  by_cases c : j ∈ us
  · rw [if_pos c, if_pos c, Option.map_map]
    rfl
  · rw [if_neg c, if_neg c]
theorem wipe_set {i : Nat} {x : Option V} {us : List Nat} (h : i ∈ us) : wipe (σ.set i x) us = wipe σ us := by
  refine List.ext_getElem? fun j => ?_
  rw [wipe_get (σ.set i x), wipe_get]
  by_cases c : j ∈ us
  · rw [if_pos c, if_pos c]
    by_cases e : i = j
    · subst e
      by_cases lt : i < σ.length
      · rw [List.getElem?_set_self lt, List.getElem?_eq_getElem lt]
        rfl
      · rw [List.getElem?_eq_none (by rw [List.length_set]; omega), List.getElem?_eq_none (by omega)]
    · rw [List.getElem?_set_ne e]
  · rw [if_neg c, if_neg c, List.getElem?_set_ne (fun e => c (by rw [← e]; exact h))]
theorem StOk.wipe (st : StOk K F os ρ σ H s) (us : List Nat) : StOk K F os (wipeE ρ us) (L2.wipe σ us) H s where
  mv := st.mv
  fok := st.fok
  bag := st.bag
  new := st.new
  thr := st.thr
  nd := st.nd
  len := by rw [wipe_length, wipeE_len, st.len]
  few := by rw [wipeE_len]; exact st.few
  frz := st.frz
  slots := fun j d e => by
    rw [wipeE_get] at e
    by_cases c : j ∈ us
    · rw [if_pos c] at e
      cases h : ρ[j]? with
      | none =>
        rw [h] at e
        cases e
      | some o =>
        rw [h] at e
        cases e
    · rw [if_neg c] at e
      obtain ⟨v, e1, e2⟩ := st.slots j d e
      exact ⟨v, by rw [wipe_get, if_neg c]; exact e1, e2⟩
end
/-! ### targets -/
section
variable {P : Program} {w : World} {K : Fr} {mg : Str → Option Value} {base : Heap} {cl : Str → Addr} {E : SK} {Φ : Cxs P w K mg base E} {O : List Nat}
def RG (K : Fr) (O : List Nat) (t : TG) (vs : List Nat) (g : D → Env → Option Env) : Prop := ∀ (F : Frm) (os : Own) (ρ : Env) (σ : L2.St) (H : Hp) (s : BS) (Q : L2.St → Hp → Prop) (d : D) (v : V) (ρ' : Env), os.map (·.1) = O → StOk K F os ρ σ H s →
  Rep K (hid (wld F os) H) d v → g d ρ = some ρ' → (∀ σ', StOk K F os ρ' σ' H s → (∀ us : List Nat, (∀ i ∈ vs, i ∈ us) → wipe σ' us = wipe σ us) → Q σ' H) → t v σ H Q
def RGs (K : Fr) (O : List Nat) (t : TGs) (vs : List Nat) (g : List D → Env → Option Env) : Prop := ∀ (F : Frm) (os : Own) (ρ : Env) (σ : L2.St) (H : Hp) (s : BS) (Q : L2.St → Hp → Prop) (d : List D) (v : List V) (ρ' : Env), os.map (·.1) = O → StOk K F os ρ σ H s →
  RepL K (hid (wld F os) H) d v → g d ρ = some ρ' → (∀ σ', StOk K F os ρ' σ' H s → (∀ us : List Nat, (∀ i ∈ vs, i ∈ us) → wipe σ' us = wipe σ us) → Q σ' H) → t v σ H Q
def MG (Φ : Cxs P w K mg base E) (O : List Nat) (tg : Expr) (vs : List Nat) (g : D → Env → Option Env) : Prop := ∃ t, (∀ j, PG (Φ.X j) tg t) ∧ RG K O t vs g
def MGs (Φ : Cxs P w K mg base E) (O : List Nat) (tg : List Expr) (vs : List Nat) (g : List D → Env → Option Env) : Prop := ∃ t, (∀ j, PGs (Φ.X j) tg t) ∧ RGs K O t vs g
def gNm (i : Nat) (d : D) (ρ : Env) : Option Env := some (ρ.set i (some d))
def gsNil : List D → Env → Option Env
  | [], ρ => some ρ
  | _, _ => none
def gsCons (g : D → Env → Option Env) (gs : List D → Env → Option Env) : List D → Env → Option Env
  | d :: l, ρ => match g d ρ with
    | some ρ' => gs l ρ'
    | none => none
  | [], _ => none
def gTp (n : Nat) (gs : List D → Env → Option Env) : D → Env → Option Env
  | .tup l, ρ => if decide (l.length = n) = true then gs l ρ else none
  | .tup0 l, ρ => if decide (l.length = n) = true then gs l ρ else none
  | _, _ => none
theorem mg_name {i : Nat} {x : Str} {pos : Pos} (hi : ∀ j, (Φ.X j).N[i]? = some x) (hx : ∀ j, Loc (Φ.X j).env.scope x) (hf : ∀ j, (Φ.X j).fn x = true ∨ (Φ.X j).env.scope.names.lookup x = some .local) (hO : i ∉ O) : MG Φ O (.Name x pos) [i] (gNm i) := by
  refine ⟨gName i, fun j => pg_name (Φ.nd j) (hi j) (hx j) (hf j), fun F os ρ σ H s Q d v ρ' hO2 st r e q => ?_⟩
  cases e
  exact q _ (st.set (lookup_none (by rw [hO2]; exact hO)) r) fun us hu => wipe_set (hu i List.mem_cons_self)
theorem mgs_nil : MGs Φ O [] [] gsNil := by
  refine ⟨gNil, fun j => pgs_nil, fun F os ρ σ H s Q d v ρ' hO2 st r e q => ?_⟩
  cases d with
  | nil =>
    cases e
    exact ⟨r, q _ st fun _ _ => rfl⟩
  | cons _ _ => cases e
theorem mgs_cons {e : Expr} {es : List Expr} {vs ws : List Nat} {g : D → Env → Option Env} {gs : List D → Env → Option Env} (h : MG Φ O e vs g) (h2 : MGs Φ O es ws gs)
    (hs : ∀ env, (assignEach (e :: es) env).map (·.2) = assign e env :: (assignEach es env).map (·.2) := by intro _; rfl) : MGs Φ O (e :: es) (vs ++ ws) (gsCons g gs) := by
  obtain ⟨t, p, r⟩ := h
  obtain ⟨u, p2, r2⟩ := h2
  refine ⟨gCons t u, fun j => pgs_cons (p j) (p2 j) (hs _), fun F os ρ σ H s Q d v ρ' hO st rp e q => ?_⟩
  cases d with
  | nil => cases e
  | cons d l =>
    obtain ⟨x, xs, rfl, h1, h2⟩ := rp
    have e : (match g d ρ with | some ρ' => gs l ρ' | none => none) = some ρ' := e
    cases eg : g d ρ with
    | none =>
      rw [eg] at e
      cases e
    | some ρ1 =>
      rw [eg] at e
      refine ⟨x, xs, rfl, r F os ρ σ H s _ d x ρ1 hO st h1 eg fun σ1 st1 w1 => ?_⟩
      refine r2 F os ρ1 σ1 H s Q l xs ρ' hO st1 h2 e fun σ2 st2 w2 => ?_
      exact q σ2 st2 fun us hu => (w2 us fun i hi => hu i (List.mem_append_right _ hi)).trans (w1 us fun i hi => hu i (List.mem_append_left _ hi))
theorem mg_tup {es : List Expr} {k n : Nat} {vs : List Nat} {gs : List D → Env → Option Env} {pos : Pos} (h : MGs Φ O es vs gs) (hn : ∀ env, (assignEach es env).length = n := by intro _; rfl) (hst : ∀ env, (assignEach es env).findIdx? (·.1) = none := by intro _; rfl) :
    MG Φ O (.Tuple es k pos) vs (gTp n gs) := by
  obtain ⟨t, p, r⟩ := h
  refine ⟨gTup K n t, fun j => by have z := pg_tup (k := k) (pos := pos) (Φ.calm j) (p j) (hn _) (hst _); rwa [Φ.hK j] at z, fun F os ρ σ H s Q d v ρ' hO st rp e q => ?_⟩
  have fin : ∀ (l : List D) (a : Addr) (vs : List V), v = .ref a → SqT K H a vs → RepL K (hid (wld F os) H) l vs → (if decide (l.length = n) = true then gs l ρ else none) = some ρ' → gTup K n t v σ H Q := by
    intro l a xs ev h1 h2 e
    by_cases c : l.length = n
    · rw [if_pos (decide_eq_true c)] at e
      exact ⟨a, xs, ev, h1, by rw [← h2.len]; exact c, r F os ρ σ H s Q l xs ρ' hO st h2 e q⟩
    · rw [if_neg (by rw [decide_eq_false c]; exact Bool.false_ne_true)] at e
      cases e
  cases d with
  | tup l =>
    obtain ⟨a, xs, ev, h1, h2⟩ := rp
    exact fin l a xs ev (seqT (.inr (h1.mono (hid_same _ _)))) h2 e
  | tup0 l =>
    obtain ⟨a, xs, ev, h1, h2⟩ := rp
    exact fin l a xs ev (sqT_mono (hid_same _ _) h1) h2 e
  | _ => cases e
/-! ### fresh lists -/
def satR (K : Fr) (cl : Str → Addr) (E : SK) (F : Frm) (os : Own) (ρ : Env) (σ : L2.St) (H : Hp) (Q : VK) : Res (List D) → Prop
  | .ok l s' => ∀ a vs H', Mw F.q H H' → StOk K F ((999, a) :: os) ρ σ H' s' → H' a = some (.lst vs) → RepL K (hid (wld F ((999, a) :: os)) H') l vs → Q (.ref a) H'
  | .exc nm fs s' => exOk K cl (E σ) F nm fs s'
  | .bad => False
def RFr (K : Fr) (cl : Str → Addr) (E : SK) (O : List Nat) (t : TE) (f : Env → M (List D)) : Prop := ∀ (F : Frm) (os : Own) (ρ : Env) (σ : L2.St) (H : Hp) (s : BS) (Q : VK), os.map (·.1) = O → StOk K F os ρ σ H s → satR K cl E F os ρ σ H Q (f ρ s) → t σ H Q
def MF (Φ : Cxs P w K mg base E) (cl : Str → Addr) (O : List Nat) (e : Expr) (f : Env → M (List D)) : Prop := ∃ t, (∀ j, PE (Φ.X j) e t) ∧ RFr K cl E O t f
def fL (f : Env → M (List D)) (ρ : Env) : M D := bnd (f ρ) fun l => ret (.lst l)
theorem me_ofF {e : Expr} {f : Env → M (List D)} (h : MF Φ cl O e f) : ME Φ cl O e (fL f) := by
  obtain ⟨t, p, r⟩ := h
  refine ⟨t, p, fun F os ρ σ H s Q hO st q => ?_⟩
  refine r F os ρ σ H s Q hO st ?_
  unfold fL at q
  cases e : f ρ s with
  | bad =>
    simp only [bnd, e] at q
    exact q
  | exc nm fs s1 =>
    simp only [bnd, e] at q
    exact q
  | ok l s1 =>
    simp only [bnd, e] at q
    intro a vs H' m st' ea r'
    obtain ⟨st2, r2⟩ := st'.tell (by have := st'.few; omega) ea r'
    exact q _ _ m st2 r2
theorem new_own {F : Frm} {os : Own} {ρ : Env} {σ : L2.St} {H : Hp} {s : BS} (st : StOk K F os ρ σ H s) {Q : VK} {l : List D} {vs : List V} (r : RepL K (hid (wld F os) H) l vs)
    (q : ∀ a vs H', Mw F.q H H' → StOk K F ((999, a) :: os) ρ σ H' s → H' a = some (.lst vs) → RepL K (hid (wld F ((999, a) :: os)) H') l vs → Q (.ref a) H') (p : Addr) (np : H p = none) : Q (.ref p) (upd H p (.lst vs)) := by
  have m : Mw F.q H (upd H p (.lst vs)) := mv_new np
  refine q p vs _ m (st.grow np m upd_same (st.bag.mv (same_new np)) (by have := st.few; omega)) upd_same ?_
  exact RepL.mono (hid_grow np st.qW m) _ r
def fF (fs : Env → M (List D)) (ρ : Env) : M (List D) := bnd (fs ρ) fun l => if szOk l.length = true then ret l else bad
section
variable {F : Frm} {os : Own} {ρ : Env} {σ : L2.St} {H : Hp} {s : BS}
abbrev hxR {Q : VK} : ∀ nm fs s', satR K cl E F os ρ σ H Q (.exc nm fs s') → exOk K cl (E σ) F nm fs s' := fun _ _ _ h => h
abbrev hbR {Q : VK} : ¬ satR K cl E F os ρ σ H Q .bad := fun h => h
end
theorem mf_lst {es : List Expr} {fs : Env → M (List D)} {pos : Pos} (h : MA Φ cl O es fs) : MF Φ cl O (.List es pos) (fF fs) := by
  obtain ⟨t, p, r⟩ := h
  refine ⟨_, fun j => pe_lst (p j), fun F os ρ σ H s Q hO st q => ?_⟩
  refine r.bind hO st hxR hbR q fun l s1 vs H1 m1 st1 r1 q1 => ?_
  cases z : szOk l.length with
  | false =>
    simp only [z] at q1
    exact q1.elim
  | true =>
    simp only [z] at q1
    refine ⟨by rw [← r1.len]; exact Nat.le_of_lt (szOk_lt z), fun p np => ?_⟩
    exact new_own st1 r1 (fun a vs H' m st' e r' => q1 a vs H' (m1.trans m) st' e r') p np
end
end Dm

namespace Dm
open PySem PySem.Spec PyProof.Rows L2 My
/-! ### comprehensions -/
def noE : SK := fun _ _ _ _ => False
section
variable {P : Program} {w : World} {K : Fr} {mg : Str → Option Value} {base : Heap} {cl : Str → Addr} {E : SK} {O : List Nat}
abbrev Cxs.blk (Φ : Cxs P w K mg base E) (scope : Scope) : Cxs P w K mg base noE where
  ι := Φ.ι × Shared × Hp × Addr × List (Str × Addr) × List Addr
  X := fun p => (Φ.X p.1).blk p.2.1 p.2.2.1 scope (compEnvC scope p.2.2.2.2.1 p.2.2.2.1 (Φ.X p.1).env) p.2.2.2.2.2
  lv := Φ.lv
  hP := fun p => Φ.hP p.1
  hw := fun p => Φ.hw p.1
  hK := fun p => Φ.hK p.1
  hmg := fun p => Φ.hmg p.1
  hb := fun p => Φ.hb p.1
  calm := fun p => Φ.calm p.1
  nd := fun p => Φ.nd p.1
  room := fun p => Φ.room p.1
  pass := fun p σ => fun _ _ _ _ _ _ c => by
    obtain ⟨_, _, _, _, _, _, _, _, _, _, _, _, h⟩ := c
    exact h
variable {Φ : Cxs P w K mg base E}
def MTs (Φ : Cxs P w K mg base E) (cl : Str → Addr) (O : List Nat) (es : List Expr) (f : Env → M Bool) : Prop := ∃ t, (∀ j, PTs (Φ.X j) es t) ∧ RT K cl E O t f
def fYes (_ : Env) : M Bool := ret true
theorem mts_nil : MTs Φ cl O [] fYes := ⟨_, fun j => pts_nil, fun F os ρ σ H s Q hO st q => q _ Mw.refl st⟩
theorem mts_one {c : Expr} {f : Env → M Bool} (h : MT Φ cl O c f) : MTs Φ cl O [c] f := let ⟨t, p, r⟩ := h; ⟨t, fun j => pts_one (p j), r⟩
def compL (g : D → Env → Option Env) (ft : Env → M Bool) (fe : Env → M D) (ρ0 : Env) : List D → M (List D)
  | [] => fun s => .ok [] s
  | d :: l => fun s => match g d ρ0 with
    | none => .bad
    | some ρ1 => match ft ρ1 s with
      | .ok true s1 => match fe ρ1 s1 with
        | .ok y s2 => match compL g ft fe ρ0 l s2 with
          | .ok r s3 => .ok (y :: r) s3
          | _ => .bad
        | _ => .bad
      | .ok false s1 => compL g ft fe ρ0 l s1
      | _ => .bad
def fLc (vs : List Nat) (fi : Env → M (List D)) (g : D → Env → Option Env) (ft : Env → M Bool) (fe : Env → M D) (ρ : Env) : M (List D) := bnd (fi ρ) fun l s => match compL g ft fe (wipeE ρ vs) l s with
  | .ok out s' => if szOk out.length = true then .ok out s' else .bad
  | _ => .bad
theorem RI.bind {F : Frm} {os : Own} {ρ : Env} {σ : L2.St} {H : Hp} {s : BS} {β : Type} {G : Res β → Prop} {t : TI} {f : Env → M (List D)} (h : RI K cl E O t f) (hO : os.map (·.1) = O) (st : StOk K F os ρ σ H s) {k : List D → M β} {R : It → Hp → Prop}
    (hx : ∀ nm fs s', G (.exc nm fs s') → exOk K cl (E σ) F nm fs s') (hb : ¬ G .bad)
    (q : G (bnd (f ρ) k s)) (nx : ∀ l s1 J H1, Mw F.q H H1 → StOk K F os ρ σ H1 s1 → IterOk K (hid (wld F os) H1) J l → G (k l s1) → R J H1) : t σ H R := by
  refine h F os ρ σ H s _ hO st ?_
  cases e : f ρ s with
  | bad =>
    simp only [bnd, e] at q
    exact hb q
  | exc nm fs s1 =>
    simp only [bnd, e] at q
    exact hx _ _ _ q
  | ok d s1 =>
    simp only [bnd, e] at q
    exact fun J H1 m1 st1 r1 => nx d s1 J H1 m1 st1 r1 q
theorem drop_at {α : Type} {l : List α} {i : Nat} {d : α} (h : l[i]? = some d) : l.drop i = d :: l.drop (i + 1) := by
  obtain ⟨lt, e⟩ := List.getElem?_eq_some_iff.mp h
  rw [List.drop_eq_getElem_cons lt, e]
/-- the state of a comprehension between two turns -/
structure LcOk (K : Fr) (F : Frm) (os : Own) (ρ : Env) (σ : L2.St) (vs : List Nat) (H1 : Hp) (D₀ : Addr) (out : List D) (run : M (List D)) (s2 : BS) (H : Hp) : Prop where
  ex : ∃ s rest acc accV, run s = .ok rest s2 ∧ acc ++ rest = out ∧ StOk K F ((999, D₀) :: os) (wipeE ρ vs) (wipe σ vs) H s ∧ H D₀ = some (.lst accV) ∧ RepL K (hid (wld F ((999, D₀) :: os)) H) acc accV
  mv : Mw F.q H1 H
/-- an item is put to the list -/
theorem LcOk.put {F : Frm} {os : Own} {ρ : Env} {σ : L2.St} {vs : List Nat} {H1 H : Hp} {s : BS} {D₀ : Addr} {out acc rest : List D} {accV : List V} {run : M (List D)} {s2 : BS} {y : D} {v : V} (nD : H1 D₀ = none)
    (st : StOk K F ((999, D₀) :: os) (wipeE ρ vs) (wipe σ vs) H s) (m : Mw F.q H1 H) (e : H D₀ = some (.lst accV)) (r : RepL K (hid (wld F ((999, D₀) :: os)) H) acc accV) (ry : Rep K (hid (wld F ((999, D₀) :: os)) H) y v)
    (er : run s = .ok rest s2) (eo : (acc ++ [y]) ++ rest = out) : LcOk K F os ρ σ vs H1 D₀ out run s2 (upd H D₀ (.lst (accV ++ [v]))) := by
  have aW : D₀ ∈ wld F ((999, D₀) :: os) := List.mem_cons_self
  have eh : hid (wld F ((999, D₀) :: os)) (upd H D₀ (.lst (accV ++ [v]))) = hid (wld F ((999, D₀) :: os)) H := hid_upd_in aW
  have naq : D₀ ≠ F.q := st.own_q (p := (999, D₀)) List.mem_cons_self
  have nac : D₀ ≠ F.c := fun z => st.own_ne (p := (999, D₀)) List.mem_cons_self (by rw [z]; exact st.fok.cW)
  refine ⟨⟨s, rest, acc ++ [y], accV ++ [v], er, eo, ⟨st.mv.updL (st.new (999, D₀) List.mem_cons_self) e, st.fok, ⟨st.bag.eT, tabs_updL st.bag.tabs e, st.bag.eq, ?_, ?_⟩, st.new, fun p hp => ?_, st.nd, st.len, st.few, by rw [eh]; exact st.frz, fun j d ej => ?_⟩, upd_same, by rw [eh]; exact r.app (.one ry)⟩, m.updL (.of nD) e⟩
  · rw [upd_ne (Ne.symm naq)]
    exact st.bag.at_
  · rw [upd_ne (Ne.symm nac)]
    exact st.bag.cells
  · by_cases c : p.2 = D₀
    · exact ⟨_, by rw [c, upd_same], rfl⟩
    · obtain ⟨ws, e, t⟩ := st.thr p hp
      exact ⟨ws, by rw [upd_ne c]; exact e, t⟩
  · rw [eh]
    have hj : j < (wipeE ρ vs).length := (List.getElem?_eq_some_iff.mp ej).1
    have few := st.few
    obtain ⟨u, e1, e2⟩ := st.slots j d ej
    refine ⟨u, e1, e2.mono (Same.refl _) fun b eb ws _ e3 => ?_⟩
    have nb : b ≠ D₀ := fun z => by
      have q := nodup_addr st.nd (lookup_mem eb) (r := (999, D₀)) List.mem_cons_self z
      have := congrArg Prod.fst q
      simp only at this
      omega
    rw [upd_ne nb]
    exact e3
theorem r_lc {us vs : List Nat} {ti : TI} {tg' : TG} {tt : TT} {te : TE} {fi : Env → M (List D)} {g : D → Env → Option Env} {ft : Env → M Bool} {fe : Env → M D} (ri : RI K cl E O ti fi) (rg : RG K (999 :: O) tg' vs g) (rt : RT K cl noE (999 :: O) tt ft) (re : RE K cl noE (999 :: O) te fe) (hv : ∀ i ∈ vs, i ∈ us) :
    RFr K cl E O (tLc ti tg' tt te us) (fLc us fi g ft fe) := by
  intro F os ρ σ H s Q hO st q
  refine ri.bind hO st hxR hbR q fun l s1 J H1 m1 st1 it q1 => ?_
  intro D₀ nD
  cases e : compL g ft fe (wipeE ρ us) l s1 with
  | bad =>
    simp only [e] at q1
    exact q1.elim
  | exc nm fs s2 =>
    simp only [e] at q1
    exact q1.elim
  | ok out s2 =>
    simp only [e] at q1
    cases z : szOk out.length with
    | false =>
      simp only [z] at q1
      exact q1.elim
    | true =>
      simp only [z] at q1
      have zlt := szOk_lt z
      refine ⟨fun i m H' => m = l.length - i ∧ i ≤ l.length ∧ LcOk K F os ρ σ us H1 D₀ out (compL g ft fe (wipeE ρ us) (l.drop i)) s2 H', ⟨l.length, rfl, Nat.zero_le _, ⟨s1, out, [], [], e, rfl, ?_, upd_same, rfl⟩, mv_new nD⟩, ?_⟩
      · exact (st1.grow nD (mv_new nD) upd_same (st1.bag.mv (same_new nD)) (k := 999) (by have := st1.few; omega)).wipe us
      · rintro i m H' ⟨rfl, hle, ⟨si, rest, acc, accV, er, eo, sti, eD, ra⟩, mv⟩
        have B : Same (hid (wld F os) H1) H' := (hid_mv st1.qW mv).trans (hid_same _ _)
        have B2 : Same (hid (wld F os) H1) (hid (wld F ((999, D₀) :: os)) H') := hid_grow nD st1.qW mv
        by_cases c : i = l.length
        · subst c
          rw [List.drop_length] at er
          have er : Res.ok [] si = Res.ok rest s2 := er
          cases er
          rw [List.append_nil] at eo
          subst eo
          refine .inl ⟨it.stop _ _ B rfl, q1 D₀ accV H' (m1.trans mv) (st1.grow nD mv eD sti.bag (by have := st1.few; omega)) eD ra⟩
        · have lt : i < l.length := by omega
          refine .inr ⟨it.go i H' B lt, fun H'' => LcOk K F os ρ σ us H1 D₀ out (compL g ft fe (wipeE ρ us) (l.drop (i + 1))) s2 H'', fun H'' h => ⟨l.length - (i + 1), by omega, rfl, by omega, h⟩, fun x H2 hy => ?_⟩
          obtain ⟨d, ed, cases2⟩ := it.yld i H' x H2 B lt hy
          rw [drop_at ed] at er
          obtain ⟨m2, st2, r2, sm2⟩ := sti.item B2 cases2
          have er : (match g d (wipeE ρ us) with
            | none => Res.bad
            | some ρ1 => match ft ρ1 si with
              | .ok true s1 => match fe ρ1 s1 with
                | .ok y s2 => match compL g ft fe (wipeE ρ us) (l.drop (i + 1)) s2 with
                  | .ok r s3 => .ok (y :: r) s3
                  | _ => .bad
                | _ => .bad
              | .ok false s1 => compL g ft fe (wipeE ρ us) (l.drop (i + 1)) s1
              | _ => .bad) = Res.ok rest s2 := er
          cases eg : g d (wipeE ρ us) with
          | none =>
            rw [eg] at er
            cases er
          | some ρ1 =>
            rw [eg] at er
            simp only at er
            refine rg F _ (wipeE ρ us) (wipe σ us) H2 si _ d x ρ1 (by rw [List.map_cons, hO]) st2 r2 eg fun σ1 st3 w3 => ?_
            refine ⟨(w3 us hv).trans (wipe_idem σ us), ?_⟩
            -- back to the wiped slots
            have back : ∀ H4 s4, Mw F.q H2 H4 → StOk K F ((999, D₀) :: os) ρ1 σ1 H4 s4 → StOk K F ((999, D₀) :: os) (wipeE ρ us) (wipe σ us) H4 s4 := fun H4 s4 m4 st4 => st2.step m4 st4.bag
            refine rt F _ ρ1 σ1 H2 si _ (by rw [List.map_cons, hO]) st3 ?_
            cases et : ft ρ1 si with
            | bad =>
              rw [et] at er
              cases er
            | exc nm fs s4 =>
              rw [et] at er
              cases er
            | ok b s4 =>
              rw [et] at er
              intro H3 m3 st4
              cases b with
              | false =>
                simp only at er
                rw [if_neg (by decide)]
                have m23 := m2.trans m3
                exact ⟨⟨s4, rest, acc, accV, er, eo, back H3 s4 m3 st4, m23.lst (sti.own_q (p := (999, D₀)) List.mem_cons_self) eD, RepL.mono (hid_mv sti.qW m23) _ ra⟩, mv.trans m23⟩
              | true =>
                simp only at er
                rw [if_pos rfl]
                refine re F _ ρ1 σ1 H3 s4 _ (by rw [List.map_cons, hO]) st4 ?_
                cases ee : fe ρ1 s4 with
                | bad =>
                  rw [ee] at er
                  cases er
                | exc nm fs s5 =>
                  rw [ee] at er
                  cases er
                | ok y s5 =>
                  rw [ee] at er
                  simp only at er
                  intro v H4 m4 st5 r5
                  cases ec : compL g ft fe (wipeE ρ us) (l.drop (i + 1)) s5 with
                  | bad =>
                    rw [ec] at er
                    cases er
                  | exc nm fs s6 =>
                    rw [ec] at er
                    cases er
                  | ok r s6 =>
                    rw [ec] at er
                    cases er
                    have m24 := m2.trans (m3.trans m4)
                    have eD4 := m24.lst (sti.own_q (p := (999, D₀)) List.mem_cons_self) eD
                    have r4 := RepL.mono (hid_mv sti.qW m24) _ ra
                    refine ⟨accV, eD4, ?_, ?_⟩
                    · rw [← ra.len]
                      have := congrArg List.length eo
                      rw [List.length_append, List.length_cons] at this
                      omega
                    · refine LcOk.put nD (back H4 s5 (m3.trans m4) st5) (mv.trans m24) eD4 r4 r5 ec ?_
                      rw [List.append_assoc]
                      exact eo
theorem mf_lc {elt tg iter : Expr} {ifs : List Expr} {scope : Scope} {own : List (Str × Nat)} {pos : Pos} {vs : List Nat} {fi : Env → M (List D)} {g : D → Env → Option Env} {ft : Env → M Bool} {fe : Env → M D} (hi : MI Φ cl O tg iter fi)
    (ok : ∀ j, BlkOk (Φ.X j).N (Φ.X j).env.scope scope own) (hg : MG (Φ.blk scope) (999 :: O) tg vs g) (ht : MTs (Φ.blk scope) cl (999 :: O) ifs ft) (he : ME (Φ.blk scope) cl (999 :: O) elt fe) (hv : ∀ i ∈ vs, i ∈ own.map (·.2) := by decide)
    (hs : ∀ env x, foldedSetIterable iter env x = pure x := by intro _ _; rfl) : MF Φ cl O (.ListComp elt [⟨tg, iter, ifs, 0⟩] scope pos) (fLc (own.map (·.2)) fi g ft fe) := by
  obtain ⟨ti, pi, ri⟩ := hi
  obtain ⟨tg', pg, rg⟩ := hg
  obtain ⟨tt, pt, rt⟩ := ht
  obtain ⟨te, pe, re⟩ := he
  exact ⟨tLc ti tg' tt te (own.map (·.2)), fun j => pe_lc (Φ.calm j) (Φ.nd j) (pi j) (ok j) (fun s H C cl fp => pg (j, s, H, C, cl, fp)) (fun s H C cl fp => pt (j, s, H, C, cl, fp)) (fun s H C cl fp => pe (j, s, H, C, cl, fp)) (hs _), r_lc ri rg rt re hv⟩
end
end Dm

namespace Dm
open PySem PySem.Spec PyProof.Rows L2 My
/-! ### statements -/
inductive Out where
  | nx (ρ : Env) | rt (d : D) | bk (ρ : Env) | ct (ρ : Env)
section
variable {P : Program} {w : World} {K : Fr} {mg : Str → Option Value} {base : Heap} {cl : Str → Addr} {E0 : XK} {O O1 O' OL : List Nat}
def satS (K : Fr) (cl : Str → Addr) (E0 : XK) (O' OL : List Nat) (F : Frm) (Dn : Ends) : Res Out → Prop
  | .ok (.nx ρ') s' => ∀ os' σ' H', os'.map (·.1) = O' → StOk K F os' ρ' σ' H' s' → Dn.nx σ' H'
  | .ok (.rt d) s' => ∀ v H', Mw F.q F.H0 H' → BagAt F.T F.q F.c H' s' → Rep K (hid F.W H') d v → Dn.rt v H'
  | .ok (.bk ρ') s' => ∀ os' σ' H', os'.map (·.1) = OL → StOk K F os' ρ' σ' H' s' → Dn.bk σ' H'
  | .ok (.ct ρ') s' => ∀ os' σ' H', os'.map (·.1) = OL → StOk K F os' ρ' σ' H' s' → Dn.ct σ' H'
  | .exc nm fs s' => exOk K cl E0 F nm fs s'
  | .bad => False
def RS (K : Fr) (cl : Str → Addr) (E0 : XK) (O O' OL : List Nat) (t : TS) (f : Env → M Out) : Prop := ∀ (F : Frm) (os : Own) (ρ : Env) (σ : L2.St) (H : Hp) (s : BS) (Dn : Ends), os.map (·.1) = O → StOk K F os ρ σ H s → satS K cl E0 O' OL F Dn (f ρ s) → t Dn σ H
abbrev CxsE (P : Program) (w : World) (K : Fr) (mg : Str → Option Value) (base : Heap) (E0 : XK) := Cxs P w K mg base (fun _ => E0)
def MS (Φ : CxsE P w K mg base E0) (cl : Str → Addr) (O O' OL : List Nat) (st : Stmt) (f : Env → M Out) : Prop := ∃ t, (∀ j, PS (Φ.X j) st t) ∧ RS K cl E0 O O' OL t f
def MSs (Φ : CxsE P w K mg base E0) (cl : Str → Addr) (O O' OL : List Nat) (st : List Stmt) (f : Env → M Out) : Prop := ∃ t, (∀ j, PSs (Φ.X j) st t) ∧ RS K cl E0 O O' OL t f
variable {Φ : CxsE P w K mg base E0}
section
variable {F : Frm} {Dn : Ends}
abbrev hxS : ∀ nm fs s', satS K cl E0 O' OL F Dn (.exc nm fs s') → exOk K cl E0 F nm fs s' := fun _ _ _ h => h
abbrev hbS : ¬ satS K cl E0 O' OL F Dn .bad := fun h => h
end
def fSkip (ρ : Env) : M Out := ret (.nx ρ)
def fThen (f g : Env → M Out) (ρ : Env) : M Out := fun s => match f ρ s with
  | .ok (.nx ρ') s' => g ρ' s'
  | .ok (.rt d) s' => .ok (.rt d) s'
  | .ok (.bk ρ') s' => .ok (.bk ρ') s'
  | .ok (.ct ρ') s' => .ok (.ct ρ') s'
  | .exc nm fs s' => .exc nm fs s'
  | .bad => .bad
theorem mss_nil : MSs Φ cl O O OL [] fSkip := ⟨_, fun j => pss_nil, fun F os ρ σ H s Dn hO st q => q os σ H hO st⟩
theorem r_then {t u : TS} {f g : Env → M Out} (h : RS K cl E0 O O1 OL t f) (h2 : RS K cl E0 O1 O' OL u g) : RS K cl E0 O O' OL (tSeq t u) (fThen f g) := by
  intro F os ρ σ H s Dn hO st q
  refine h F os ρ σ H s _ hO st ?_
  unfold fThen at q
  cases e : f ρ s with
  | bad =>
    simp only [e] at q
    exact q
  | exc nm fs s1 =>
    simp only [e] at q
    exact q
  | ok o s1 =>
    cases o with
    | nx ρ1 =>
      simp only [e] at q
      exact fun os1 σ1 H1 hO1 st1 => h2 F os1 ρ1 σ1 H1 s1 Dn hO1 st1 q
    | rt d =>
      simp only [e] at q
      exact q
    | bk d =>
      simp only [e] at q
      exact q
    | ct d =>
      simp only [e] at q
      exact q
theorem mss_cons {st : Stmt} {rest : List Stmt} {f g : Env → M Out} (h : MS Φ cl O O1 OL st f) (h2 : MSs Φ cl O1 O' OL rest g) : MSs Φ cl O O' OL (st :: rest) (fThen f g) :=
  let ⟨t, p, r⟩ := h; let ⟨u, p2, r2⟩ := h2; ⟨_, fun j => pss_cons (p j) (p2 j), r_then r r2⟩
theorem mss_one {st : Stmt} {f : Env → M Out} (h : MS Φ cl O O' OL st f) : MSs Φ cl O O' OL [st] f := let ⟨t, p, r⟩ := h; ⟨t, fun j => pss_one (p j), r⟩
/-- from here on others may know the list of slot i -/
theorem mss_freeze (i : Nat) {sts : List Stmt} {f : Env → M Out} (h : MSs Φ cl (drpO O i) O' OL sts f) : MSs Φ cl O O' OL sts f :=
  let ⟨t, p, r⟩ := h; ⟨t, p, fun F os ρ σ H s Dn hO st q => r F (drp os i) ρ σ H s Dn (by rw [drp_map, hO]) (st.freeze i) q⟩
/-- .. behind a block -/
theorem mss_end (i : Nat) {sts : List Stmt} {f : Env → M Out} (h : MSs Φ cl O O1 OL sts f) (e : drpO O1 i = O') : MSs Φ cl O O' OL sts f := by
  obtain ⟨t, p, r⟩ := h
  refine ⟨t, p, fun F os ρ σ H s Dn hO st q => r F os ρ σ H s Dn hO st ?_⟩
  cases e2 : f ρ s with
  | bad =>
    rw [e2] at q
    exact q
  | exc nm fs s1 =>
    rw [e2] at q
    exact q
  | ok o s1 =>
    rw [e2] at q
    cases o with
    | nx ρ1 => exact fun os1 σ1 H1 hO1 st1 => q (drp os1 i) σ1 H1 (by rw [drp_map, hO1, e]) (st1.freeze i)
    | rt d => exact q
    | bk d => exact q
    | ct d => exact q
def fSet (i : Nat) (f : Env → M D) (ρ : Env) : M Out := bnd (f ρ) fun d => ret (.nx (ρ.set i (some d)))
def fSetF (i : Nat) (f : Env → M (List D)) (ρ : Env) : M Out := bnd (f ρ) fun l => ret (.nx (ρ.set i (some (.lst l))))
section
variable {i : Nat} {x : Str} {e : Expr} {pos pos' : Pos}
theorem r_set {te : TE} {f : Env → M D} (h : RE K cl (fun _ => E0) O te f) (hO0 : i ∉ O) : RS K cl E0 O O OL (tAsg te (gName i)) (fSet i f) := by
  intro F os ρ σ H s Dn hO st q
  refine h.bind hO st hxS hbS q fun d s1 v H1 m1 st1 r1 q1 => ?_
  exact q1 os _ H1 hO (st1.set (lookup_none (by rw [hO]; exact hO0)) r1)
theorem r_setF {te : TE} {f : Env → M (List D)} (h : RFr K cl (fun _ => E0) O te f) : RS K cl E0 O (i :: drpO O i) OL (tAsg te (gName i)) (fSetF i f) := by
  intro F os ρ σ H s Dn hO st q
  unfold fSetF at q
  refine h F os ρ σ H s _ hO st ?_
  cases e : f ρ s with
  | bad =>
    simp only [bnd, e] at q
    exact q
  | exc nm fs s1 =>
    simp only [bnd, e] at q
    exact q
  | ok l s1 =>
    simp only [bnd, e] at q
    intro a vs H' m st' ea r'
    exact q ((i, a) :: drp os i) _ H' (by rw [List.map_cons, drp_map, hO]) (st'.setOwn (by have := st'.few; omega) ea r')
theorem ms_set {f : Env → M D} (hi : ∀ j, (Φ.X j).N[i]? = some x) (hx : ∀ j, Loc (Φ.X j).env.scope x) (hf : ∀ j, (Φ.X j).fn x = true ∨ (Φ.X j).env.scope.names.lookup x = some .local) (hO : i ∉ O) (he : ME Φ cl O e f)
    (hs : ∀ env, swapsWith e (some (.Name x pos')) pos.line env = pure false := by intro _; rfl) : MS Φ cl O O OL (.Assign [.Name x pos'] e pos) (fSet i f) := by
  obtain ⟨t, p, r⟩ := he
  exact ⟨_, fun j => ps_set (Φ.nd j) (hi j) (hx j) (p j) (hs _) (hf j), r_set r hO⟩
theorem ms_setF {f : Env → M (List D)} (hi : ∀ j, (Φ.X j).N[i]? = some x) (hx : ∀ j, Loc (Φ.X j).env.scope x) (hf : ∀ j, (Φ.X j).fn x = true ∨ (Φ.X j).env.scope.names.lookup x = some .local) (he : MF Φ cl O e f)
    (hs : ∀ env, swapsWith e (some (.Name x pos')) pos.line env = pure false := by intro _; rfl) : MS Φ cl O (i :: drpO O i) OL (.Assign [.Name x pos'] e pos) (fSetF i f) := by
  obtain ⟨t, p, r⟩ := he
  exact ⟨_, fun j => ps_set (Φ.nd j) (hi j) (hx j) (p j) (hs _) (hf j), r_setF r⟩
/-- name = [..] on one line -/
theorem ms_setLc {y : Str} {py : Pos} {elt tg iter : Expr} {ifs : List Expr} {scope : Scope} {own : List (Str × Nat)} {spos : Pos} {vs : List Nat} {fi : Env → M (List D)} {g : D → Env → Option Env} {ft : Env → M Bool} {fe : Env → M D}
    (hy : ∀ j, (Φ.X j).N[i]? = some y) (hyl : ∀ j, (Φ.X j).env.scope.names.lookup y = some .local) (hsw : ∀ j, swapsWith (.ListComp elt [⟨tg, iter, ifs, 0⟩] scope pos) (some (.Name y py)) spos.line (Φ.X j).env = pure true) (hi : MI Φ cl O tg iter fi)
    (ok : ∀ j, BlkOk (Φ.X j).N (Φ.X j).env.scope scope own) (hg : MG (Φ.blk scope) (999 :: O) tg vs g) (ht : MTs (Φ.blk scope) cl (999 :: O) ifs ft) (he : ME (Φ.blk scope) cl (999 :: O) elt fe) (hv : ∀ i ∈ vs, i ∈ own.map (·.2) := by decide)
    (hs : ∀ env x, foldedSetIterable iter env x = pure x := by intro _ _; rfl) : MS Φ cl O (i :: drpO O i) OL (.Assign [.Name y py] (.ListComp elt [⟨tg, iter, ifs, 0⟩] scope pos) spos) (fSetF i (fLc (own.map (·.2)) fi g ft fe)) := by
  obtain ⟨ti, pi, ri⟩ := hi
  obtain ⟨tg', pg, rg⟩ := hg
  obtain ⟨tt, pt, rt⟩ := ht
  obtain ⟨te, pe, re⟩ := he
  exact ⟨_, fun j => ps_setLc (Φ.calm j) (Φ.nd j) (hy j) (hyl j) (hsw j) (pi j) (ok j) (fun s H C cl fp => pg (j, s, H, C, cl, fp)) (fun s H C cl fp => pt (j, s, H, C, cl, fp)) (fun s H C cl fp => pe (j, s, H, C, cl, fp)) (hs _), r_setF (r_lc ri rg rt re hv)⟩
def fAsg (f : Env → M D) (g : D → Env → Option Env) (ρ : Env) : M Out := bnd (f ρ) fun d => match g d ρ with
  | some ρ' => ret (.nx ρ')
  | none => bad
theorem ms_asg {tg : Expr} {vs : List Nat} {f : Env → M D} {g : D → Env → Option Env} (he : ME Φ cl O e f) (hg : MG Φ O tg vs g) (hs : ∀ env, swapsWithSole [tg] e pos.line env = pure false := by intro _; rfl) (hw : ∀ env, swappedStores [tg] e env = pure none := by intro _; rfl)
    (h1 : ∀ env, (assignEach [tg] env).map (·.2) = [assign tg env] := by intro _; rfl) : MS Φ cl O O OL (.Assign [tg] e pos) (fAsg f g) := by
  obtain ⟨t, p, r⟩ := he
  obtain ⟨t2, p2, r2⟩ := hg
  refine ⟨_, fun j => ps_asg (p j) (p2 j) (hs _) (hw _) (h1 _), fun F os ρ σ H s Dn hO st q => ?_⟩
  refine r.bind hO st hxS hbS q fun d s1 v H1 m1 st1 r1 q1 => ?_
  cases eg : g d ρ with
  | none =>
    simp only [eg] at q1
    exact q1.elim
  | some ρ' =>
    simp only [eg] at q1
    exact r2 F os ρ σ H1 s1 _ d v ρ' hO st1 r1 eg fun σ' st' _ => q1 os σ' H1 hO st'
def fPar (i j : Nat) (fs : Env → M (List D)) (ρ : Env) : M Out := bnd (fs ρ) fun ds => match ds with
  | [x, y] => ret (.nx ((ρ.set i (some x)).set j (some y)))
  | _ => bad
theorem ms_par {j : Nat} {y : Str} {a b : Expr} {fs : Env → M (List D)} {px py pt : Pos} {kt k2 pt2} (hi : ∀ k, (Φ.X k).N[i]? = some x) (hj : ∀ k, (Φ.X k).N[j]? = some y) (hij : i ≠ j) (hx : ∀ k, (Φ.X k).env.scope.names.lookup x = some .local) (hy : ∀ k, (Φ.X k).env.scope.names.lookup y = some .local)
    (hO1 : i ∉ O) (hO2 : j ∉ O) (ha : MA Φ cl O [a, b] fs) (hw : ∀ k, swappedStores [.Tuple [.Name x px, .Name y py] kt pt] (.Tuple [a, b] k2 pt2) (Φ.X k).env = pure (some [x, y]))
    (hs : ∀ env, swapsWithSole [.Tuple [.Name x px, .Name y py] kt pt] (.Tuple [a, b] k2 pt2) pos.line env = pure false := by intro _; rfl) : MS Φ cl O O OL (.Assign [.Tuple [.Name x px, .Name y py] kt pt] (.Tuple [a, b] k2 pt2) pos) (fPar i j fs) := by
  obtain ⟨t, p, r⟩ := ha
  refine ⟨_, fun k => ps_par (Φ.calm k) (Φ.nd k) (hi k) (hj k) hij (hx k) (hy k) (p k) (hw k) (hs _), fun F os ρ σ H s Dn hO st q => ?_⟩
  refine r.bind hO st hxS hbS q fun ds s1 vs H1 m1 st1 r1 q1 => ?_
  match ds, q1, r1 with
  | [d, e], q1, r1 =>
    obtain ⟨v, u, rfl, rv, ru⟩ := two_args r1
    exact ⟨v, u, rfl, q1 os _ H1 hO ((st1.set (lookup_none (by rw [hO]; exact hO1)) rv).set (lookup_none (by rw [hO]; exact hO2)) ru)⟩
  | [], q1, _ => exact q1.elim
  | [_], q1, _ => exact q1.elim
  | _ :: _ :: _ :: _, q1, _ => exact q1.elim
def fPar3 (i j k : Nat) (fs : Env → M (List D)) (ρ : Env) : M Out := bnd (fs ρ) fun ds => match ds with
  | [x, y, z] => ret (.nx (((ρ.set i (some x)).set j (some y)).set k (some z)))
  | _ => bad
theorem ms_par3 {j l : Nat} {y z : Str} {a b c : Expr} {fs : Env → M (List D)} {px py pz pt : Pos} {kt k2 pt2} (hi : ∀ k, (Φ.X k).N[i]? = some x) (hj : ∀ k, (Φ.X k).N[j]? = some y) (hl : ∀ k, (Φ.X k).N[l]? = some z) (hij : i ≠ j) (hil : i ≠ l) (hjl : j ≠ l)
    (hx : ∀ k, (Φ.X k).env.scope.names.lookup x = some .local) (hy : ∀ k, (Φ.X k).env.scope.names.lookup y = some .local) (hz : ∀ k, (Φ.X k).env.scope.names.lookup z = some .local)
    (hO1 : i ∉ O) (hO2 : j ∉ O) (hO3 : l ∉ O) (ha : MA Φ cl O [a, b, c] fs) (hw : ∀ k, swappedStores [.Tuple [.Name x px, .Name y py, .Name z pz] kt pt] (.Tuple [a, b, c] k2 pt2) (Φ.X k).env = pure (some [x, y, z]))
    (hs : ∀ env, swapsWithSole [.Tuple [.Name x px, .Name y py, .Name z pz] kt pt] (.Tuple [a, b, c] k2 pt2) pos.line env = pure false := by intro _; rfl) : MS Φ cl O O OL (.Assign [.Tuple [.Name x px, .Name y py, .Name z pz] kt pt] (.Tuple [a, b, c] k2 pt2) pos) (fPar3 i j l fs) := by
  obtain ⟨t, p, r⟩ := ha
  refine ⟨_, fun k => ps_par3 (Φ.calm k) (Φ.nd k) (hi k) (hj k) (hl k) hij hil hjl (hx k) (hy k) (hz k) (p k) (hw k) (hs _), fun F os ρ σ H s Dn hO st q => ?_⟩
  refine r.bind hO st hxS hbS q fun ds s1 vs H1 m1 st1 r1 q1 => ?_
  match ds, q1, r1 with
  | [d, e, f], q1, r1 =>
    obtain ⟨v, r, rfl, rv, r2⟩ := r1
    obtain ⟨u, u2, rfl, ru, ru2⟩ := two_args r2
    have L := fun (k : Nat) (h : k ∉ O) => lookup_none (os := os) (i := k) (by rw [hO]; exact h)
    exact ⟨v, u, u2, rfl, q1 os _ H1 hO (((st1.set (L i hO1) rv).set (L j hO2) ru).set (L l hO3) ru2)⟩
  | [], q1, _ => exact q1.elim
  | [_], q1, _ => exact q1.elim
  | [_, _], q1, _ => exact q1.elim
  | _ :: _ :: _ :: _ :: _, q1, _ => exact q1.elim
def fDrop (f : Env → M D) (ρ : Env) : M Out := bnd (f ρ) fun _ => ret (.nx ρ)
theorem ms_expr {f : Env → M D} (he : ME Φ cl O e f) (hs : ∀ env, swapsWith e none pos.line env = pure false := by intro _; rfl) : MS Φ cl O O OL (.Expr e pos) (fDrop f) := by
  obtain ⟨t, p, r⟩ := he
  refine ⟨_, fun j => ps_expr (p j) (hs _), fun F os ρ σ H s Dn hO st q => ?_⟩
  exact r.bind hO st hxS hbS q fun d s1 v H1 m1 st1 r1 q1 => q1 os σ H1 hO st1
def fRet (f : Env → M D) (ρ : Env) : M Out := bnd (f ρ) fun d => ret (.rt d)
theorem ms_ret {f : Env → M D} (he : ME Φ cl O e f) : MS Φ cl O O' OL (.Return (some e) pos) (fRet f) := by
  obtain ⟨t, p, r⟩ := he
  refine ⟨_, fun j => ps_ret (p j), fun F os ρ σ H s Dn hO st q => ?_⟩
  refine r.bind hO st hxS hbS q fun d s1 v H1 m1 st1 r1 q1 => ?_
  exact q1 v H1 st1.mv st1.bag (Rep.mono (hid_sub fun a ha => List.mem_append_right _ ha) _ r1)
def fRetN (_ : Env) : M Out := ret (.rt .non)
theorem ms_retN : MS Φ cl O O' OL (.Return none pos) fRetN := ⟨_, fun j => ps_retN, fun F os ρ σ H s Dn hO st q => q .non H st.mv st.bag rfl⟩
theorem ms_pass : MS Φ cl O O OL (.Pass pos) fSkip := ⟨_, fun j => ps_pass, fun F os ρ σ H s Dn hO st q => q os σ H hO st⟩
def fBrk (ρ : Env) : M Out := ret (.bk ρ)
def fCont (ρ : Env) : M Out := ret (.ct ρ)
theorem ms_break : MS Φ cl O O' O (.Break pos) fBrk := ⟨_, fun j => ps_break, fun F os ρ σ H s Dn hO st q => q os σ H hO st⟩
theorem ms_continue : MS Φ cl O O' O (.Continue pos) fCont := ⟨_, fun j => ps_continue, fun F os ρ σ H s Dn hO st q => q os σ H hO st⟩
theorem ms_if {c : Expr} {a b : List Stmt} {fc : Env → M Bool} {f g : Env → M Out} (hc : MT Φ cl O c fc) (ha : MSs Φ cl O O' OL a f) (hb : MSs Φ cl O O' OL b g) : MS Φ cl O O' OL (.If c a b pos) (fIf fc f g) := by
  obtain ⟨tc, pc, rc⟩ := hc
  obtain ⟨ta, pa, ra⟩ := ha
  obtain ⟨tb, pb, rb⟩ := hb
  refine ⟨_, fun j => ps_if (pc j) (pa j) (pb j), fun F os ρ σ H s Dn hO st q => ?_⟩
  refine rc.bind hO st hxS hbS q fun d s1 H1 m1 st1 q1 => ?_
  cases d with
  | true => exact ra F os ρ σ H1 s1 Dn hO st1 q1
  | false => exact rb F os ρ σ H1 s1 Dn hO st1 q1
end
/-! loops -/
/-- what is frozen ahead of a loop -/
abbrev Frm.at (F : Frm) (B : Hp) : Frm := { F with B := B }
theorem StOk.into {F : Frm} {os : Own} {ρ : Env} {σ : L2.St} {H : Hp} {s : BS} {B : Hp} (st : StOk K F os ρ σ H s) (b : Same B (hid (wld F os) H)) : StOk K (F.at B) os ρ σ H s :=
  ⟨st.mv, ⟨st.fok.qW, st.fok.cW, st.fok.cq, st.fok.wild⟩, st.bag, st.new, st.thr, st.nd, st.len, st.few, b, st.slots⟩
theorem StOk.out {F : Frm} {os : Own} {ρ : Env} {σ : L2.St} {H : Hp} {s : BS} {B : Hp} (b : Same F.B B) (st : StOk K (F.at B) os ρ σ H s) : StOk K F os ρ σ H s :=
  ⟨st.mv, ⟨st.fok.qW, st.fok.cW, st.fok.cq, st.fok.wild⟩, st.bag, st.new, st.thr, st.nd, st.len, st.few, b.trans st.frz, st.slots⟩
def loopL (g : D → Env → Option Env) (body : Env → M Out) : List D → Env → M Out
  | [] => fun ρ s => .ok (.nx ρ) s
  | d :: l => fun ρ s => match g d ρ with
    | none => .bad
    | some ρ1 => match body ρ1 s with
      | .ok (.nx ρ2) s2 => loopL g body l ρ2 s2
      | .ok (.ct ρ2) s2 => loopL g body l ρ2 s2
      | .ok (.bk ρ2) s2 => .ok (.nx ρ2) s2
      | .ok (.rt d) s2 => .ok (.rt d) s2
      | .exc nm fs s2 => .exc nm fs s2
      | .bad => .bad
def fFor (fi : Env → M (List D)) (g : D → Env → Option Env) (body : Env → M Out) (ρ : Env) : M Out := bnd (fi ρ) fun l => loopL g body l ρ
theorem satS_out {F : Frm} {Dn Dn' : Ends} {B : Hp} {r : Res Out} {O2 OL2 : List Nat} (b : Same F.B B) (hrt : ∀ v H, Dn.rt v H → Dn'.rt v H) : True := trivial
theorem ms_for {tg iter : Expr} {body : List Stmt} {pos : Pos} {vs : List Nat} {fi : Env → M (List D)} {g : D → Env → Option Env} {fb : Env → M Out} (hp : ∀ j, PassesOwn (model (Φ.X j).prog (Φ.X j).w) (Φ.X j).A (Φ.X j).env (Φ.X j).xe) (hi : MI Φ cl O tg iter fi) (hg : MG Φ O tg vs g) (hb : MSs Φ cl O O O body fb)
    (hs : ∀ env x, foldedSetIterable iter env x = pure x := by intro _ _; rfl) : MS Φ cl O O OL (.For tg iter body [] pos) (fFor fi g fb) := by
  obtain ⟨ti, pi, ri⟩ := hi
  obtain ⟨tg', pg, rg⟩ := hg
  obtain ⟨tb, pb, rb⟩ := hb
  refine ⟨tFor ti tg' tb, fun j => ps_for (hp j) (Φ.calm j) (pi j) (pg j) (pb j) (hs _), fun F os ρ σ H s Dn hO st q => ?_⟩
  refine ri.bind hO st hxS hbS q fun l s1 J H1 m1 st1 it q1 => ?_
  have B0 : Same F.B (hid (wld F os) H1) := st1.frz
  generalize hB : hid (wld F os) H1 = B at *
  refine ⟨fun i m σ' H' => m = l.length - i ∧ i ≤ l.length ∧ ∃ os' ρ' s', os'.map (·.1) = O ∧ StOk K (F.at B) os' ρ' σ' H' s' ∧ satS K cl E0 O OL F Dn (loopL g fb (l.drop i) ρ' s'), ⟨l.length, rfl, Nat.zero_le _, os, ρ, s1, hO, st1.into (by rw [← hB]; exact Same.refl _), q1⟩, ?_⟩
  rintro i m σ' H' ⟨rfl, hle, os', ρ', s', hO', st', q'⟩
  have SB : Same B H' := st'.frz.trans (hid_same _ _)
  by_cases c : i = l.length
  · subst c
    rw [List.drop_length] at q'
    exact .inl ⟨it.stop _ _ SB rfl, q' os' σ' H' hO' (st'.out B0)⟩
  · have lt : i < l.length := by omega
    refine .inr ⟨it.go i H' SB lt, fun σ2 H2 => ∃ os2 ρ2 s2, os2.map (·.1) = O ∧ StOk K (F.at B) os2 ρ2 σ2 H2 s2 ∧ satS K cl E0 O OL F Dn (loopL g fb (l.drop (i + 1)) ρ2 s2), fun σ2 H2 ⟨os2, ρ2, s2, a1, a2, a3⟩ => ⟨l.length - (i + 1), by omega, rfl, by omega, os2, ρ2, s2, a1, a2, a3⟩, fun x H2 hy => ?_⟩
    obtain ⟨d, ed, cases2⟩ := it.yld i H' x H2 SB lt hy
    rw [drop_at ed] at q'
    obtain ⟨m2, st2, r2, sm2⟩ := st'.item st'.frz cases2
    have q' : satS K cl E0 O OL F Dn (match g d ρ' with
      | none => .bad
      | some ρ1 => match fb ρ1 s' with
        | .ok (.nx ρ2) s2 => loopL g fb (l.drop (i + 1)) ρ2 s2
        | .ok (.ct ρ2) s2 => loopL g fb (l.drop (i + 1)) ρ2 s2
        | .ok (.bk ρ2) s2 => .ok (.nx ρ2) s2
        | .ok (.rt d) s2 => .ok (.rt d) s2
        | .exc nm fs s2 => .exc nm fs s2
        | .bad => .bad) := q'
    cases eg : g d ρ' with
    | none =>
      rw [eg] at q'
      exact q'.elim
    | some ρ1 =>
      rw [eg] at q'
      simp only at q'
      refine rg (F.at B) os' ρ' σ' H2 s' _ d x ρ1 hO' st2 r2 eg fun σ1 st3 _ => ?_
      refine rb (F.at B) os' ρ1 σ1 H2 s' _ hO' st3 ?_
      cases eb : fb ρ1 s' with
      | bad =>
        rw [eb] at q'
        exact q'
      | exc nm fs s2 =>
        rw [eb] at q'
        exact q'
      | ok o s2 =>
        rw [eb] at q'
        cases o with
        | nx ρ2 => exact fun os2 σ2 H3 hO2 st4 => ⟨os2, ρ2, s2, hO2, st4, q'⟩
        | ct ρ2 => exact fun os2 σ2 H3 hO2 st4 => ⟨os2, ρ2, s2, hO2, st4, q'⟩
        | bk ρ2 => exact fun os2 σ2 H3 hO2 st4 => q' os2 σ2 H3 hO2 (st4.out B0)
        | rt d => exact q'
def loopW (ft : Env → M Bool) (body : Env → M Out) : Nat → Env → M Out
  | 0 => fun _ _ => .bad
  | n + 1 => fun ρ s => match ft ρ s with
    | .ok true s1 => match body ρ s1 with
      | .ok (.nx ρ2) s2 => loopW ft body n ρ2 s2
      | .ok (.ct ρ2) s2 => loopW ft body n ρ2 s2
      | .ok (.bk ρ2) s2 => .ok (.nx ρ2) s2
      | .ok (.rt d) s2 => .ok (.rt d) s2
      | .exc nm fs s2 => .exc nm fs s2
      | .bad => .bad
    | .ok false s1 => .ok (.nx ρ) s1
    | .exc nm fs s1 => .exc nm fs s1
    | .bad => .bad
theorem ms_while (n : Nat) {c : Expr} {body : List Stmt} {pos : Pos} {ft : Env → M Bool} {fb : Env → M Out} (hp : ∀ j, PassesOwn (model (Φ.X j).prog (Φ.X j).w) (Φ.X j).A (Φ.X j).env (Φ.X j).xe) (hc : MT Φ cl O c ft) (hb : MSs Φ cl O O O body fb) :
    MS Φ cl O O OL (.While c body [] pos) (loopW ft fb n) := by
  obtain ⟨tc, pc, rc⟩ := hc
  obtain ⟨tb, pb, rb⟩ := hb
  refine ⟨tWhile tc tb, fun j => ps_while (hp j) (pc j) (pb j), fun F os ρ σ H s Dn hO st q => ?_⟩
  refine ⟨fun m σ' H' => ∃ os' ρ' s', os'.map (·.1) = O ∧ StOk K F os' ρ' σ' H' s' ∧ satS K cl E0 O OL F Dn (loopW ft fb m ρ' s'), ⟨n, os, ρ, s, hO, st, q⟩, ?_⟩
  rintro m σ' H' ⟨os', ρ', s', hO', st', q'⟩
  cases m with
  | zero => exact q'.elim
  | succ m =>
    have q' : satS K cl E0 O OL F Dn (match ft ρ' s' with
      | .ok true s1 => (match fb ρ' s1 with
        | .ok (.nx ρ2) s2 => loopW ft fb m ρ2 s2
        | .ok (.ct ρ2) s2 => loopW ft fb m ρ2 s2
        | .ok (.bk ρ2) s2 => .ok (.nx ρ2) s2
        | .ok (.rt d) s2 => .ok (.rt d) s2
        | .exc nm fs s2 => .exc nm fs s2
        | .bad => .bad)
      | .ok false s1 => .ok (.nx ρ') s1
      | .exc nm fs s1 => .exc nm fs s1
      | .bad => .bad) := q'
    refine rc F os' ρ' σ' H' s' _ hO' st' ?_
    cases et : ft ρ' s' with
    | bad =>
      rw [et] at q'
      exact q'
    | exc nm fs s1 =>
      rw [et] at q'
      exact q'
    | ok b s1 =>
      rw [et] at q'
      intro H1 m1 st1
      cases b with
      | false =>
        rw [if_neg (by decide)]
        exact q' os' σ' H1 hO' st1
      | true =>
        rw [if_pos rfl]
        simp only at q'
        refine ⟨fun σ2 H2 => ∃ os2 ρ2 s2, os2.map (·.1) = O ∧ StOk K F os2 ρ2 σ2 H2 s2 ∧ satS K cl E0 O OL F Dn (loopW ft fb m ρ2 s2), fun σ2 H2 h => ⟨m, Nat.lt_succ_self _, h⟩, ?_⟩
        refine rb F os' ρ' σ' H1 s1 _ hO' st1 ?_
        cases eb : fb ρ' s1 with
        | bad =>
          rw [eb] at q'
          exact q'
        | exc nm fs s2 =>
          rw [eb] at q'
          exact q'
        | ok o s2 =>
          rw [eb] at q'
          cases o with
          | nx ρ2 => exact fun os2 σ2 H3 hO2 st4 => ⟨os2, ρ2, s2, hO2, st4, q'⟩
          | ct ρ2 => exact fun os2 σ2 H3 hO2 st4 => ⟨os2, ρ2, s2, hO2, st4, q'⟩
          | bk ρ2 => exact q'
          | rt d => exact q'
/-! lists of slots, changed -/
def ownL (i : Nat) (ρ : Env) : Option (List D) := match ρ[i]? with
  | some (some (.lst l)) => some l
  | _ => none
theorem ownL_at {i : Nat} {ρ : Env} {l : List D} (e : ownL i ρ = some l) : ρ[i]? = some (some (.lst l)) := by
  unfold ownL at e
  split at e
  · next h =>
    cases e
    exact h
  · cases e
theorem mem_lookup' {os : Own} {i : Nat} (h : i ∈ os.map (·.1)) : ∃ a, os.lookup i = some a := by
  induction os with
  | nil => cases h
  | cons p os ih =>
    obtain ⟨k, a⟩ := p
    by_cases c : i = k
    · subst c
      exact ⟨a, lookup_cons_eq⟩
    · rw [lookup_cons_ne c]
      exact ih ((List.mem_cons.mp h).resolve_left c)
theorem StOk.owned {F : Frm} {os : Own} {ρ : Env} {σ : L2.St} {H : Hp} {s : BS} {i : Nat} {l : List D} (st : StOk K F os ρ σ H s) (hO : os.map (·.1) = O) (hi : i ∈ O) (e : ownL i ρ = some l) :
    ∃ a vs, os.lookup i = some a ∧ σ[i]? = some (some (.ref a)) ∧ H a = some (.lst vs) ∧ RepL K (hid (wld F os) H) l vs := by
  obtain ⟨a, ea⟩ := mem_lookup' (by rw [hO]; exact hi)
  obtain ⟨v, e1, e2⟩ := st.slots i _ (ownL_at e)
  rw [ea] at e2
  obtain ⟨rfl, o, e3, e4⟩ := e2
  obtain ⟨vs, rfl, e5⟩ := e4.lst
  exact ⟨a, vs, ea, e1, e3, e5⟩
def fApp (i : Nat) (f : Env → M D) (ρ : Env) : M Out := match ownL i ρ with
  | some l => bnd (f ρ) fun d => if szOk l.length = true then ret (.nx (ρ.set i (some (.lst (l ++ [d]))))) else bad
  | none => bad
def fExt (i : Nat) (f : Env → M D) (ρ : Env) : M Out := match ownL i ρ with
  | some l => bnd (f ρ) fun d => match d with
    | .lst m => if szOk (l.length + m.length) = true then ret (.nx (ρ.set i (some (.lst (l ++ m))))) else bad
    | _ => bad
  | none => bad
section
variable {i : Nat} {x : Str} {e : Expr} {pos apos cpos p : Pos}
theorem ms_append {f : Env → M D} (hN : ∀ j, (Φ.X j).N[i]? = some x) (hv : ∀ j, Vis (Φ.X j).env.scope x) (hi : i ∈ O) (he : ME Φ cl O e f)
    (hbase : ∀ j, attributeBase (.Name x p) "append" (Φ.X j).env (eval (.Name x p) (Φ.X j).env) = eval (.Name x p) (Φ.X j).env := by intro _; rfl)
    (hfew : ∀ env, ((backTo cpos (starEach [e] env)).all (fun x => !x.1) && (backToKw cpos (keywordEach [] env)).all (fun x => x.1.isSome) && decide ([e].length + ([] : List Keyword).length + (if ([] : List Keyword).isEmpty then 0 else 1) < 30)) = true := by intro _; rfl)
    (hline : (apos.endLine == cpos.line) = true := by rfl) (hs : ∀ env, starEach [e] env = (false, eval e env) :: starEach [] env := by intro _; rfl) (hplain : ∀ env, (backTo cpos (starEach [] env)).any (·.1) = false := by intro _; rfl)
    (hd : (x == ("__debug__" : Str)) = false := by decide) (hcd : (x == ("__classdict__" : Str)) = false := by decide)
    (hsw : ∀ env, swapsWith (.Call (.Attribute (.Name x p) "append" apos) [e] [] cpos) none pos.line env = pure false := by intro _; rfl) : MS Φ cl O O OL (.Expr (.Call (.Attribute (.Name x p) "append" apos) [e] [] cpos) pos) (fApp i f) := by
  obtain ⟨t, pe, re⟩ := he
  refine ⟨tDrop (tBM K "list" rAppend (tVar i) (tCons t tNil)), fun j => by
    have z := pe_bm (X := Φ.X j) PySem.F.plainAttrs_list PySem.F.slot_list_append PySem.F.type_list_append mt_append (pe_var (hN j) (hv j) hd hcd) (pa_cons (pe j) pa_nil (hs _)) (hbase j) (hfew _) hline (hs _) (hplain _)
    rw [Φ.hK j] at z
    exact ps_expr z (hsw _), fun F os ρ σ H s Dn hO st q => ?_⟩
  unfold fApp at q
  cases eo : ownL i ρ with
  | none =>
    simp only [eo] at q
    exact q.elim
  | some l =>
    simp only [eo] at q
    obtain ⟨a, vs, ea, e1, e2, e3⟩ := st.owned hO hi eo
    refine ⟨_, e1, .inl ⟨rfl, _, seqL e2⟩, ?_⟩
    refine re.bind hO st hxS hbS q fun d s1 v H1 m1 st1 r1 q1 => ?_
    cases z : szOk l.length with
    | false =>
      simp only [z] at q1
      exact q1.elim
    | true =>
      simp only [z] at q1
      have e4 := m1.lst (st.own_q (lookup_mem ea)) e2
      refine ⟨a, vs, v, rfl, rfl, e4, by rw [← e3.len]; exact szOk_lt z, ?_⟩
      exact q1 os σ _ hO (st1.upd ea (ownL_at eo) ((repL_mv st m1 e3).app (.one r1)))
theorem ms_extend {f : Env → M D} (hN : ∀ j, (Φ.X j).N[i]? = some x) (hv : ∀ j, Vis (Φ.X j).env.scope x) (hi : i ∈ O) (he : ME Φ cl O e f)
    (hbase : ∀ j, attributeBase (.Name x p) "extend" (Φ.X j).env (eval (.Name x p) (Φ.X j).env) = eval (.Name x p) (Φ.X j).env := by intro _; rfl)
    (hfew : ∀ env, ((backTo cpos (starEach [e] env)).all (fun x => !x.1) && (backToKw cpos (keywordEach [] env)).all (fun x => x.1.isSome) && decide ([e].length + ([] : List Keyword).length + (if ([] : List Keyword).isEmpty then 0 else 1) < 30)) = true := by intro _; rfl)
    (hline : (apos.endLine == cpos.line) = true := by rfl) (hs : ∀ env, starEach [e] env = (false, eval e env) :: starEach [] env := by intro _; rfl) (hplain : ∀ env, (backTo cpos (starEach [] env)).any (·.1) = false := by intro _; rfl)
    (hd : (x == ("__debug__" : Str)) = false := by decide) (hcd : (x == ("__classdict__" : Str)) = false := by decide)
    (hsw : ∀ env, swapsWith (.Call (.Attribute (.Name x p) "extend" apos) [e] [] cpos) none pos.line env = pure false := by intro _; rfl) : MS Φ cl O O OL (.Expr (.Call (.Attribute (.Name x p) "extend" apos) [e] [] cpos) pos) (fExt i f) := by
  obtain ⟨t, pe, re⟩ := he
  refine ⟨tDrop (tBM K "list" rExtend (tVar i) (tCons t tNil)), fun j => by
    have z := pe_bm (X := Φ.X j) PySem.F.plainAttrs_list PySem.F.slot_list_extend PySem.F.type_list_extend mt_extend (pe_var (hN j) (hv j) hd hcd) (pa_cons (pe j) pa_nil (hs _)) (hbase j) (hfew _) hline (hs _) (hplain _)
    rw [Φ.hK j] at z
    exact ps_expr z (hsw _), fun F os ρ σ H s Dn hO st q => ?_⟩
  unfold fExt at q
  cases eo : ownL i ρ with
  | none =>
    simp only [eo] at q
    exact q.elim
  | some l =>
    simp only [eo] at q
    obtain ⟨a, vs, ea, e1, e2, e3⟩ := st.owned hO hi eo
    refine ⟨_, e1, .inl ⟨rfl, _, seqL e2⟩, ?_⟩
    refine re.bind hO st hxS hbS q fun d s1 v H1 m1 st1 r1 q1 => ?_
    cases d with
    | lst m =>
      obtain ⟨b, ws, rfl, h1, h2⟩ := r1
      cases z : szOk (l.length + m.length) with
      | false =>
        simp only [z] at q1
        exact q1.elim
      | true =>
        simp only [z] at q1
        have e4 := m1.lst (st.own_q (lookup_mem ea)) e2
        refine ⟨a, b, vs, ws, rfl, rfl, e4, hid_same _ _ _ _ h1, by rw [← e3.len, ← h2.len]; exact Nat.le_of_lt (szOk_lt z), ?_⟩
        exact q1 os σ _ hO (st1.upd ea (ownL_at eo) ((repL_mv st m1 e3).app h2))
    | _ => exact q1.elim
/-- x[k] = v -/
def fSetI (i : Nat) (fk fv : Env → M D) (ρ : Env) : M Out := bnd (fv ρ) fun v => match ownL i ρ with
  | some l => bnd (fk ρ) fun k => match k with
    | .int k => match ixN l.length k with
      | some j => ret (.nx (ρ.set i (some (.lst (l.set j v)))))
      | none => bad
    | _ => bad
  | none => bad
theorem ms_setItem {ek ev : Expr} {tpos : Pos} {fk fv : Env → M D} (hN : ∀ j, (Φ.X j).N[i]? = some x) (hv : ∀ j, Vis (Φ.X j).env.scope x) (hi : i ∈ O) (hk : ME Φ cl O ek fk) (he : ME Φ cl O ev fv)
    (hd : (x == ("__debug__" : Str)) = false := by decide) (hcd : (x == ("__classdict__" : Str)) = false := by decide)
    (hs : ∀ env, swapsWithSole [.Subscript (.Name x p) ek tpos] ev pos.line env = pure false := by intro _; rfl) (hw : ∀ env, swappedStores [.Subscript (.Name x p) ek tpos] ev env = pure none := by intro _; rfl)
    (h1 : ∀ env, (assignEach [.Subscript (.Name x p) ek tpos] env).map (·.2) = [assign (.Subscript (.Name x p) ek tpos) env] := by intro _; rfl)
    (ha : ∀ env v, assign (.Subscript (.Name x p) ek tpos) env v = (do
      let ov ← holding [v] (eval (.Name x p) env)
      let iv ← holding [v, ov] (eval ek env)
      standAt tpos
      holding [v, ov, iv] (setItem ov iv v)
      release [v, ov, iv] []) := by intro _ _; rfl) : MS Φ cl O O OL (.Assign [.Subscript (.Name x p) ek tpos] ev pos) (fSetI i fk fv) := by
  obtain ⟨t, pe, re⟩ := he
  obtain ⟨t2, pe2, re2⟩ := hk
  refine ⟨_, fun j => ps_asg (pe j) (pg_sub (pe_var (hN j) (hv j) hd hcd) (pe2 j) set_list (ha _)) (hs _) (hw _) (h1 _), fun F os ρ σ H s Dn hO st q => ?_⟩
  refine re.bind hO st hxS hbS q fun d s1 v H1 m1 st1 r1 q1 => ?_
  cases eo : ownL i ρ with
  | none =>
    simp only [eo] at q1
    exact q1.elim
  | some l =>
    simp only [eo] at q1
    obtain ⟨a, vs, ea, e1, e2, e3⟩ := st1.owned hO hi eo
    refine ⟨_, e1, ?_⟩
    refine re2.bind hO st1 hxS hbS q1 fun d2 s2 v2 H2 m2 st2 r2 q2 => ?_
    cases d2 with
    | int k =>
      simp only at q2
      cases ek : ixN l.length k with
      | none =>
        simp only [ek] at q2
        exact q2.elim
      | some j =>
        simp only [ek] at q2
        have e4 := m2.lst (st1.own_q (lookup_mem ea)) e2
        refine ⟨a, vs, k, j, rfl, r2, e4, by rw [← e3.len]; exact ek, ?_⟩
        exact q2 os σ _ hO (st2.upd ea (ownL_at eo) ((repL_mv st1 m2 e3).set j (rep_mv st1 m2 r1)))
    | _ => exact q2.elim
/-! a list of a slot, read -/
def fLenO (i : Nat) (ρ : Env) : M D := match ownL i ρ with
  | some l => ret (.int l.length)
  | none => bad
def fIxO (i : Nat) (f : Env → M D) (ρ : Env) : M D := match ownL i ρ with
  | some l => bnd (f ρ) fun d => match d with
    | .int k => lift (atI l k)
    | _ => bad
  | none => bad
end
end
section
variable {P : Program} {w : World} {K : Fr} {mg : Str → Option Value} {base : Heap} {cl : Str → Addr} {E : SK} {O : List Nat} {Φ : Cxs P w K mg base E}
variable {i : Nat} {x : Str} {e : Expr} {pos p p1 : Pos}
theorem me_lenOwn (hN : ∀ j, (Φ.X j).N[i]? = some x) (hv : ∀ j, Vis (Φ.X j).env.scope x) (hi : i ∈ O) (hg : ∀ j, Gl (Φ.X j) "len") (hm : mg "len" = none)
    (hd : (x == ("__debug__" : Str)) = false := by decide) (hcd : (x == ("__classdict__" : Str)) = false := by decide) (hs : ∀ env, starEach [Expr.Name x p1] env = (false, eval (.Name x p1) env) :: starEach [] env := by intro _; rfl) :
    ME Φ cl O (.Call (.Name "len" p) [.Name x p1] [] pos) (fLenO i) := by
  refine ⟨tCB (My.rLen K) (tCons (tVar i) tNil), fun j => by
    have z := pe_callB (X := Φ.X j) (p := p) (pos := pos) call_lenR (hg j) (by rw [Φ.hmg]; exact hm) PySem.boot_len (pa_cons (pe_var (pos := p1) (hN j) (hv j) hd hcd) pa_nil (hs _))
    rwa [Φ.hK j] at z, fun F os ρ σ H s Q hO st q => ?_⟩
  unfold fLenO at q
  cases eo : ownL i ρ with
  | none =>
    simp only [eo] at q
    exact q.elim
  | some l =>
    simp only [eo] at q
    obtain ⟨a, vs, ea, e1, e2, e3⟩ := st.owned hO hi eo
    refine ⟨_, e1, a, vs, rfl, .inl (seqL e2), ?_⟩
    rw [← e3.len]
    exact q _ _ Mw.refl st rfl
theorem me_ixOwn {f : Env → M D} (hN : ∀ j, (Φ.X j).N[i]? = some x) (hv : ∀ j, Vis (Φ.X j).env.scope x) (hi : i ∈ O) (he : ME Φ cl O e f) (hs : PlainIx e) (hd : (x == ("__debug__" : Str)) = false := by decide) (hcd : (x == ("__classdict__" : Str)) = false := by decide) :
    ME Φ cl O (.Subscript (.Name x p) e pos) (fIxO i f) := by
  obtain ⟨t, pe, re⟩ := he
  refine ⟨tOp (rIxL K) (tVar i) t, fun j => by
    have z := pe_ix (pos := pos) (@ix_list (Φ.X j)) (pe_var (pos := p) (hN j) (hv j) hd hcd) (pe j) hs
    rwa [Φ.hK j] at z, fun F os ρ σ H s Q hO st q => ?_⟩
  unfold fIxO at q
  cases eo : ownL i ρ with
  | none =>
    simp only [eo] at q
    exact q.elim
  | some l =>
    simp only [eo] at q
    obtain ⟨a, vs, ea, e1, e2, e3⟩ := st.owned hO hi eo
    refine ⟨_, e1, ?_⟩
    refine re.bind hO st hxE hbE q fun d s1 v H1 m1 st1 r1 q1 => ?_
    cases d with
    | int k =>
      simp only at q1
      cases ek : atI l k with
      | none =>
        simp only [lift, ek] at q1
        exact q1.elim
      | some y =>
        simp only [lift, ek] at q1
        obtain ⟨u, e5, r5⟩ := repL_atI (repL_mv st m1 e3) ek
        have e4 := m1.lst (st.own_q (lookup_mem ea)) e2
        exact ⟨a, vs, k, u, rfl, r1, seqL e4, e5, q1 _ _ m1 st1 r5⟩
    | _ => exact q1.elim
end
end Dm

namespace Dm
open PySem PySem.Spec PyProof.Rows L2 My
/-! ### errors raised -/
def sp_initL (C : Addr) (names : List Str) : Sp := fun vs H Q _ => ∃ (a : Addr) (ws : List V), vs = .ref a :: ws ∧ ws.length = names.length ∧ H a = some (exo a C none) ∧
  ∀ dx, H dx = none → dx ≠ a → Q .non (upd (upd H dx (exd dx (names.zip ws).reverse)) a (exo a C (some dx)))
theorem mk_raiseL {H1 : Hp} {C : Addr} {names : List Str} {ws : List V} {Q : XK} (hl : ws.length = names.length) (h : ∀ d, H1 d = none → Q (.ref C) (some d) (upd H1 d (.xd (names.zip ws).reverse))) (a : Addr) (na : H1 a = none) :
    sp_initL C names (.ref a :: ws) (upd H1 a (exo a C none)) (fun r H2 => r = .non ∧ ∃ (d : Addr) (fs : List (Str × V)), H2 a = some (exo a C (some d)) ∧ H2 d = some (exd d fs) ∧ H1 d = none ∧
      Q (.ref C) (some d) (upd (del H2 a) d (.xd fs))) (fun _ _ _ => False) := by
  refine ⟨a, ws, rfl, hl, upd_same, fun dx ndx ne => ⟨rfl, dx, (names.zip ws).reverse, upd_same, ?_, ?_, ?_⟩⟩
  · rw [upd_ne ne, upd_same]
  · rw [upd_ne ne] at ndx
    exact ndx
  · rw [upd_ne ne] at ndx
    have e : upd (del (upd (upd (upd H1 a (exo a C none)) dx (exd dx (names.zip ws).reverse)) a (exo a C (some dx))) a) dx (.xd (names.zip ws).reverse) = upd H1 dx (.xd (names.zip ws).reverse) := by
      funext b
      by_cases b1 : b = dx
      · rw [b1, upd_same, upd_same]
      · rw [upd_ne b1, upd_ne b1]
        by_cases b2 : b = a
        · rw [b2, del_same, na]
        · rw [del_ne b2, upd_ne b2, upd_ne b1, upd_ne b2]
    rw [e]
    exact h dx ndx
theorem repF_zip {K : Fr} {H : Hp} : ∀ {names : List Str} {ds : List D} {ws : List V}, RepL K H ds ws → RepF K H (names.zip ds) (names.zip ws)
  | [], _, _, _ => by
    rw [List.zip_nil_left, List.zip_nil_left]
    rfl
  | n :: names, [], _, h => by
    have h : _ = [] := h
    rw [h]
    rfl
  | n :: names, d :: ds, _, h => by
    obtain ⟨v, r, rfl, h1, h2⟩ := h
    exact ⟨v, _, rfl, h1, repF_zip h2⟩
theorem RepF.app {K : Fr} {H : Hp} : ∀ {l m : List (Str × D)} {vs ws : List (Str × V)}, RepF K H l vs → RepF K H m ws → RepF K H (l ++ m) (vs ++ ws)
  | [], _, _, _, h, h2 => by
    have h : _ = [] := h
    rw [h]
    exact h2
  | (k, d) :: l, _, _, _, h, h2 => by
    obtain ⟨v, r, rfl, h1, h3⟩ := h
    exact ⟨v, r ++ _, rfl, h1, RepF.app h3 h2⟩
theorem RepF.rev {K : Fr} {H : Hp} : ∀ {l : List (Str × D)} {vs : List (Str × V)}, RepF K H l vs → RepF K H l.reverse vs.reverse
  | [], _, h => by
    have h : _ = [] := h
    rw [h]
    rfl
  | (k, d) :: l, _, h => by
    obtain ⟨v, r, rfl, h1, h3⟩ := h
    rw [List.reverse_cons, List.reverse_cons]
    exact RepF.app (RepF.rev h3) ⟨v, [], rfl, h1, rfl⟩
section
variable {P : Program} {w : World} {K : Fr} {mg : Str → Option Value} {base : Heap} {cl : Str → Addr} {E0 : XK} {O O1 O' OL : List Nat} {Φ : CxsE P w K mg base E0}
def fRaise (nm : Str) (names : List Str) (fs : Env → M (List D)) (ρ : Env) : M Out := fun s => match fs ρ s with
  | .ok ds s' => if decide (ds.length = names.length ∧ names.length ≤ 1000) = true then .exc nm (names.zip ds).reverse s' else .bad
  | .exc nm' fs' s' => .exc nm' fs' s'
  | .bad => .bad
/-- what an error class of one's own asks for -/
structure ErrC (K : Fr) (mg : Str → Option Value) (nm : Str) (C : Addr) : Prop where
  gl : mg nm = some (.ref C)
  ok : ErrK K C
theorem ms_raise {nm : Str} {C fI : Addr} {names : List Str} {fd : FuncData} {ps : List Str} {k : Nat} {e : Expr} {es : List Expr} {p pos pos' : Pos} {fs : Env → M (List D)} (hcl : cl nm = C) (ec : ErrC K mg nm C) (iC : PySem.W.findIn K (.ref C) "__init__" = some (some (.ref fI))) (tI : PySem.W.typeIn K (.ref fI) = some (.type "function"))
    (Fn : FnOk P w K mg base CX0 k fI fd ps (sp_initL C names)) (hk : k + 1 ≤ Φ.lv) (hb : Binds K fd ps []) (hg : ∀ j, Gl (Φ.X j) nm) (ha : MA Φ cl O (e :: es) fs) (tk : ∀ j, Takes (Φ.X j) (fun cls d _ H => E0 cls d H))
    (hdb : (nm == ("__debug__" : Str)) = false := by decide) (he : ∀ env, starEach (e :: es) env = (false, eval e env) :: starEach es env := by intro _; rfl) (hpl : ∀ env, (backTo pos (starEach es env)).any (·.1) = false := by intro _; rfl) :
    MS Φ cl O O' OL (.Raise (some (.Call (.Name nm p) (e :: es) [] pos)) none pos') (fRaise nm names fs) := by
  obtain ⟨t, pa, ra⟩ := ha
  refine ⟨fun _ σ H => tMkO C (sp_initL C names) [] t σ H fun cls d H' => E0 cls d H', fun j => ?_, ?_⟩
  · have Fn2 : FnOk (Φ.X j).prog (Φ.X j).w (Φ.X j).K (Φ.X j).mg (Φ.X j).base CX0 k fI fd ps (sp_initL C names) := by
      rw [Φ.hP, Φ.hw, Φ.hK, Φ.hmg, Φ.hb]
      exact Fn
    exact ps_raise (Φ.calm j) (tk j) (pmk_oex (by rw [Φ.hK]; exact ec.ok.oex) (by rw [Φ.hK]; exact iC) (by rw [Φ.hK]; exact tI) Fn2 ((Φ.room j).mono hk) (by rw [Φ.hK]; exact hb) .nil pass0 (hg j) (by rw [Φ.hmg]; exact ec.gl) (pa j) hdb (he _) (hpl _))
  · intro F os ρ σ H s Dn hO st q
    unfold fRaise at q
    refine ra F os ρ σ H s _ hO st ?_
    cases e2 : fs ρ s with
    | bad =>
      simp only [e2] at q
      exact q
    | exc nm' fs' s1 =>
      simp only [e2] at q
      exact q
    | ok ds s1 =>
      simp only [e2] at q
      intro vs H1 m1 st1 r1
      by_cases c : ds.length = names.length ∧ names.length ≤ 1000
      · rw [if_pos (decide_eq_true c)] at q
        have hl : vs.length = names.length := by rw [← r1.len]; exact c.1
        refine ⟨by rw [hl]; exact c.2, fun a na => ?_⟩
        rw [List.append_nil]
        refine mk_raiseL (Q := E0) hl (fun d nd => ?_) a na
        have st2 := st1.laid (o := .xd (names.zip vs).reverse) nd
        rw [← hcl]
        refine q _ d _ st2.mv st2.bag (st1.fresh0 (.of nd)) upd_same ?_
        exact RepF.mono (hid_sub fun a ha => List.mem_append_right _ ha) _ (repF_zip (repL_new st1 nd r1)).rev
      · rw [if_neg (by rw [decide_eq_false c]; exact Bool.false_ne_true)] at q
        exact q.elim
/-! ### a def -/
def fnM (n : Nat) (m : Env → M Out) (ds : List D) : M D := fun s => match m (ds.map some ++ List.replicate (n - ds.length) none) s with
  | .ok (.nx _) s' => .ok .non s'
  | .ok (.rt d) s' => .ok d s'
  | .exc nm fs s' => .exc nm fs s'
  | _ => .bad
abbrev defCx (P : Program) (w : World) (K : Fr) (mg : Str → Option Value) (base : Heap) (N : List Str) (nd : N.Nodup) (qual : Str) (sc : Scope) (f : Addr) (k : Nat) (cdv : Value) (A : Around) (outer : List PySem.Env) (s : Shared) (H : Hp) (E : XK) (hr : Room k (A.deeper (envOfC qual sc s.heap.objs.size f cdv))) : CxsE P w K mg base E where
  ι := Unit
  X := fun _ => cxOf (L2.CX P w) P w K mg base N qual sc f cdv A outer s H E
  lv := k
  hP := fun _ => rfl
  hw := fun _ => rfl
  hK := fun _ => rfl
  hmg := fun _ => rfl
  hb := fun _ => rfl
  calm := fun _ => rfl
  nd := fun _ => nd
  room := fun _ => hr
  pass := fun _ σ => passAt (W := fun cls d _ H => E cls d H) (takes_of rfl rfl rfl rfl) σ
theorem start_slots {K : Fr} {H : Hp} {N : List Str} : ∀ {ds : List D} {vs : List V}, RepL K H ds vs → ∀ (i : Nat) (d : D), (ds.map some ++ List.replicate (N.length - ds.length) none)[i]? = some (some d) → ∃ v, (L2.start N vs)[i]? = some (some v) ∧ Rep K H d v := by
  intro ds vs r i d e
  unfold L2.start
  have hl := r.len
  by_cases c : i < ds.length
  · rw [List.getElem?_append_left (by rw [List.length_map]; exact c), List.getElem?_map] at e
    cases e2 : ds[i]? with
    | none =>
      rw [e2] at e
      cases e
    | some d' =>
      rw [e2] at e
      cases e
      obtain ⟨v, e3, r3⟩ := r.get e2
      exact ⟨v, by rw [List.getElem?_append_left (by rw [List.length_map]; omega), List.getElem?_map, e3]; rfl, r3⟩
  · rw [List.getElem?_append_right (by rw [List.length_map]; omega)] at e
    have := List.mem_of_getElem? e
    have := List.eq_of_mem_replicate this
    cases this
theorem okD {x qual : Str} {st : Stmt} {f : Addr} {fd : FuncData} {N ps : List Str} {k : Nat} (Fn : L2.Fun K x qual st f fd) (S : FnScope N ps (defScope st)) (hN : N.length ≤ 900) (m : Env → M Out) {O' : List Nat}
    (hb : ∀ (cdv : Value) (A : Around) (outer : List PySem.Env) (s : Shared) (H : Hp) (E : XK) (hr : Room k (A.deeper (envOfC qual (defScope st) s.heap.objs.size f cdv))), MSs (defCx P w K mg base N S.nd qual (defScope st) f k cdv A outer s H E hr) cl [] O' [] (defBody st) m) :
    FnOk P w K mg base (L2.CX P w) (k + 1) f fd ps (spD K cl ps.length (fnM N.length m)) := by
  refine Fn.okX S (fun vs H Q E h => ?_) (fun cdv A outer s H vs Q E hr h => ?_)
  · obtain ⟨F, s, ds, _, _, _, r, hl, _⟩ := h
    rw [← r.len]
    exact hl
  · obtain ⟨F, b, ds, eH, fok, bag, r, hl, q⟩ := h
    obtain ⟨t, p, rs⟩ := hb cdv A outer s H E hr
    refine ⟨t, p (), ?_⟩
    subst eH
    have st0 : StOk K (F.at fun _ => none) [] (ds.map some ++ List.replicate (N.length - ds.length) none) (L2.start N vs) F.H0 b := by
      have e1 := r.len
      refine ⟨Mw.refl, ⟨fok.qW, fok.cW, fok.cq, fok.wild⟩, bag, (fun p hp => nomatch hp), (fun p hp => nomatch hp), List.nodup_nil, ?_, ?_, (fun a o e => nomatch e), fun i d e => ?_⟩
      · unfold L2.start
        rw [List.length_append, List.length_append, List.length_map, List.length_map, List.length_replicate, List.length_replicate, e1]
      · have h1 : ps.length ≤ N.length := by
          have h3 := congrArg List.length S.pre
          rw [List.length_take] at h3
          omega
        rw [List.length_append, List.length_map, List.length_replicate]
        omega
      · exact start_slots r i d e
    refine rs (F.at fun _ => none) [] _ _ F.H0 b _ rfl st0 ?_
    unfold fnM at q
    cases e : m (ds.map some ++ List.replicate (N.length - ds.length) none) b with
    | bad =>
      simp only [e] at q
      exact q
    | exc nm fs s1 =>
      simp only [e] at q
      exact q
    | ok o s1 =>
      cases o with
      | nx ρ' =>
        simp only [e] at q
        exact fun os' σ' H' hO st' => q .non H' st'.mv st'.bag rfl
      | rt d =>
        simp only [e] at q
        exact q
      | bk _ =>
        simp only [e] at q
        exact q.elim
      | ct _ =>
        simp only [e] at q
        exact q.elim
end
end Dm

namespace Dm
open PySem PySem.Spec PyProof.Rows L2 My
section
variable {P : Program} {w : World} {K : Fr} {mg : Str → Option Value} {base : Heap} {cl : Str → Addr} {E : SK} {O : List Nat} {Φ : Cxs P w K mg base E}
theorem Cxs.u64 (Φ : Cxs P w K mg base E) (j : Φ.ι) : (Φ.X j).A.units + 64 < cLine := (Φ.room j).units
theorem Cxs.u65 (Φ : Cxs P w K mg base E) (j : Φ.ι) : (Φ.X j).A.units + 65 < cLine := units1 (Φ.room j)
section
variable {a b : Expr} {f h : Env → M D} {pos : Pos}
theorem me_add (ha : ME Φ cl O a f) (hb : ME Φ cl O b h) : ME Φ cl O (.BinOp a .Add b pos) (fOp addD f h) := me_op (r := rAddA K) (fun j => by have z := @op_addA (Φ.X j); rwa [Φ.hK j] at z) ro_add ha hb
theorem me_sub (ha : ME Φ cl O a f) (hb : ME Φ cl O b h) : ME Φ cl O (.BinOp a .Sub b pos) (fOp subD f h) := me_op (fun j => op_sub) ro_sub ha hb
theorem me_mul (ha : ME Φ cl O a f) (hb : ME Φ cl O b h) : ME Φ cl O (.BinOp a .Mult b pos) (fOp mulD f h) := me_op (fun j => op_mulA) ro_mul ha hb
theorem me_div (ha : ME Φ cl O a f) (hb : ME Φ cl O b h) : ME Φ cl O (.BinOp a .FloorDiv b pos) (fOp divD f h) := me_op (fun j => op_fdivW) ro_div ha hb
theorem me_mod (ha : ME Φ cl O a f) (hb : ME Φ cl O b h) : ME Φ cl O (.BinOp a .Mod b pos) (fOp modD f h) := me_op (fun j => op_mod) ro_mod ha hb
theorem me_pow (ha : ME Φ cl O a f) (hb : ME Φ cl O b h) : ME Φ cl O (.BinOp a .Pow b pos) (fOp powD f h) := me_op (fun j => op_pow) ro_pow ha hb
def negD : D → Option D
  | .int i => some (.int (-i))
  | _ => none
def fUn (g : D → Option D) (f : Env → M D) (ρ : Env) : M D := bnd (f ρ) fun x => lift (g x)
theorem me_neg (ha : ME Φ cl O a f) : ME Φ cl O (.UnaryOp .USub a pos) (fUn negD f) := by
  obtain ⟨t, p, r⟩ := ha
  refine ⟨_, fun j => pe_un un_neg (p j), fun F os ρ σ H s Q hO st q => ?_⟩
  refine r.bind hO st hxE hbE q fun d s1 v H1 m1 st1 r1 q1 => ?_
  cases d with
  | int i => exact ⟨i, r1, q1 _ _ m1 st1 rfl⟩
  | _ => exact q1.elim
theorem oEq (Φ : Cxs P w K mg base E) (j : Φ.ι) : OpR (Φ.X j) (compareOp .Eq) (rEqD K) := by have z := op_eqD (Φ.u64 j); rwa [Φ.hK j] at z
theorem oNe (Φ : Cxs P w K mg base E) (j : Φ.ι) : OpR (Φ.X j) (compareOp .NotEq) (rNeD K) := by have z := op_neD (Φ.u64 j); rwa [Φ.hK j] at z
theorem oIn (Φ : Cxs P w K mg base E) (j : Φ.ι) : OpR (Φ.X j) (compareOp .In) (rInA K) := by have z := op_inA (Φ.u65 j); rwa [Φ.hK j] at z
theorem oNotIn (Φ : Cxs P w K mg base E) (j : Φ.ι) : OpR (Φ.X j) (compareOp .NotIn) (rNotInA K) := by have z := op_notInA (Φ.u65 j); rwa [Φ.hK j] at z
theorem oIx (Φ : Cxs P w K mg base E) (j : Φ.ι) : IxR (Φ.X j) (rIx K) := by have z := @ix_seq (Φ.X j); rwa [Φ.hK j] at z
theorem me_eq (ha : ME Φ cl O a f) (hb : ME Φ cl O b h) : ME Φ cl O (.Compare a [.Eq] [b] pos) (fOp eqD f h) := me_cmp (oEq Φ) ro_eq ha hb (nomark _)
theorem mt_eq (ha : ME Φ cl O a f) (hb : ME Φ cl O b h) : MT Φ cl O (.Compare a [.Eq] [b] pos) (fTr (fOp eqD f h)) := mt_cmp (oEq Φ) ro_eq ha hb (nomark _)
theorem me_ne (ha : ME Φ cl O a f) (hb : ME Φ cl O b h) : ME Φ cl O (.Compare a [.NotEq] [b] pos) (fOp neD f h) := me_cmp (oNe Φ) ro_ne ha hb (nomark _)
theorem mt_ne (ha : ME Φ cl O a f) (hb : ME Φ cl O b h) : MT Φ cl O (.Compare a [.NotEq] [b] pos) (fTr (fOp neD f h)) := mt_cmp (oNe Φ) ro_ne ha hb (nomark _)
theorem me_lt (ha : ME Φ cl O a f) (hb : ME Φ cl O b h) : ME Φ cl O (.Compare a [.Lt] [b] pos) (fOp ltD f h) := me_cmp (fun j => op_lt) ro_lt ha hb (nomark _)
theorem mt_lt (ha : ME Φ cl O a f) (hb : ME Φ cl O b h) : MT Φ cl O (.Compare a [.Lt] [b] pos) (fTr (fOp ltD f h)) := mt_cmp (fun j => op_lt) ro_lt ha hb (nomark _)
theorem me_le (ha : ME Φ cl O a f) (hb : ME Φ cl O b h) : ME Φ cl O (.Compare a [.LtE] [b] pos) (fOp leD f h) := me_cmp (fun j => op_le) ro_le ha hb (nomark _)
theorem mt_le (ha : ME Φ cl O a f) (hb : ME Φ cl O b h) : MT Φ cl O (.Compare a [.LtE] [b] pos) (fTr (fOp leD f h)) := mt_cmp (fun j => op_le) ro_le ha hb (nomark _)
theorem me_gt (ha : ME Φ cl O a f) (hb : ME Φ cl O b h) : ME Φ cl O (.Compare a [.Gt] [b] pos) (fOp gtD f h) := me_cmp (fun j => op_gt) ro_gt ha hb (nomark _)
theorem mt_gt (ha : ME Φ cl O a f) (hb : ME Φ cl O b h) : MT Φ cl O (.Compare a [.Gt] [b] pos) (fTr (fOp gtD f h)) := mt_cmp (fun j => op_gt) ro_gt ha hb (nomark _)
theorem me_ge (ha : ME Φ cl O a f) (hb : ME Φ cl O b h) : ME Φ cl O (.Compare a [.GtE] [b] pos) (fOp geD f h) := me_cmp (fun j => op_ge) ro_ge ha hb (nomark _)
theorem mt_ge (ha : ME Φ cl O a f) (hb : ME Φ cl O b h) : MT Φ cl O (.Compare a [.GtE] [b] pos) (fTr (fOp geD f h)) := mt_cmp (fun j => op_ge) ro_ge ha hb (nomark _)
theorem me_in (ha : ME Φ cl O a f) (hb : ME Φ cl O b h) (hm : behindInMarks .In b = false := by rfl) : ME Φ cl O (.Compare a [.In] [b] pos) (fOp inD f h) := me_cmp (oIn Φ) ro_in ha hb hm
theorem mt_in (ha : ME Φ cl O a f) (hb : ME Φ cl O b h) (hm : behindInMarks .In b = false := by rfl) : MT Φ cl O (.Compare a [.In] [b] pos) (fTr (fOp inD f h)) := mt_cmp (oIn Φ) ro_in ha hb hm
theorem me_notIn (ha : ME Φ cl O a f) (hb : ME Φ cl O b h) (hm : behindInMarks .NotIn b = false := by rfl) : ME Φ cl O (.Compare a [.NotIn] [b] pos) (fOp notInD f h) := me_cmp (oNotIn Φ) ro_notIn ha hb hm
theorem mt_notIn (ha : ME Φ cl O a f) (hb : ME Φ cl O b h) (hm : behindInMarks .NotIn b = false := by rfl) : MT Φ cl O (.Compare a [.NotIn] [b] pos) (fTr (fOp notInD f h)) := mt_cmp (oNotIn Φ) ro_notIn ha hb hm
theorem me_is (ha : ME Φ cl O a f) (hb : ME Φ cl O b h) : ME Φ cl O (.Compare a [.Is] [b] pos) (fOp isD f h) := me_cmp (fun j => op_isA) ro_is ha hb (nomark _)
theorem mt_is (ha : ME Φ cl O a f) (hb : ME Φ cl O b h) : MT Φ cl O (.Compare a [.Is] [b] pos) (fTr (fOp isD f h)) := mt_cmp (fun j => op_isA) ro_is ha hb (nomark _)
def rIsNotA : R2 := fun x y H Q => (y = .non ∧ Q (.bl (!decide (x = .non))) H) ∨ ∃ a b, x = .bl a ∧ y = .bl b ∧ Q (.bl (!decide (a = b))) H
theorem op_isNotA {X : Cx} : OpR X (compareOp .IsNot) rIsNotA := op_notN.or op_isnot_bl
def isNotA (x : D) : D → Option D
  | .non => some (.bl (!isNonD x))
  | .bl b => match x with
    | .bl a => some (.bl (!decide (a = b)))
    | _ => none
  | _ => none
theorem ro_isNot {K : Fr} : RO K rIsNotA isNotA := by
  intro F os ρ σ H s Q x y dx dy d st rx ry e q
  cases dy with
  | non =>
    refine .inl ⟨ry, ?_⟩
    rw [rep_non rx]
    cases e
    exact q _ H Mw.refl st rfl
  | bl b =>
    cases dx with
    | bl a =>
      cases e
      exact .inr ⟨a, b, rx, ry, q _ H Mw.refl st rfl⟩
    | _ => cases e
  | _ => cases e
theorem me_isNot (ha : ME Φ cl O a f) (hb : ME Φ cl O b h) : ME Φ cl O (.Compare a [.IsNot] [b] pos) (fOp isNotA f h) := me_cmp (fun j => op_isNotA) ro_isNot ha hb (nomark _)
theorem mt_isNot (ha : ME Φ cl O a f) (hb : ME Φ cl O b h) : MT Φ cl O (.Compare a [.IsNot] [b] pos) (fTr (fOp isNotA f h)) := mt_cmp (fun j => op_isNotA) ro_isNot ha hb (nomark _)
theorem me_ixA (ha : ME Φ cl O a f) (hb : ME Φ cl O b h) (hs : PlainIx b) : ME Φ cl O (.Subscript a b pos) (fOp ixD f h) := me_ix (oIx Φ) ro_ix ha hb hs
end
section
variable {e : Expr} {es : List Expr} {pos p : Pos} {fs : Env → M (List D)} {f : Env → M D}
theorem me_len (hg : ∀ j, Gl (Φ.X j) "len") (hm : mg "len" = none) (ha : MA Φ cl O [e] fs) (he : ∀ env, starEach [e] env = (false, eval e env) :: starEach [] env := by intro _; rfl) : ME Φ cl O (.Call (.Name "len" p) [e] [] pos) (fCall lenD fs) := me_callB (fun j => by have z := @call_len (Φ.X j); rwa [Φ.hK j] at z) rc_len hg hm PySem.boot_len ha (he := he)
theorem me_list (hg : ∀ j, Gl (Φ.X j) "list") (hm : mg "list" = none) (ha : MA Φ cl O [e] fs) (he : ∀ env, starEach [e] env = (false, eval e env) :: starEach [] env := by intro _; rfl) : ME Φ cl O (.Call (.Name "list" p) [e] [] pos) (fCall listD fs) := me_callTy (fun j => by have z := @call_listR (Φ.X j); rwa [Φ.hK j] at z) rc_list hg hm (by decide +kernel) ha (he := he)
theorem me_tuple (hg : ∀ j, Gl (Φ.X j) "tuple") (hm : mg "tuple" = none) (ha : MA Φ cl O [e] fs) (he : ∀ env, starEach [e] env = (false, eval e env) :: starEach [] env := by intro _; rfl) : ME Φ cl O (.Call (.Name "tuple" p) [e] [] pos) (fCall tupleD fs) := me_callTy (fun j => by have z := @call_tupR (Φ.X j); rwa [Φ.hK j] at z) rc_tuple hg hm (by decide +kernel) ha (he := he)
theorem me_sorted (hg : ∀ j, Gl (Φ.X j) "sorted") (hm : mg "sorted" = none) (ha : MA Φ cl O [e] fs) (he : ∀ env, starEach [e] env = (false, eval e env) :: starEach [] env := by intro _; rfl) : ME Φ cl O (.Call (.Name "sorted" p) [e] [] pos) (fCall sortedD fs) := me_callB (fun j => by have z := @cr_sort2 (Φ.X j); rwa [Φ.hK j] at z) rc_sorted hg hm (by decide +kernel) ha (he := he)
theorem me_sum (hg : ∀ j, Gl (Φ.X j) "sum") (hm : mg "sum" = none) (ha : MA Φ cl O [e] fs) (he : ∀ env, starEach [e] env = (false, eval e env) :: starEach [] env := by intro _; rfl) : ME Φ cl O (.Call (.Name "sum" p) [e] [] pos) (fCall sumD fs) := me_callB (fun j => by have z := cr_sum (Φ.calm j); rwa [Φ.hK j] at z) rc_sum hg hm (by decide +kernel) ha (he := he)
theorem me_max (hg : ∀ j, Gl (Φ.X j) "max") (hm : mg "max" = none) (ha : MA Φ cl O (e :: es) fs) (he : ∀ env, starEach (e :: es) env = (false, eval e env) :: starEach es env := by intro _; rfl) (hpl : ∀ env, (backTo pos (starEach es env)).any (·.1) = false := by intro _; rfl) :
    ME Φ cl O (.Call (.Name "max" p) (e :: es) [] pos) (fCall maxD fs) := me_callB (fun j => by have z := cr_maxA (Φ.calm j) (Φ.u64 j); rwa [Φ.hK j] at z) rc_max hg hm (by decide +kernel) ha (he := he) (hpl := hpl)
theorem me_min (hg : ∀ j, Gl (Φ.X j) "min") (hm : mg "min" = none) (ha : MA Φ cl O (e :: es) fs) (he : ∀ env, starEach (e :: es) env = (false, eval e env) :: starEach es env := by intro _; rfl) (hpl : ∀ env, (backTo pos (starEach es env)).any (·.1) = false := by intro _; rfl) :
    ME Φ cl O (.Call (.Name "min" p) (e :: es) [] pos) (fCall minD fs) := me_callB (fun j => by have z := cr_minA (Φ.calm j); rwa [Φ.hK j] at z) rc_min hg hm (by decide +kernel) ha (he := he) (hpl := hpl)
theorem me_all (hg : ∀ j, Gl (Φ.X j) "all") (hm : mg "all" = none) (ha : MA Φ cl O [e] fs) (he : ∀ env, starEach [e] env = (false, eval e env) :: starEach [] env := by intro _; rfl) : ME Φ cl O (.Call (.Name "all" p) [e] [] pos) (fCall allD fs) := me_callB (fun j => by have z := cr_all (Φ.calm j); rwa [Φ.hK j] at z) rc_all hg hm (by decide +kernel) ha (he := he)
theorem me_abs (hg : ∀ j, Gl (Φ.X j) "abs") (hm : mg "abs" = none) (ha : MA Φ cl O [e] fs) (he : ∀ env, starEach [e] env = (false, eval e env) :: starEach [] env := by intro _; rfl) : ME Φ cl O (.Call (.Name "abs" p) [e] [] pos) (fCall absD fs) := me_callB (fun j => call_abs) (rc_abs (K := K)) hg hm (by decide +kernel) ha (he := he)
theorem me_intC (hg : ∀ j, Gl (Φ.X j) "int") (hm : mg "int" = none) (ha : MA Φ cl O [e] fs) (he : ∀ env, starEach [e] env = (false, eval e env) :: starEach [] env := by intro _; rfl) : ME Φ cl O (.Call (.Name "int" p) [e] [] pos) (fCall intD fs) := me_callTy (fun j => call_int1) (rc_int (K := K)) hg hm (by decide +kernel) ha (he := he)
theorem me_boolC (hg : ∀ j, Gl (Φ.X j) "bool") (hm : mg "bool" = none) (ha : MA Φ cl O [e] fs) (he : ∀ env, starEach [e] env = (false, eval e env) :: starEach [] env := by intro _; rfl) : ME Φ cl O (.Call (.Name "bool" p) [e] [] pos) (fCall boolD fs) := me_callTy (fun j => call_bool1) (rc_bool (K := K)) hg hm (by decide +kernel) ha (he := he)
theorem me_strC (hg : ∀ j, Gl (Φ.X j) "str") (hm : mg "str" = none) (ha : MA Φ cl O [e] fs) (he : ∀ env, starEach [e] env = (false, eval e env) :: starEach [] env := by intro _; rfl) : ME Φ cl O (.Call (.Name "str" p) [e] [] pos) (fCall strD fs) := me_callTy (fun j => call_str_int) (rc_str (K := K)) hg hm (by decide +kernel) ha (he := he)
theorem me_repr (hg : ∀ j, Gl (Φ.X j) "repr") (hm : mg "repr" = none) (ha : MA Φ cl O [e] fs) (he : ∀ env, starEach [e] env = (false, eval e env) :: starEach [] env := by intro _; rfl) : ME Φ cl O (.Call (.Name "repr" p) [e] [] pos) (fCall reprD fs) := me_callB (fun j => call_repr_bl) (rc_repr (K := K)) hg hm (by decide +kernel) ha (he := he)
theorem me_isi {c : Expr} (hg : ∀ j, Gl (Φ.X j) "isinstance") (hm : mg "isinstance" = none) (ha : MA Φ cl O [e, c] fs) (he : ∀ env, starEach [e, c] env = (false, eval e env) :: starEach [c] env := by intro _; rfl) (hpl : ∀ env, (backTo pos (starEach [c] env)).any (·.1) = false := by intro _; rfl) :
    ME Φ cl O (.Call (.Name "isinstance" p) [e, c] [] pos) (fCall isiD fs) := me_callB (fun j => by have z := @call_isi (Φ.X j); rwa [Φ.hK j] at z) rc_isi hg hm (by decide +kernel) ha (he := he) (hpl := hpl)
def isiL (t : String) : List String → Option Bool
  | [] => some false
  | n :: r => match kitB t n with
    | some true => some true
    | some false => isiL t r
    | none => none
theorem isiL_kit {K : Fr} {t : String} : ∀ {ns : List String} {b : Bool}, isiL t ns = some b → PySem.W.kitAny K (.type t) (ns.map Value.type) = some b
  | [], b, e => e
  | n :: r, b, e => by
    have e : (match kitB t n with | some true => some true | some false => isiL t r | none => none) = some b := e
    cases ek : kitB t n with
    | none =>
      rw [ek] at e
      cases e
    | some k =>
      rw [ek] at e
      cases k with
      | true =>
        cases e
        exact kitAny_cons (kit_ty ek) (fun z => nomatch z) fun _ => rfl
      | false => exact kitAny_cons (kit_ty ek) (fun _ => isiL_kit e) fun z => nomatch z
/-- isinstance(x, (A, B)), built-in classes -/
def fIsiT (ns : List String) (f : Env → M D) (ρ : Env) : M D := bnd (f ρ) fun d => lift (match tyName d with
  | some t => (isiL t ns).map D.bl
  | none => none)
theorem me_isiTy {x1 p1} {n1 n2 : Str} {t1 t2 : String} (hg : ∀ j, Gl (Φ.X j) "isinstance") (hm : mg "isinstance" = none) (he : ME Φ cl O e f)
    (g1 : ∀ j, Gl (Φ.X j) n1) (m1 : mg n1 = none) (v1 : bootBuiltins n1 = some (.type t1)) (g2 : ∀ j, Gl (Φ.X j) n2) (m2 : mg n2 = none) (v2 : bootBuiltins n2 = some (.type t2)) {q1 q2 : Pos}
    (s1 : ∀ env, starEach [e, .Tuple [.Name n1 q1, .Name n2 q2] x1 p1] env = (false, eval e env) :: starEach [.Tuple [.Name n1 q1, .Name n2 q2] x1 p1] env := by intro _; rfl)
    (hn1 : n1 ≠ "__name__" := by decide) (hd1 : (n1 == ("__debug__" : Str)) = false := by decide) (hn2 : n2 ≠ "__name__" := by decide) (hd2 : (n2 == ("__debug__" : Str)) = false := by decide) :
    ME Φ cl O (.Call (.Name "isinstance" p) [e, .Tuple [.Name n1 q1, .Name n2 q2] x1 p1] [] pos) (fIsiT [t1, t2] f) := by
  obtain ⟨t, pe, re⟩ := he
  refine ⟨tCB (rIsiT K) (tCons t (tCons (tTup (tCons (tC (.ty t1)) (tCons (tC (.ty t2)) tNil))) tNil)), fun j => by
    have z := pe_callB (X := Φ.X j) (p := p) (pos := pos) call_isiT (hg j) (by rw [Φ.hmg]; exact hm) (by decide +kernel)
      (pa_cons (pe j) (pa_cons (pe_tup (x1 := x1) (pa_cons (pe_bltn (v := .ty t1) (pos := q1) (g1 j) (by rw [Φ.hmg]; exact m1) v1 rfl hn1 hd1) (pa_cons (pe_bltn (v := .ty t2) (pos := q2) (g2 j) (by rw [Φ.hmg]; exact m2) v2 rfl hn2 hd2) pa_nil))) pa_nil) (s1 _)) (by decide) (by decide) (s1 _)
    rwa [Φ.hK j] at z, fun F os ρ σ H s Q hO st q => ?_⟩
  refine re.bind hO st hxE hbE q fun d s1 v H1 m1 st1 r1 q1 => ?_
  refine ⟨by show 2 ≤ sizeLine; decide, fun u nu => ?_⟩
  cases et : tyName d with
  | none =>
    simp only [lift, et] at q1
    exact q1.elim
  | some tn =>
    simp only [lift, et] at q1
    cases ei : isiL tn [t1, t2] with
    | none =>
      simp only [ei, Option.map_none] at q1
      exact q1.elim
    | some b =>
      simp only [ei, Option.map_some] at q1
      have m2' := mv_new (q := F.q) (o := .tup [V.ty t1, V.ty t2]) nu
      refine ⟨v, u, _, .type tn, [.type t1, .type t2], b, rfl, upd_same, .cons (.ty _) (.cons (.ty _) .nil), ?_, isiL_kit ei, q1 _ _ (m1.trans m2') (st1.laid nu) rfl⟩
      exact ty_of ((hid_mv st1.qW m2').trans (hid_same _ _)) et r1
/-! keywords of built-in calls, lists of ranges, places, from behind -/
def maxDf (l d : D) : Option D := match l, d with
  | .lst l, .int d => match intsOf l with
    | some ns => some (.int (mx d ns))
    | none => none
  | _, _ => none
theorem me_maxDf {d : Expr} {kpos : Pos} {g : Env → M D} (hg : ∀ j, Gl (Φ.X j) "max") (hm : mg "max" = none) (he : ME Φ cl O e f) (hd : ME Φ cl O d g) (s1 : ∀ env, starEach [e] env = (false, eval e env) :: starEach [] env := by intro _; rfl) :
    ME Φ cl O (.Call (.Name "max" p) [e] [⟨some "default", d, kpos⟩] pos) (fOp maxDf f g) := by
  obtain ⟨t, pe, re⟩ := he
  obtain ⟨u, pu, ru⟩ := hd
  refine ⟨tCKw (rMaxDf K) (tCons t tNil) (tCons u tNil), fun j => by
    have b1 : backTo pos (starEach [e] (Φ.X j).env) = (false, eval e (Φ.X j).env) :: backTo pos (starEach [] (Φ.X j).env) := by rw [s1]; rfl
    have z := pe_callBK (X := Φ.X j) (p := p) (pos := pos) (cr_maxDf (Φ.calm j) (Φ.u64 j)) (hg j) (by rw [Φ.hmg]; exact hm) (by decide +kernel) (pa_cons (pe j) pa_nil (s1 _)) (pk_cons (nm := some "default") (kpos := kpos) (pu j) pk_nil) (by decide) (by decide) b1 (by rw [b1]; rfl)
    rwa [Φ.hK j] at z, fun F os ρ σ H s Q hO st q => ?_⟩
  refine re.bind hO st hxE hbE q fun dx s1 v H1 m1 st1 r1 q1 => ?_
  refine ru.bind hO st1 hxE hbE q1 fun dy s2 v2 H2 m2 st2 r2 q2 => ?_
  cases em : maxDf dx dy with
  | none =>
    simp only [lift, em] at q2
    exact q2.elim
  | some z =>
    simp only [lift, em] at q2
    cases dx with
    | lst l =>
      cases dy with
      | int d0 =>
        have em : (match intsOf l with | some ns => some (D.int (mx d0 ns)) | none => none) = some z := em
        cases ei : intsOf l with
        | none =>
          rw [ei] at em
          cases em
        | some ns =>
          rw [ei] at em
          cases em
          obtain ⟨a, vs, rfl, h1, h2⟩ := rep_mv st1 m2 r1
          obtain ⟨ew, _⟩ := intsOf_rep ei h2
          exact ⟨a, ns, d0, rfl, by rw [show v2 = .int d0 from r2], by rw [← ew]; exact seqL (hid_same _ _ _ _ h1), q2 _ _ (m1.trans m2) st2 rfl⟩
      | _ => cases em
    | _ => cases em
def tupInts : D → Option (List Int)
  | .tup l => intsOf l
  | _ => none
def idxN (ns : List Int) : List D → Option D
  | [.int k] => if decide (k ∈ ns) = true then some (.int ((ns.idxOf k : Nat) : Int)) else none
  | _ => none
def fIdx (f : Env → M D) (g : Env → M (List D)) (ρ : Env) : M D := bnd (f ρ) fun x => match tupInts x with
  | some ns => bnd (g ρ) fun ks => lift (idxN ns ks)
  | none => bad
theorem me_tidx {o : Expr} {apos cpos : Pos} {g : Env → M (List D)} (ho : ME Φ cl O o f) (ha : MA Φ cl O [e] g) (hbase : ∀ j, attributeBase o "index" (Φ.X j).env (eval o (Φ.X j).env) = eval o (Φ.X j).env := by intro _; rfl)
    (hfew : ∀ env, ((backTo cpos (starEach [e] env)).all (fun x => !x.1) && (backToKw cpos (keywordEach [] env)).all (fun x => x.1.isSome) && decide ([e].length + ([] : List Keyword).length + (if ([] : List Keyword).isEmpty then 0 else 1) < 30)) = true := by intro _; rfl)
    (hline : (apos.endLine == cpos.line) = true := by rfl) (hs : ∀ env, starEach [e] env = (false, eval e env) :: starEach [] env := by intro _; rfl) (hplain : ∀ env, (backTo cpos (starEach [] env)).any (·.1) = false := by intro _; rfl) :
    ME Φ cl O (.Call (.Attribute o "index" apos) [e] [] cpos) (fIdx f g) := by
  obtain ⟨t, pe, re⟩ := ho
  obtain ⟨u, pu, ru⟩ := ha
  refine ⟨_, fun j => pe_tidx (pe j) (pu j) (hbase j) (hfew _) hline (hs _) (hplain _), fun F os ρ σ H s Q hO st q => ?_⟩
  refine re.bind hO st hxE hbE q fun dx s1 v H1 m1 st1 r1 q1 => ?_
  cases ei : tupInts dx with
  | none =>
    simp only [ei] at q1
    exact q1.elim
  | some ns =>
    simp only [ei] at q1
    cases dx with
    | tup l =>
      obtain ⟨a, vs, rfl, h1, h2⟩ := id r1
      obtain ⟨ew, _⟩ := intsOf_rep ei h2
      refine ⟨a, ns, rfl, by rw [← ew]; exact h1.mono (hid_same _ _), ?_⟩
      refine ru.bind hO st1 hxE hbE q1 fun ks s2 us H2 m2 st2 r2 q2 => ?_
      cases em : idxN ns ks with
      | none =>
        simp only [lift, em] at q2
        exact q2.elim
      | some z =>
        simp only [lift, em] at q2
        match ks, em, r2 with
        | [.int k], em, r2 =>
          obtain ⟨g, e9⟩ := ite_some (c := decide (k ∈ ns)) (a := D.int ((ns.idxOf k : Nat) : Int)) em
          subst e9
          obtain ⟨u, rfl, ru2⟩ := one_arg r2
          have h3 := (h1.mono (hid_mv st1.qW m2)).mono (hid_same _ _)
          exact ⟨k, by rw [show u = .int k from ru2], by rw [← ew]; exact h3, of_decide_eq_true g, q2 _ _ (m1.trans m2) st2 rfl⟩
        | [], em, _ => cases em
        | x :: _ :: _, em, _ => cases x <;> cases em
    | _ => cases ei
/-- list(range(n)), a new list -/
theorem mf_listRg1 {a : Expr} {p2 pos2 : Pos} (hg : ∀ j, Gl (Φ.X j) "list") (hm : mg "list" = none) (hg2 : ∀ j, Gl (Φ.X j) "range") (hm2 : mg "range" = none) (he : ME Φ cl O a f)
    (na : ∀ env, starEach [a] env = (false, eval a env) :: starEach [] env := by intro _; rfl) :
    MF Φ cl O (.Call (.Name "list" p) [.Call (.Name "range" p2) [a] [] pos2] [] pos) (fun ρ => bnd (f ρ) fun d => match d with
      | .int n => if (decide (0 ≤ n) && decide (n ≤ 1000000)) = true then ret (rgD 0 n.toNat) else bad
      | _ => bad) := by
  obtain ⟨t, pe, re⟩ := he
  refine ⟨_, fun j => pe_listRg (Φ.calm j) (hg j) (by rw [Φ.hmg]; exact hm) (prg_1 (hg2 j) (by rw [Φ.hmg]; exact hm2) (pe j) (na _)), fun F os ρ σ H s Q hO st q => ?_⟩
  refine re.bind hO st hxR hbR q fun d s1 v H1 m1 st1 r1 q1 => ?_
  cases d with
  | int n =>
    simp only at q1
    cases g : (decide (0 ≤ n) && decide (n ≤ 1000000)) with
    | false =>
      simp only [g] at q1
      exact q1.elim
    | true =>
      simp only [g] at q1
      rw [Bool.and_eq_true] at g
      have g1 := of_decide_eq_true g.1
      have g3 := of_decide_eq_true g.2
      refine ⟨n, r1, RgOk.of_le (by omega) (by omega) (by omega) (by omega), fun p np => ?_⟩
      have e : rgV 0 n = (List.range n.toNat).map fun (i : Nat) => V.int (0 + (i : Int)) := by
        unfold rgV
        rw [Int.sub_zero]
      have r : RepL K (hid (wld F os) H1) (rgD 0 n.toNat) (rgV 0 n) := by
        rw [e]
        have z := rep_ints (K := K) (H := hid (wld F os) H1) ((List.range n.toNat).map fun (i : Nat) => (0 + (i : Int)))
        rw [List.map_map, List.map_map] at z
        exact z
      exact new_own st1 r (fun a vs H' m st' e r' => q1 a vs H' (m1.trans m) st' e r') p np
  | _ => exact q1.elim
/-- .. from behind -/
def revD : D → Option D
  | .lst l => some (.lst l.reverse)
  | _ => none
theorem me_revL {k : Nat} {p1 p2 p3 : Pos} (he : ME Φ cl O e f) : ME Φ cl O (.Subscript e (.Slice none none (some (.UnaryOp .USub (.Constant (.int 1) k p1) p2)) p3) pos) (fUn revD f) := by
  obtain ⟨t, pe, re⟩ := he
  refine ⟨tRevL K t, fun j => by have z := pe_revL (k := k) (p1 := p1) (p2 := p2) (p3 := p3) (pos := pos) (pe j); rwa [Φ.hK j] at z, fun F os ρ σ H s Q hO st q => ?_⟩
  refine re.bind hO st hxE hbE q fun d s1 v H1 m1 st1 r1 q1 => ?_
  cases d with
  | lst l =>
    obtain ⟨a, vs, rfl, h1, h2⟩ := r1
    exact ⟨a, vs, rfl, seqL (hid_same _ _ _ _ h1), fun p np => new_lst st1 h2.rev (fun v H' m st' r' => q1 v H' (m1.trans m) st' r') p np⟩
  | _ => exact q1.elim
def revT : D → Option D
  | .tup l => some (.tup0 l.reverse)
  | .tup0 l => some (.tup0 l.reverse)
  | _ => none
theorem me_revT {k : Nat} {p1 p2 p3 : Pos} (he : ME Φ cl O e f) : ME Φ cl O (.Subscript e (.Slice none none (some (.UnaryOp .USub (.Constant (.int 1) k p1) p2)) p3) pos) (fUn revT f) := by
  obtain ⟨t, pe, re⟩ := he
  refine ⟨tRevT K t, fun j => pe_revTK (Φ.hK j) (pe j), fun F os ρ σ H s Q hO st q => ?_⟩
  refine re.bind hO st hxE hbE q fun d s1 v H1 m1 st1 r1 q1 => ?_
  have fin : ∀ (l : List D) (a : Addr) (vs : List V), v = .ref a → SqT K H1 a vs → RepL K (hid (wld F os) H1) l vs → satE K cl E F os ρ σ H Q (lift (some (D.tup0 l.reverse)) s1) → ∃ a xs, v = .ref a ∧ SqT K H1 a xs ∧ ∀ p, H1 p = none → Q (.ref p) (upd H1 p (.tup xs.reverse)) := by
    intro l a vs ev h1 h2 q
    refine ⟨a, vs, ev, h1, fun p np => ?_⟩
    exact q _ _ (m1.trans (mv_new np)) (st1.laid np) ⟨p, vs.reverse, rfl, .inl (.inl (st1.hid_laid np)), repL_new st1 np h2.rev⟩
  cases d with
  | tup l =>
    obtain ⟨a, vs, ev, h1, h2⟩ := r1
    exact fin l a vs ev (seqT (.inr (h1.mono (hid_same _ _)))) h2 q1
  | tup0 l =>
    obtain ⟨a, vs, ev, h1, h2⟩ := r1
    exact fin l a vs ev (sqT_mono (hid_same _ _) h1) h2 q1
  | _ => exact q1.elim
/-! new lists -/
theorem mf_list (hg : ∀ j, Gl (Φ.X j) "list") (hm : mg "list" = none) (ha : MA Φ cl O [e] fs) (he : ∀ env, starEach [e] env = (false, eval e env) :: starEach [] env := by intro _; rfl) :
    MF Φ cl O (.Call (.Name "list" p) [e] [] pos) (fun ρ => bnd (fs ρ) fun ds => match ds with
      | [d] => lift (seqOf d)
      | _ => bad) := by
  obtain ⟨t, pa, ra⟩ := ha
  refine ⟨tCB (rListOf K) t, fun j => by
    have z := pe_callTy (X := Φ.X j) (p := p) (pos := pos) call_listR (hg j) (by rw [Φ.hmg]; exact hm) (by decide +kernel) (pa j) (by decide) (by decide) (he _) rfl
    rwa [Φ.hK j] at z, fun F os ρ σ H s Q hO st q => ?_⟩
  refine ra.bind hO st hxR hbR q fun ds s1 vs H1 m1 st1 r1 q1 => ?_
  match ds, q1, r1 with
  | [d], q1, r1 =>
    have q1 : satR K cl E F os ρ σ H Q (lift (seqOf d) s1) := q1
    obtain ⟨v, rfl, r2⟩ := one_arg r1
    cases es : seqOf d with
    | none =>
      simp only [lift, es] at q1
      exact q1.elim
    | some l =>
      simp only [lift, es] at q1
      obtain ⟨a, ws, rfl, h1, h2⟩ := seq_of (hid_same _ _) es r2
      exact ⟨a, ws, rfl, h1, fun p np => new_own st1 h2 (fun a vs H' m st' e r' => q1 a vs H' (m1.trans m) st' e r') p np⟩
  | [], q1, _ => exact q1.elim
  | _ :: _ :: _, q1, _ => exact q1.elim
theorem mf_rep {a b : Expr} {h : Env → M D} (ha : ME Φ cl O a f) (hb : ME Φ cl O b h) : MF Φ cl O (.BinOp a .Mult b pos) (fun ρ => bnd (f ρ) fun x => bnd (h ρ) fun y => match x, y with
      | .lst l, .int k => if (decide (0 ≤ k) && decide (k ≤ 1000000) && szOk (l.length * k.toNat)) = true then ret (List.replicate k.toNat l).flatten else bad
      | _, _ => bad) := by
  obtain ⟨t, pe, re⟩ := ha
  obtain ⟨u, pu, ru⟩ := hb
  refine ⟨_, fun j => pe_op op_rep (pe j) (pu j), fun F os ρ σ H s Q hO st q => ?_⟩
  refine re.bind hO st hxR hbR q fun dx s1 v H1 m1 st1 r1 q1 => ?_
  refine ru.bind hO st1 hxR hbR q1 fun dy s2 v2 H2 m2 st2 r2 q2 => ?_
  have r3 := rep_mv st1 m2 r1
  cases dx with
  | lst l =>
    cases dy with
    | int k =>
      simp only at q2
      cases g : (decide (0 ≤ k) && decide (k ≤ 1000000) && szOk (l.length * k.toNat)) with
      | false =>
        simp only [g] at q2
        exact q2.elim
      | true =>
        simp only [g] at q2
        rw [Bool.and_eq_true, Bool.and_eq_true] at g
        have g1 := of_decide_eq_true g.1.1
        have g2 := of_decide_eq_true g.1.2
        obtain ⟨a, vs, rfl, h1, h2⟩ := r3
        refine ⟨a, k, vs, rfl, r2, hid_same _ _ _ _ h1, by omega, by omega, ?_, fun p np => new_own st2 (repL_rep h2 _) (fun a vs H' m st' e r' => q2 a vs H' ((m1.trans m2).trans m) st' e r') p np⟩
        rw [← h2.len]
        exact Nat.le_of_lt (szOk_lt g.2)
    | _ => exact q2.elim
  | _ => exact q2.elim
end
end
end Dm

namespace Dm
open PySem PySem.Spec PyProof.Rows L2 My
/-! short names for what the printer writes -/
section
variable {P : Program} {w : World} {K : Fr} {mg : Str → Option Value} {base : Heap} {cl : Str → Addr} {E : SK} {O : List Nat} {Φ : Cxs P w K mg base E}
variable {x : Str} {e : Expr} {pos p p1 : Pos} {f : Env → M D}
theorem me_v (i : Nat) (hN : ∀ j, (Φ.X j).N[i]? = some x := by intro _; rfl) (hv : ∀ j, Vis (Φ.X j).env.scope x := by intro _; first | exact Or.inl rfl | exact Or.inr (Or.inl rfl) | exact Or.inr (Or.inr rfl)) (hO : i ∉ O := by decide)
    (hd : (x == ("__debug__" : Str)) = false := by decide) (hcd : (x == ("__classdict__" : Str)) = false := by decide) : ME Φ cl O (.Name x pos) (fVar i) := me_var hN hv hO hd hcd
theorem me_ixO (i : Nat) {f : Env → M D} (he : ME Φ cl O e f) (hs : PlainIx e) (hN : ∀ j, (Φ.X j).N[i]? = some x := by intro _; rfl) (hv : ∀ j, Vis (Φ.X j).env.scope x := by intro _; first | exact Or.inl rfl | exact Or.inr (Or.inl rfl) | exact Or.inr (Or.inr rfl)) (hO : i ∈ O := by decide)
    (hd : (x == ("__debug__" : Str)) = false := by decide) (hcd : (x == ("__classdict__" : Str)) = false := by decide) : ME Φ cl O (.Subscript (.Name x p) e pos) (fIxO i f) := me_ixOwn hN hv hO he hs hd hcd
theorem me_lenO (i : Nat) (hg : ∀ j, Gl (Φ.X j) "len") (hm : mg "len" = none) (hN : ∀ j, (Φ.X j).N[i]? = some x := by intro _; rfl) (hv : ∀ j, Vis (Φ.X j).env.scope x := by intro _; first | exact Or.inl rfl | exact Or.inr (Or.inl rfl) | exact Or.inr (Or.inr rfl)) (hO : i ∈ O := by decide)
    (hd : (x == ("__debug__" : Str)) = false := by decide) (hcd : (x == ("__classdict__" : Str)) = false := by decide) : ME Φ cl O (.Call (.Name "len" p) [.Name x p1] [] pos) (fLenO i) := me_lenOwn hN hv hO hg hm hd hcd
theorem mg_n (i : Nat) (hi : ∀ j, (Φ.X j).N[i]? = some x := by intro _; rfl) (hx : ∀ j, Loc (Φ.X j).env.scope x := by intro _; first | exact Or.inl rfl | exact Or.inr rfl) (hf : ∀ j, (Φ.X j).fn x = true ∨ (Φ.X j).env.scope.names.lookup x = some .local := by intro _; first | exact Or.inl rfl | exact Or.inr rfl)
    (hO : i ∉ O := by decide) : MG Φ O (.Name x pos) [i] (gNm i) := mg_name hi hx hf hO
end
section
variable {P : Program} {w : World} {K : Fr} {mg : Str → Option Value} {base : Heap} {cl : Str → Addr} {E0 : XK} {O O1 O' OL : List Nat} {Φ : CxsE P w K mg base E0}
variable {x : Str} {e ek ev : Expr} {pos pos' p tpos apos cpos : Pos} {f fk fv : Env → M D}
theorem ms_setV (i : Nat) (he : ME Φ cl O e f) (hi : ∀ j, (Φ.X j).N[i]? = some x := by intro _; rfl) (hx : ∀ j, Loc (Φ.X j).env.scope x := by intro _; first | exact Or.inl rfl | exact Or.inr rfl) (hf : ∀ j, (Φ.X j).fn x = true ∨ (Φ.X j).env.scope.names.lookup x = some .local := by intro _; first | exact Or.inl rfl | exact Or.inr rfl) (hO : i ∉ O := by decide)
    (hs : ∀ env, swapsWith e (some (.Name x pos')) pos.line env = pure false := by intro _; rfl) : MS Φ cl O O OL (.Assign [.Name x pos'] e pos) (fSet i f) := ms_set hi hx hf hO he hs
theorem ms_setFV (i : Nat) {f : Env → M (List D)} (he : MF Φ cl O e f) (hi : ∀ j, (Φ.X j).N[i]? = some x := by intro _; rfl) (hx : ∀ j, Loc (Φ.X j).env.scope x := by intro _; first | exact Or.inl rfl | exact Or.inr rfl) (hf : ∀ j, (Φ.X j).fn x = true ∨ (Φ.X j).env.scope.names.lookup x = some .local := by intro _; first | exact Or.inl rfl | exact Or.inr rfl)
    (hs : ∀ env, swapsWith e (some (.Name x pos')) pos.line env = pure false := by intro _; rfl) : MS Φ cl O (i :: drpO O i) OL (.Assign [.Name x pos'] e pos) (fSetF i f) := ms_setF hi hx hf he hs
theorem ms_appendV (i : Nat) (he : ME Φ cl O e f) (hN : ∀ j, (Φ.X j).N[i]? = some x := by intro _; rfl) (hv : ∀ j, Vis (Φ.X j).env.scope x := by intro _; first | exact Or.inl rfl | exact Or.inr (Or.inl rfl) | exact Or.inr (Or.inr rfl)) (hi : i ∈ O := by decide)
    (hbase : ∀ j, attributeBase (.Name x p) "append" (Φ.X j).env (eval (.Name x p) (Φ.X j).env) = eval (.Name x p) (Φ.X j).env := by intro _; rfl)
    (hfew : ∀ env, ((backTo cpos (starEach [e] env)).all (fun x => !x.1) && (backToKw cpos (keywordEach [] env)).all (fun x => x.1.isSome) && decide ([e].length + ([] : List Keyword).length + (if ([] : List Keyword).isEmpty then 0 else 1) < 30)) = true := by intro _; rfl)
    (hline : (apos.endLine == cpos.line) = true := by rfl) (hs : ∀ env, starEach [e] env = (false, eval e env) :: starEach [] env := by intro _; rfl)
    (hd : (x == ("__debug__" : Str)) = false := by decide) (hcd : (x == ("__classdict__" : Str)) = false := by decide)
    (hsw : ∀ env, swapsWith (.Call (.Attribute (.Name x p) "append" apos) [e] [] cpos) none pos.line env = pure false := by intro _; rfl) : MS Φ cl O O OL (.Expr (.Call (.Attribute (.Name x p) "append" apos) [e] [] cpos) pos) (fApp i f) :=
  ms_append hN hv hi he hbase hfew hline hs (fun _ => rfl) hd hcd hsw
theorem ms_extendV (i : Nat) (he : ME Φ cl O e f) (hN : ∀ j, (Φ.X j).N[i]? = some x := by intro _; rfl) (hv : ∀ j, Vis (Φ.X j).env.scope x := by intro _; first | exact Or.inl rfl | exact Or.inr (Or.inl rfl) | exact Or.inr (Or.inr rfl)) (hi : i ∈ O := by decide)
    (hbase : ∀ j, attributeBase (.Name x p) "extend" (Φ.X j).env (eval (.Name x p) (Φ.X j).env) = eval (.Name x p) (Φ.X j).env := by intro _; rfl)
    (hfew : ∀ env, ((backTo cpos (starEach [e] env)).all (fun x => !x.1) && (backToKw cpos (keywordEach [] env)).all (fun x => x.1.isSome) && decide ([e].length + ([] : List Keyword).length + (if ([] : List Keyword).isEmpty then 0 else 1) < 30)) = true := by intro _; rfl)
    (hline : (apos.endLine == cpos.line) = true := by rfl) (hs : ∀ env, starEach [e] env = (false, eval e env) :: starEach [] env := by intro _; rfl)
    (hd : (x == ("__debug__" : Str)) = false := by decide) (hcd : (x == ("__classdict__" : Str)) = false := by decide)
    (hsw : ∀ env, swapsWith (.Call (.Attribute (.Name x p) "extend" apos) [e] [] cpos) none pos.line env = pure false := by intro _; rfl) : MS Φ cl O O OL (.Expr (.Call (.Attribute (.Name x p) "extend" apos) [e] [] cpos) pos) (fExt i f) :=
  ms_extend hN hv hi he hbase hfew hline hs (fun _ => rfl) hd hcd hsw
theorem ms_setItemV (i : Nat) (hk : ME Φ cl O ek fk) (he : ME Φ cl O ev fv) (hN : ∀ j, (Φ.X j).N[i]? = some x := by intro _; rfl) (hv : ∀ j, Vis (Φ.X j).env.scope x := by intro _; first | exact Or.inl rfl | exact Or.inr (Or.inl rfl) | exact Or.inr (Or.inr rfl)) (hi : i ∈ O := by decide)
    (hd : (x == ("__debug__" : Str)) = false := by decide) (hcd : (x == ("__classdict__" : Str)) = false := by decide)
    (hs : ∀ env, swapsWithSole [.Subscript (.Name x p) ek tpos] ev pos.line env = pure false := by intro _; rfl) (hw : ∀ env, swappedStores [.Subscript (.Name x p) ek tpos] ev env = pure none := by intro _; rfl)
    (h1 : ∀ env, (assignEach [.Subscript (.Name x p) ek tpos] env).map (·.2) = [assign (.Subscript (.Name x p) ek tpos) env] := by intro _; rfl)
    (ha : ∀ env v, assign (.Subscript (.Name x p) ek tpos) env v = (do
      let ov ← holding [v] (eval (.Name x p) env)
      let iv ← holding [v, ov] (eval ek env)
      standAt tpos
      holding [v, ov, iv] (setItem ov iv v)
      release [v, ov, iv] []) := by intro _ _; rfl) : MS Φ cl O O OL (.Assign [.Subscript (.Name x p) ek tpos] ev pos) (fSetI i fk fv) := ms_setItem hN hv hi hk he hd hcd hs hw h1 ha
end
/-! names for mirrors of new lists -/
def fRgL (f : Env → M D) (ρ : Env) : M (List D) := bnd (f ρ) fun d => match d with
  | .int n => if (decide (0 ≤ n) && decide (n ≤ 1000000)) = true then ret (rgD 0 n.toNat) else bad
  | _ => bad
def fListF (fs : Env → M (List D)) (ρ : Env) : M (List D) := bnd (fs ρ) fun ds => match ds with
  | [d] => lift (seqOf d)
  | _ => bad
def fRep (f h : Env → M D) (ρ : Env) : M (List D) := bnd (f ρ) fun x => bnd (h ρ) fun y => match x, y with
  | .lst l, .int k => if (decide (0 ≤ k) && decide (k ≤ 1000000) && szOk (l.length * k.toNat)) = true then ret (List.replicate k.toNat l).flatten else bad
  | _, _ => bad
theorem two_of {α : Type} {ws : List α} (h : ws.length = 2) : ∃ v u, ws = [v, u] := by
  match ws, h with
  | [v, u], _ => exact ⟨v, u, rfl⟩
theorem upd_swap {H : Hp} {a dx : Addr} {o o' u : HO} (ne : dx ≠ a) : upd (upd (upd H dx o) a u) dx o' = upd (upd H dx o') a u := by
  funext b
  by_cases c : b = dx
  · subst c
    rw [upd_same, upd_ne ne, upd_same]
  · rw [upd_ne c]
    by_cases c2 : b = a
    · subst c2
      rw [upd_same, upd_same]
    · rw [upd_ne c2, upd_ne c2, upd_ne c, upd_ne c]
end Dm

namespace Dm
open PySem PySem.Spec PyProof.Rows L2 My
/-! ### the bag's own draw -/
structure GC where
  A : Int
  B : Int
  M1 : Int
  C : Int
  B2 : Int
  M2 : Int
  E : Int
  A2 : Int
  C2 : Int
  M3 : Int
def cellB (g : GC) (s : BS) : Int := if s.cells = [] then g.A * s.turn + g.B else s.cells.getD (s.turn % (s.cells.length : Int)).toNat 0
def mixB (g : GC) (x t : Int) : Int := ((((x % g.M1 + g.C * t + g.B2) ^ (Int.toNat 5)) % g.M2 * (2 * t + g.E) + g.A2 * t * t + g.C2) ^ (Int.toNat 3)) % g.M3 / 64
def absI (x : Int) : Int := if x < 0 then -x else x
def leftB (x : Int) : Int := 2 * (absI x - 10 ^ (Int.toNat 18)) + (if decide (x < 0) = true then (1 : Int) else 0)
def grabOk (a : Addr) (m : Int) (s : BS) : Bool := decide (a = s.q) && decide (1 ≤ m) && decide (m ≤ 1000000000000) && decide (0 ≤ s.turn) && decide (s.turn ≤ 10000) && decide (0 ≤ s.rest)
def grabS (g : GC) (m : Int) (s : BS) : Int × BS :=
  if s.rest > 0 then (s.rest % m, { s with rest := s.rest / m })
  else if s.turn < (s.cells.length : Int) ∧ 10 ^ (Int.toNat 18) ≤ absI (cellB g s) then (leftB (cellB g s) % m, { s with turn := s.turn + 1, rest := leftB (cellB g s) / m })
  else (mixB g (cellB g s) s.turn % m, { s with turn := s.turn + 1 })
def grabD (g : GC) : List D → M D
  | [.ref a, .int m] => fun s => if grabOk a m s = true then .ok (.int (grabS g m s).1) (grabS g m s).2 else .bad
  | _ => fun _ => .bad
/-- the state after so many draws at most -/
structure BOk (n : Nat) (q : Addr) (T : List (Addr × Str)) (s : BS) : Prop where
  q : s.q = q
  tb : s.tb = T
  t0 : 0 ≤ s.turn
  tn : s.turn ≤ (n : Int)
  r0 : 0 ≤ s.rest
theorem BOk.le {n m : Nat} {q : Addr} {T : List (Addr × Str)} {s : BS} (h : BOk n q T s) (l : n ≤ m) : BOk m q T s := ⟨h.q, h.tb, h.t0, by have := h.tn; omega, h.r0⟩
theorem leftB_pos {x : Int} (h : 10 ^ (Int.toNat 18) ≤ absI x) : 0 ≤ leftB x := by
  unfold leftB
  have : (0 : Int) ≤ (if decide (x < 0) = true then (1 : Int) else 0) := by split <;> omega
  omega
theorem grab_ok (g : GC) {n m : Nat} {q : Addr} {T : List (Addr × Str)} {s : BS} (h : BOk n q T s) (hn : n ≤ 10000) (m1 : 1 ≤ m) (m2 : m ≤ 1000000000000) :
    ∃ (j : Nat) (s' : BS), j < m ∧ BOk (n + 1) q T s' ∧ grabD g [.ref q, .int (m : Int)] s = .ok (.int (j : Int)) s' := by
  have gk : grabOk q (m : Int) s = true := by
    have := h.tn
    unfold grabOk
    rw [decide_eq_true h.q.symm, decide_eq_true (show (1 : Int) ≤ m by omega), decide_eq_true (show (m : Int) ≤ 1000000000000 by omega), decide_eq_true h.t0, decide_eq_true (show s.turn ≤ 10000 by omega), decide_eq_true h.r0]
    rfl
  have e0 : grabD g [.ref q, .int (m : Int)] s = .ok (.int (grabS g m s).1) (grabS g m s).2 := by
    show (if grabOk q (m : Int) s = true then Res.ok (D.int (grabS g m s).1) (grabS g m s).2 else .bad) = _
    rw [if_pos gk]
  have tn := h.tn
  have t0 := h.t0
  have r0 := h.r0
  by_cases c1 : s.rest > 0
  · obtain ⟨j, hj, ej⟩ := mod_nat s.rest m1
    refine ⟨j, { s with rest := s.rest / m }, hj, ⟨h.q, h.tb, t0, by show s.turn ≤ _; omega, Int.ediv_nonneg r0 (by omega)⟩, ?_⟩
    rw [e0]
    unfold grabS
    rw [if_pos c1, ← ej]
  · by_cases c : s.turn < (s.cells.length : Int) ∧ 10 ^ (Int.toNat 18) ≤ absI (cellB g s)
    · obtain ⟨j, hj, ej⟩ := mod_nat (leftB (cellB g s)) m1
      refine ⟨j, { s with turn := s.turn + 1, rest := leftB (cellB g s) / m }, hj, ⟨h.q, h.tb, by show 0 ≤ s.turn + 1; omega, by show s.turn + 1 ≤ _; omega, Int.ediv_nonneg (leftB_pos c.2) (by omega)⟩, ?_⟩
      rw [e0]
      unfold grabS
      rw [if_neg c1, if_pos c, ← ej]
    · obtain ⟨j, hj, ej⟩ := mod_nat (mixB g (cellB g s) s.turn) m1
      refine ⟨j, { s with turn := s.turn + 1 }, hj, ⟨h.q, h.tb, by show 0 ≤ s.turn + 1; omega, by show s.turn + 1 ≤ _; omega, r0⟩, ?_⟩
      rw [e0]
      unfold grabS
      rw [if_neg c1, if_neg c, ← ej]
/-! ### keywords -/
section
variable {P : Program} {w : World} {K : Fr} {mg : Str → Option Value} {base : Heap} {cl : Str → Addr} {E0 : XK} {O O' OL : List Nat} {Φ : CxsE P w K mg base E0}
def MK (Φ : CxsE P w K mg base E0) (cl : Str → Addr) (O : List Nat) (ks : List Keyword) (f : Dm.Env → M (List D)) : Prop := ∃ t, (∀ j, PK (Φ.X j) ks t) ∧ RA K cl (fun _ => E0) O t f
variable {e o : Expr} {es : List Expr} {pos p kpos apos cpos : Pos} {f : Dm.Env → M D} {fs gs : Dm.Env → M (List D)} {kws : List Keyword} {nm : Option Str}
theorem mk_nil : MK Φ cl O [] fNil := ⟨_, fun j => pk_nil, r_nil⟩
theorem mk_cons (h : ME Φ cl O e f) (h2 : MK Φ cl O kws fs) : MK Φ cl O (⟨nm, e, kpos⟩ :: kws) (fCons f fs) := by
  obtain ⟨ta, pa, ra⟩ := h
  obtain ⟨tb, pb, rb⟩ := h2
  exact ⟨_, fun j => pk_cons (pa j) (pb j), r_cons ra rb⟩
/-- how keywords fall into places -/
structure Perm2 where
  g : ∀ {α : Type}, List α → List α → List α
def fOwnK (n : Nat) (m : List D → M D) (pm : Perm2) (fs gs : Dm.Env → M (List D)) (ρ : Dm.Env) : M D := bnd (fs ρ) fun us => bnd (gs ρ) fun ws => if (pm.g us ws).length = n then m (pm.g us ws) else bad
def Perm2.Rep (pm : Perm2) : Prop := ∀ (K : Fr) (H : Hp) (us ws : List D) (vs zs : List V), RepL K H us vs → RepL K H ws zs → RepL K H (pm.g us ws) (pm.g vs zs)
theorem r_ownK {n : Nat} {m : List D → M D} {pm : Perm2} {t u : TA} (hp : pm.Rep) (h : RA K cl (fun _ => E0) O t fs) (h2 : RA K cl (fun _ => E0) O u gs) :
    RE K cl (fun _ => E0) O (tCallK (spD K cl n m) pm.g E0 t u) (fOwnK n m pm fs gs) := by
  intro F os ρ σ H s Q hO st q
  refine h.bind hO st hxE hbE q fun ds s1 vs H1 m1 st1 r1 q1 => ?_
  refine h2.bind hO st1 hxE hbE q1 fun ws s2 zs H2 m2 st2 r2 q2 => ?_
  have r3 := hp _ _ _ _ _ _ (repL_mv st1 m2 r1) r2
  by_cases hl : (pm.g ds ws).length = n
  · simp only [hl] at q2
    exact spD_of (E := fun _ => E0) (σ := σ) (m1.trans m2) st2 r3 hl q2
  · simp only [hl] at q2
    exact q2.elim
section
variable {x : Str} {fa : Addr} {fd : FuncData} {ps ks : List Str} {k : Nat} {n : Nat} {m : List D → M D} {pm : Perm2}
theorem me_ownK (Fn : FnOk P w K mg base (L2.CX P w) k fa fd ps (spD K cl n m)) (hk : k ≤ Φ.lv) (hg : ∀ j, Gl (Φ.X j) x) (hm : mg x = some (.ref fa)) (kp : PySem.W.keepIn K (.ref fa) = true)
    (hb : KBinds K fd ps ks pm.g pm.g) (hp : pm.Rep) (ha : MA Φ cl O (e :: es) fs) (hkw : MK Φ cl O kws gs) (hall : ∀ env, (backToKw pos (keywordEach kws env)).all (·.1.isSome) = true := by intro _; rfl) (hks : ∀ env, (backToKw pos (keywordEach kws env)).filterMap (·.1) = ks := by intro _; rfl)
    (hdb : (x == ("__debug__" : Str)) = false := by decide) (he : ∀ env, starEach (e :: es) env = (false, eval e env) :: starEach es env := by intro _; rfl)
    (hpl : ∀ env, ((backTo pos (starEach (e :: es) env)).any (·.1) || (backToKw pos (keywordEach kws env)).any (·.1.isNone)) = false := by intro _; rfl) : ME Φ cl O (.Call (.Name x p) (e :: es) kws pos) (fOwnK n m pm fs gs) := by
  obtain ⟨t, pa, ra⟩ := ha
  obtain ⟨u, pk, rk⟩ := hkw
  refine ⟨_, fun j => ?_, r_ownK hp ra rk⟩
  have Fn2 : FnOk (Φ.X j).prog (Φ.X j).w (Φ.X j).K (Φ.X j).mg (Φ.X j).base (L2.CX (Φ.X j).prog (Φ.X j).w) k fa fd ps (spD K cl n m) := by
    rw [Φ.hP, Φ.hw, Φ.hK, Φ.hmg, Φ.hb]
    exact Fn
  exact pe_callK Fn2 ((Φ.room j).mono hk) (hg j) (by rw [Φ.hmg]; exact hm) (by rw [Φ.hK]; exact kp) (by rw [Φ.hK]; exact hb) (fun pins σ H s e s' I c => Φ.pass j σ pins H s e s' I c) (pa j) (pk j) (hall _) (hks _) hdb (he _) (hpl _)
theorem me_ownK0 (Fn : FnOk P w K mg base (L2.CX P w) k fa fd ps (spD K cl n m)) (hk : k ≤ Φ.lv) (hg : ∀ j, Gl (Φ.X j) x) (hm : mg x = some (.ref fa)) (kp : PySem.W.keepIn K (.ref fa) = true)
    (hb : KBinds K fd ps ks pm.g pm.g) (hp : pm.Rep) (hkw : MK Φ cl O kws gs) (hall : ∀ env, (backToKw pos (keywordEach kws env)).all (·.1.isSome) = true := by intro _; rfl) (hks : ∀ env, (backToKw pos (keywordEach kws env)).filterMap (·.1) = ks := by intro _; rfl)
    (hdb : (x == ("__debug__" : Str)) = false := by decide)
    (hpl : ∀ env, ((backTo pos (starEach [] env)).any (·.1) || (backToKw pos (keywordEach kws env)).any (·.1.isNone)) = false := by intro _; rfl) : ME Φ cl O (.Call (.Name x p) [] kws pos) (fOwnK n m pm fNil gs) := by
  obtain ⟨u, pk, rk⟩ := hkw
  refine ⟨_, fun j => ?_, r_ownK hp r_nil rk⟩
  have Fn2 : FnOk (Φ.X j).prog (Φ.X j).w (Φ.X j).K (Φ.X j).mg (Φ.X j).base (L2.CX (Φ.X j).prog (Φ.X j).w) k fa fd ps (spD K cl n m) := by
    rw [Φ.hP, Φ.hw, Φ.hK, Φ.hmg, Φ.hb]
    exact Fn
  exact pe_callK0 Fn2 ((Φ.room j).mono hk) (hg j) (by rw [Φ.hmg]; exact hm) (by rw [Φ.hK]; exact kp) (by rw [Φ.hK]; exact hb) (fun pins σ H s e s' I c => Φ.pass j σ pins H s e s' I c) (pk j) (hall _) (hks _) hdb (hpl _)
end
/-! ### x.append(y.pop(e)) -/
def fAppPop (i j : Nat) (f : Dm.Env → M D) (ρ : Dm.Env) : M Out := match ownL i ρ, ownL j ρ with
  | some l, some m => bnd (f ρ) fun d => match d with
    | .int k => if (decide (0 ≤ k) && szOk l.length && szOk m.length) = true then (match m[k.toNat]? with
      | some y => ret (.nx ((ρ.set j (some (.lst (m.eraseIdx k.toNat)))).set i (some (.lst (l ++ [y])))))
      | none => bad) else bad
    | _ => bad
  | _, _ => bad
theorem ms_appPop (i j : Nat) {x y : Str} {p1 a1 c1 : Pos} (hij : i ≠ j) (he : ME Φ cl O e f) (hNi : ∀ k, (Φ.X k).N[i]? = some x := by intro _; rfl) (hvi : ∀ k, Vis (Φ.X k).env.scope x := by intro _; first | exact Or.inl rfl | exact Or.inr (Or.inl rfl) | exact Or.inr (Or.inr rfl)) (hi : i ∈ O := by decide)
    (hNj : ∀ k, (Φ.X k).N[j]? = some y := by intro _; rfl) (hvj : ∀ k, Vis (Φ.X k).env.scope y := by intro _; first | exact Or.inl rfl | exact Or.inr (Or.inl rfl) | exact Or.inr (Or.inr rfl)) (hj : j ∈ O := by decide)
    (hb1 : ∀ k, attributeBase (.Name x p) "append" (Φ.X k).env (eval (.Name x p) (Φ.X k).env) = eval (.Name x p) (Φ.X k).env := by intro _; rfl)
    (hb2 : ∀ k, attributeBase (.Name y p1) "pop" (Φ.X k).env (eval (.Name y p1) (Φ.X k).env) = eval (.Name y p1) (Φ.X k).env := by intro _; rfl)
    (hf2 : ∀ env, ((backTo c1 (starEach [e] env)).all (fun x => !x.1) && (backToKw c1 (keywordEach [] env)).all (fun x => x.1.isSome) && decide ([e].length + ([] : List Keyword).length + (if ([] : List Keyword).isEmpty then 0 else 1) < 30)) = true := by intro _; rfl)
    (hl1 : (apos.endLine == cpos.line) = true := by rfl) (hl2 : (a1.endLine == c1.line) = true := by rfl) (hs2 : ∀ env, starEach [e] env = (false, eval e env) :: starEach [] env := by intro _; rfl)
    (hd : (x == ("__debug__" : Str)) = false := by decide) (hcd : (x == ("__classdict__" : Str)) = false := by decide) (hd2 : (y == ("__debug__" : Str)) = false := by decide) (hcd2 : (y == ("__classdict__" : Str)) = false := by decide)
    (hsw : ∀ env, swapsWith (.Call (.Attribute (.Name x p) "append" apos) [.Call (.Attribute (.Name y p1) "pop" a1) [e] [] c1] [] cpos) none pos.line env = pure false := by intro _; rfl) :
    MS Φ cl O O OL (.Expr (.Call (.Attribute (.Name x p) "append" apos) [.Call (.Attribute (.Name y p1) "pop" a1) [e] [] c1] [] cpos) pos) (fAppPop i j f) := by
  obtain ⟨t, pe, re⟩ := he
  refine ⟨tDrop (tBM K "list" rAppend (tVar i) (tCons (tBM K "list" rPopAt (tVar j) (tCons t tNil)) tNil)), fun k => by
    have z2 := pe_bm (X := Φ.X k) PySem.F.plainAttrs_list PySem.F.slot_list_pop PySem.F.type_list_pop mt_popAt (pe_var (pos := p1) (hNj k) (hvj k) hd2 hcd2) (pa_cons (pe k) pa_nil (hs2 _)) (hb2 k) (hf2 _) hl2 (hs2 _) rfl
    rw [Φ.hK k] at z2
    have z := pe_bm (X := Φ.X k) PySem.F.plainAttrs_list PySem.F.slot_list_append PySem.F.type_list_append mt_append (pe_var (pos := p) (hNi k) (hvi k) hd hcd) (pa_cons z2 pa_nil rfl) (hb1 k) rfl hl1 rfl rfl
    rw [Φ.hK k] at z
    exact ps_expr z (hsw _), fun F os ρ σ H s Dn hO st q => ?_⟩
  unfold fAppPop at q
  cases eo : ownL i ρ with
  | none =>
    simp only [eo] at q
    exact q.elim
  | some l =>
    cases eo2 : ownL j ρ with
    | none =>
      simp only [eo, eo2] at q
      exact q.elim
    | some m =>
      simp only [eo, eo2] at q
      obtain ⟨a, vs, ea, e1, e2, e3⟩ := st.owned hO hi eo
      obtain ⟨b, ws, eb, f1, f2, f3⟩ := st.owned hO hj eo2
      refine ⟨_, e1, .inl ⟨rfl, _, seqL e2⟩, ?_⟩
      refine ⟨_, f1, .inl ⟨rfl, _, seqL f2⟩, ?_⟩
      refine re.bind hO st hxS hbS q fun d s1 v H1 m1 st1 r1 q1 => ?_
      cases d with
      | int k =>
        simp only at q1
        cases g : (decide (0 ≤ k) && szOk l.length && szOk m.length) with
        | false =>
          simp only [g] at q1
          exact q1.elim
        | true =>
          simp only [g] at q1
          rw [Bool.and_eq_true, Bool.and_eq_true] at g
          have k0 := of_decide_eq_true g.1.1
          cases ey : m[k.toNat]? with
          | none =>
            simp only [ey] at q1
            exact q1.elim
          | some y =>
            simp only [ey] at q1
            have e4 := m1.lst (st.own_q (lookup_mem ea)) e2
            have f4 := m1.lst (st.own_q (lookup_mem eb)) f2
            have r4 := repL_mv st m1 e3
            have r5 := repL_mv st m1 f3
            obtain ⟨u, eu, ru⟩ := r5.get ey
            have lt : k.toNat < m.length := (List.getElem?_eq_some_iff.mp ey).1
            have ml := szOk_lt g.2
            rw [sizeLine_eq] at ml
            have lw := f3.len
            have nab : a ≠ b := fun z => by
              have := nodup_addr st.nd (lookup_mem ea) (lookup_mem eb) z
              exact hij (congrArg Prod.fst this)
            have ek : k = ((k.toNat : Nat) : Int) := by omega
            refine ⟨b, ws, k, k.toNat, u, rfl, by rw [show v = .int k from r1], f4, by omega, by omega, ?_, eu, ?_⟩
            · rw [ek, Int.toNat_natCast]
              exact seqIx (by omega)
            have st2 := st1.upd eb (ownL_at eo2) (r5.erase k.toNat)
            have hl : ownL i (ρ.set j (some (.lst (m.eraseIdx k.toNat)))) = some l := by
              unfold ownL
              rw [List.getElem?_set_ne (Ne.symm hij), ownL_at eo]
            have eh : hid (wld F os) (upd H1 b (.lst (ws.eraseIdx k.toNat))) = hid (wld F os) H1 := hid_upd_in (List.mem_append_left _ (List.mem_map.mpr ⟨_, lookup_mem eb, rfl⟩))
            refine ⟨a, vs, u, rfl, rfl, by rw [upd_ne nab]; exact e4, by rw [← e3.len]; exact szOk_lt g.1.2, ?_⟩
            exact q1 os σ _ hO (st2.upd ea (ownL_at hl) (by rw [eh]; exact r4.app (.one ru)))
      | _ => exact q1.elim
/-! ### a, b = two new lists -/
def fParFF (i j : Nat) (f g : Dm.Env → M (List D)) (ρ : Dm.Env) : M Out := bnd (f ρ) fun l => bnd (g ρ) fun m => ret (.nx ((ρ.set i (some (.lst l))).set j (some (.lst m))))
end
end Dm

namespace Dm
open PySem PySem.Spec PyProof.Rows L2 My
theorem mw_updq {q : Addr} {H : Hp} {vs vs' : List V} (e : H q = some (.lst vs)) : Mw q H (upd H q (.lst vs')) := ⟨fun b o nb _ h => by
  rw [upd_ne nb]
  exact h⟩
section
variable {K : Fr} {cl : Str → Addr} {E : XK} {F : Frm} {Q : VK}
theorem grab_in {g : GC} {bs : BS} {ds : List D} {vs : List V} (fok : FOk F) (bag : BagAt F.T F.q F.c F.H0 bs) (r : RepL K (hid F.W F.H0) ds vs) (want : satF K cl E F Q (grabD g ds bs)) :
    ∃ (m : Nat) (q : Addr) (cells : List Int) (turn rest : Int) (tb : List (Addr × Str)), vs = [.ref F.q, .int (m : Int)] ∧ bs = ⟨q, cells, turn, rest, tb⟩ ∧ tb = F.T ∧ LamX.Tabs F.T F.H0 ∧ q = F.q ∧ F.H0 F.q = some (.lst [.ref F.c, .int turn, .int rest]) ∧
      F.H0 F.c = some (.lst (cells.map V.int)) ∧ F.c ≠ F.q ∧ 1 ≤ m ∧ m ≤ 1000000000000 ∧ 0 ≤ turn ∧ turn ≤ 10000 ∧ 0 ≤ rest ∧ satF K cl E F Q (.ok (.int (grabS g (m : Int) ⟨F.q, cells, turn, rest, tb⟩).1) (grabS g (m : Int) ⟨F.q, cells, turn, rest, tb⟩).2) := by
  obtain ⟨a, m, rfl⟩ : ∃ a m, ds = [.ref a, .int m] := by
    unfold grabD at want
    split at want
    · exact ⟨_, _, rfl⟩
    · exact want.elim
  obtain ⟨v1, r1, rfl, e1, v2, r2, rfl, e2, e3⟩ := r
  have e1 : v1 = .ref a := e1
  have e2 : v2 = .int m := e2
  have e3 : r2 = [] := e3
  subst e1 e2 e3
  have wantO := want
  have want : satF K cl E F Q (if grabOk a m bs = true then Res.ok (D.int (grabS g m bs).1) (grabS g m bs).2 else .bad) := wantO
  have gk : grabOk a m bs = true := by
    cases z : grabOk a m bs with
    | true => rfl
    | false =>
      rw [z] at want
      exact want.elim
  have wantZ : satF K cl E F Q (.ok (.int (grabS g m bs).1) (grabS g m bs).2) := by
    rw [if_pos gk] at want
    exact want
  clear wantO want
  unfold grabOk at gk
  rw [Bool.and_eq_true, Bool.and_eq_true, Bool.and_eq_true, Bool.and_eq_true, Bool.and_eq_true] at gk
  obtain ⟨⟨⟨⟨⟨g1, g2⟩, g3⟩, g4⟩, g5⟩, g6⟩ := gk
  have g1 := of_decide_eq_true g1
  have m1 := of_decide_eq_true g2
  have m2 := of_decide_eq_true g3
  have t0 := of_decide_eq_true g4
  have t1 := of_decide_eq_true g5
  have r0 := of_decide_eq_true g6
  obtain ⟨k, rfl⟩ : ∃ k : Nat, m = (k : Int) := ⟨m.toNat, by omega⟩
  obtain ⟨q, cells, turn, rest, tb⟩ := bs
  have eqq : q = F.q := bag.eq
  have g1 : a = q := g1
  subst eqq
  subst g1
  exact ⟨k, _, cells, turn, rest, tb, rfl, rfl, bag.eT, bag.tabs, rfl, bag.at_, bag.cells, fok.cq, by omega, by omega, t0, t1, r0, wantZ⟩
variable {g : GC} {m q : Nat} {cells : List Int} {turn rest x : Int} {tb : List (Addr × Str)}
theorem grab_1 {m : Int} {q : Addr} (h : rest > 0) (want : satF K cl E F Q (.ok (.int (grabS g m ⟨q, cells, turn, rest, tb⟩).1) (grabS g m ⟨q, cells, turn, rest, tb⟩).2)) : satF K cl E F Q (.ok (.int (rest % m)) ⟨q, cells, turn, rest / m, tb⟩) := by
  unfold grabS at want
  rw [if_pos h] at want
  exact want
theorem grab_2 {m : Int} {q : Addr} (h : ¬ rest > 0) (ex : cellB g ⟨q, cells, turn, rest, tb⟩ = x) (c1 : turn < (cells.length : Int)) (c2 : 10 ^ (Int.toNat 18) ≤ absI x) (want : satF K cl E F Q (.ok (.int (grabS g m ⟨q, cells, turn, rest, tb⟩).1) (grabS g m ⟨q, cells, turn, rest, tb⟩).2)) :
    satF K cl E F Q (.ok (.int (leftB x % m)) ⟨q, cells, turn + 1, leftB x / m, tb⟩) := by
  unfold grabS at want
  rw [if_neg h, if_pos ⟨c1, by rw [ex]; exact c2⟩, ex] at want
  exact want
theorem grab_3 {m : Int} {q : Addr} (h : ¬ rest > 0) (ex : cellB g ⟨q, cells, turn, rest, tb⟩ = x) (c : ¬ (turn < (cells.length : Int) ∧ 10 ^ (Int.toNat 18) ≤ absI x)) (want : satF K cl E F Q (.ok (.int (grabS g m ⟨q, cells, turn, rest, tb⟩).1) (grabS g m ⟨q, cells, turn, rest, tb⟩).2)) :
    satF K cl E F Q (.ok (.int (mixB g x turn % m)) ⟨q, cells, turn + 1, rest, tb⟩) := by
  unfold grabS at want
  rw [if_neg h, if_neg (by rw [ex]; exact c), ex] at want
  exact want
theorem cellB_of {q : Addr} {j : Nat} {y : Int} (hne : cells ≠ []) (ej : turn % (cells.length : Int) = (j : Int)) (hx : cells[j]? = some y) : cellB g ⟨q, cells, turn, rest, tb⟩ = y := by
  unfold cellB
  rw [if_neg hne]
  show cells.getD (turn % (cells.length : Int)).toNat 0 = y
  rw [ej, Int.toNat_natCast, List.getD_eq_getElem?_getD, hx]
  rfl
end
/-! ### a, b = two new lists -/
section
variable {P : Program} {w : World} {K : Fr} {mg : Str → Option Value} {base : Heap} {cl : Str → Addr} {E0 : XK} {O O' OL : List Nat} {Φ : CxsE P w K mg base E0}
theorem hid_swap (F : Frm) (p r : Nat × Addr) (os : Own) (H : Hp) : hid (wld F (p :: r :: os)) H = hid (wld F (r :: p :: os)) H := by
  have e : ∀ a, a ∈ wld F (p :: r :: os) ↔ a ∈ wld F (r :: p :: os) := fun a => by
    show a ∈ p.2 :: r.2 :: wld F os ↔ a ∈ r.2 :: p.2 :: wld F os
    simp only [List.mem_cons]
    constructor
    · rintro (h | h | h)
      · exact .inr (.inl h)
      · exact .inl h
      · exact .inr (.inr h)
    · rintro (h | h | h)
      · exact .inr (.inl h)
      · exact .inl h
      · exact .inr (.inr h)
  funext a
  by_cases c : a ∈ wld F (p :: r :: os)
  · rw [hid_in c, hid_in ((e a).mp c)]
  · rw [hid_out c, hid_out fun z => c ((e a).mpr z)]
theorem StOk.swap {F : Frm} {p r : Nat × Addr} {os : Own} {ρ : Env} {σ : L2.St} {H : Hp} {s : BS} (st : StOk K F (p :: r :: os) ρ σ H s) (h : ∀ j, j < ρ.length → List.lookup j (r :: p :: os) = List.lookup j (p :: r :: os)) : StOk K F (r :: p :: os) ρ σ H s where
  mv := st.mv
  fok := st.fok
  bag := st.bag
  new := fun x hx => st.new x (by
    simp only [List.mem_cons] at hx ⊢
    rcases hx with z | z | z
    · exact .inr (.inl z)
    · exact .inl z
    · exact .inr (.inr z))
  thr := fun x hx => st.thr x (by
    simp only [List.mem_cons] at hx ⊢
    rcases hx with z | z | z
    · exact .inr (.inl z)
    · exact .inl z
    · exact .inr (.inr z))
  nd := by
    have := st.nd
    simp only [List.map_cons, List.nodup_cons, List.mem_cons, not_or] at this ⊢
    exact ⟨⟨Ne.symm this.1.1, this.2.1⟩, this.1.2, this.2.2⟩
  len := st.len
  few := st.few
  frz := by
    rw [← hid_swap]
    exact st.frz
  slots := fun i d e => by
    obtain ⟨v, e1, e2⟩ := st.slots i d e
    refine ⟨v, e1, ?_⟩
    rw [h i (List.getElem?_eq_some_iff.mp e).1, ← hid_swap]
    exact e2
theorem drp_cons_ne {i k : Nat} {a : Addr} {os : Own} (h : k ≠ i) : drp ((k, a) :: os) i = (k, a) :: drp os i := by
  unfold drp
  rw [List.filter_cons_of_pos]
  simpa using h
theorem ms_parFF {i j : Nat} {x y : Str} {a b : Expr} {f g : Env → M (List D)} {pos px py pt : Pos} {kt k2 pt2} (hi : ∀ k, (Φ.X k).N[i]? = some x) (hj : ∀ k, (Φ.X k).N[j]? = some y) (hij : i ≠ j) (hi9 : i < 999) (hx : ∀ k, (Φ.X k).env.scope.names.lookup x = some .local) (hy : ∀ k, (Φ.X k).env.scope.names.lookup y = some .local)
    (ha : MF Φ cl O a f) (hb : MF Φ cl (999 :: O) b g) (hw : ∀ k, swappedStores [.Tuple [.Name x px, .Name y py] kt pt] (.Tuple [a, b] k2 pt2) (Φ.X k).env = pure (some [x, y]))
    (he : ∀ env, starEach [a, b] env = (false, eval a env) :: starEach [b] env := by intro _; rfl) (he2 : ∀ env, starEach [b] env = (false, eval b env) :: starEach [] env := by intro _; rfl)
    (hs : ∀ env, swapsWithSole [.Tuple [.Name x px, .Name y py] kt pt] (.Tuple [a, b] k2 pt2) pos.line env = pure false := by intro _; rfl) :
    MS Φ cl O (j :: i :: drpO (drpO O i) j) OL (.Assign [.Tuple [.Name x px, .Name y py] kt pt] (.Tuple [a, b] k2 pt2) pos) (fParFF i j f g) := by
  obtain ⟨t, p, r⟩ := ha
  obtain ⟨t2, p2, r2⟩ := hb
  refine ⟨_, fun k => ps_par (Φ.calm k) (Φ.nd k) (hi k) (hj k) hij (hx k) (hy k) (pa_cons (p k) (pa_cons (p2 k) pa_nil (he2 _)) (he _)) (hw k) (hs _), fun F os ρ σ H s Dn hO st q => ?_⟩
  unfold fParFF at q
  refine r F os ρ σ H s _ hO st ?_
  cases e : f ρ s with
  | bad =>
    simp only [bnd, e] at q
    exact q.elim
  | exc nm fs s1 =>
    simp only [bnd, e] at q
    exact q
  | ok l s1 =>
    simp only [bnd, e] at q
    intro a1 vs1 H1 m1 st1 e1 rp1
    refine r2 (F.at (hid (wld F ((999, a1) :: os)) H1)) ((999, a1) :: os) ρ σ H1 s1 _ (by rw [List.map_cons, hO]) (st1.into (Same.refl _)) ?_
    cases e2 : g ρ s1 with
    | bad =>
      simp only [e2] at q
      exact q.elim
    | exc nm fs s2 =>
      simp only [e2] at q
      exact q
    | ok m s2 =>
      simp only [e2] at q
      intro a2 vs2 H2 m2 st2 e3 rp2
      have few := st2.few
      have sm : Same (hid (wld F ((999, a1) :: os)) H1) (hid (wld F ((999, a2) :: (999, a1) :: os)) H2) := st2.frz
      have st3 : StOk K F ((999, a2) :: (999, a1) :: os) ρ σ H2 s2 := StOk.out (st1.frz) st2
      have e1' : H2 a1 = some (.lst vs1) := m2.lst (st1.own_q (p := (999, a1)) List.mem_cons_self) e1
      have rp1' := RepL.mono sm _ rp1
      have st4 := st3.swap (fun k hk => by
        rw [lookup_cons_ne (by omega), lookup_cons_ne (by omega), lookup_cons_ne (by omega), lookup_cons_ne (by omega)])
      rw [hid_swap] at rp1'
      have st5 := st4.setOwn (i := i) (by omega) e1' rp1'
      rw [drp_cons_ne (by omega : (999 : Nat) ≠ i)] at st5
      have st6 := st5.swap (fun k hk => by
        rw [List.length_set] at hk
        rw [lookup_cons_ne (show k ≠ 999 by omega)]
        by_cases c : k = i
        · subst c
          simp only [List.lookup_cons, beq_self_eq_true]
        · rw [lookup_cons_ne c, lookup_cons_ne c, lookup_cons_ne (show k ≠ 999 by omega)])
      have rp2' : RepL K (hid (wld F ((999, a2) :: (i, a1) :: drp os i)) H2) m vs2 := RepL.mono (hid_sub fun z hz => by
        rcases List.mem_cons.mp hz with z | z
        · rw [z]
          exact List.mem_cons_self
        · refine List.mem_cons_of_mem _ ?_
          rcases List.mem_cons.mp z with z | z
          · rw [z]
            exact List.mem_cons_self
          · refine List.mem_cons_of_mem _ ?_
            rcases List.mem_append.mp z with z | z
            · refine List.mem_append_left _ ?_
              obtain ⟨p, hp, rfl⟩ := List.mem_map.mp z
              exact List.mem_map.mpr ⟨p, drp_sub p hp, rfl⟩
            · exact List.mem_append_right _ z) _ rp2
      have st7 := st6.setOwn (i := j) (by rw [List.length_set]; omega) e3 rp2'
      rw [drp_cons_ne hij] at st7
      exact ⟨_, _, rfl, q _ _ H2 (by rw [List.map_cons, List.map_cons, drp_map, drp_map, hO]) st7⟩
end
end Dm

namespace Dm
open PySem PySem.Spec PyProof.Rows L2 My
/-! ### how keywords fall into places -/
def pickL {α : Type} (is : List Nat) (xs : List α) : List α := is.filterMap (xs[·]?)
def permOf (na nk : Nat) (is : List Nat) : Perm2 := ⟨fun us ws => if us.length = na ∧ ws.length = nk then pickL is (us ++ ws) else []⟩
theorem repL_get_none {K : Fr} {H : Hp} {l : List D} {vs : List V} {i : Nat} (h : RepL K H l vs) (e : l[i]? = none) : vs[i]? = none := by
  rw [List.getElem?_eq_none_iff] at e ⊢
  rw [← h.len]
  exact e
theorem repL_pick {K : Fr} {H : Hp} {l : List D} {vs : List V} (h : RepL K H l vs) : ∀ is, RepL K H (pickL is l) (pickL is vs)
  | [] => rfl
  | i :: is => by
    unfold pickL
    have ih := repL_pick h is
    cases e : l[i]? with
    | none =>
      rw [List.filterMap_cons_none e, List.filterMap_cons_none (repL_get_none h e)]
      exact ih
    | some d =>
      obtain ⟨v, e2, r⟩ := h.get e
      rw [List.filterMap_cons_some e, List.filterMap_cons_some e2]
      exact ⟨v, _, rfl, r, ih⟩
theorem rep_perm (na nk : Nat) (is : List Nat) : (permOf na nk is).Rep := fun K H us ws vs zs r z => by
  show RepL K H (if us.length = na ∧ ws.length = nk then _ else _) (if vs.length = na ∧ zs.length = nk then _ else _)
  rw [← r.len, ← z.len]
  by_cases c : us.length = na ∧ ws.length = nk
  · rw [if_pos c, if_pos c]
    exact repL_pick (r.app z) is
  · rw [if_neg c, if_neg c]
    rfl
theorem vals_pick {vs : List V} {us : List Value} (h : Vals vs us) : ∀ is, Vals (pickL is vs) (pickL is us)
  | [] => .nil
  | i :: is => by
    unfold pickL
    have ih := vals_pick h is
    cases e : vs[i]? with
    | none =>
      have e2 : us[i]? = none := by
        rw [List.getElem?_eq_none_iff] at e ⊢
        rw [← h.length]
        exact e
      rw [List.filterMap_cons_none e, List.filterMap_cons_none e2]
      exact ih
    | some d =>
      obtain ⟨v, e2, r⟩ := h.get e
      rw [List.filterMap_cons_some e, List.filterMap_cons_some e2]
      exact .cons r ih
theorem kb_of {K : Fr} {fd : FuncData} {ps ks : List Str} {na nk : Nat} {is : List Nat} (hn : ps.length ≠ 0) (h : ∀ (s : Shared) (us ws : List Value), us.length = na → ws.length = nk → BindsTo s fd ⟨us, ks.zip ws⟩ (ps.zip (pickL is (us ++ ws)))) :
    KBinds K fd ps ks (permOf na nk is).g (permOf na nk is).g where
  to := fun s us ws _ hl => by
    have hl : (if us.length = na ∧ ws.length = nk then pickL is (us ++ ws) else []).length = ps.length := hl
    show BindsTo s fd ⟨us, ks.zip ws⟩ (ps.zip (if us.length = na ∧ ws.length = nk then pickL is (us ++ ws) else []))
    by_cases c : us.length = na ∧ ws.length = nk
    · rw [if_pos c]
      exact h s us ws c.1 c.2
    · rw [if_neg c] at hl
      exact absurd hl.symm hn
  rel := fun {vs us zs ws} r z => by
    show Vals (if vs.length = na ∧ zs.length = nk then _ else _) (if us.length = na ∧ ws.length = nk then _ else _)
    rw [r.length, z.length]
    by_cases c : us.length = na ∧ ws.length = nk
    · rw [if_pos c, if_pos c]
      exact vals_pick (r.append z) is
    · rw [if_neg c, if_neg c]
      exact .nil
end Dm

namespace Dm
open PySem PySem.Spec PyProof.Rows L2 My
/-! ### sorted(set(..)) of a tuple of ints -/
def putI (k : Int) : List Int → List Int
  | [] => [k]
  | x :: l => if k < x then k :: x :: l else if k = x then x :: l else x :: putI k l
def ssetI : List Int → List Int
  | [] => []
  | k :: l => putI k (ssetI l)
theorem putI_mem (k j : Int) : ∀ l, j ∈ putI k l ↔ j = k ∨ j ∈ l
  | [] => by simp [putI]
  | x :: l => by
    unfold putI
    split
    · simp
    · split
      · next h => subst h; simp
      · rw [List.mem_cons, putI_mem k j l, List.mem_cons]
        constructor
        · rintro (h | h | h)
          · exact .inr (.inl h)
          · exact .inl h
          · exact .inr (.inr h)
        · rintro (h | h | h)
          · exact .inr (.inl h)
          · exact .inl h
          · exact .inr (.inr h)
theorem putI_inc (k : Int) : ∀ l : List Int, l.Pairwise (· < ·) → (putI k l).Pairwise (· < ·)
  | [], _ => by simp [putI]
  | x :: l, h => by
    have h2 := List.pairwise_cons.mp h
    unfold putI
    split
    · next c =>
      refine List.pairwise_cons.mpr ⟨fun y hy => ?_, h⟩
      rcases List.mem_cons.mp hy with z | z
      · omega
      · have := h2.1 y z
        omega
    · split
      · exact h
      · refine List.pairwise_cons.mpr ⟨fun y hy => ?_, putI_inc k l h2.2⟩
        rcases (putI_mem k y l).mp hy with z | z
        · omega
        · exact h2.1 y z
theorem ssetI_mem (j : Int) : ∀ l, j ∈ ssetI l ↔ j ∈ l
  | [] => Iff.rfl
  | k :: l => by
    show j ∈ putI k (ssetI l) ↔ _
    rw [putI_mem, ssetI_mem j l, List.mem_cons]
theorem ssetI_inc : ∀ l, (ssetI l).Pairwise (· < ·)
  | [] => .nil
  | k :: l => putI_inc k _ (ssetI_inc l)
theorem inc_ext : ∀ {xs ys : List Int}, xs.Pairwise (· < ·) → ys.Pairwise (· < ·) → (∀ k, k ∈ xs ↔ k ∈ ys) → xs = ys
  | [], [], _, _, _ => rfl
  | [], y :: ys, _, _, h => absurd ((h y).mpr List.mem_cons_self) (by simp)
  | x :: xs, [], _, _, h => absurd ((h x).mp List.mem_cons_self) (by simp)
  | x :: xs, y :: ys, hx, hy, h => by
    have hx2 := List.pairwise_cons.mp hx
    have hy2 := List.pairwise_cons.mp hy
    have e : x = y := by
      rcases List.mem_cons.mp ((h x).mp List.mem_cons_self) with z | z
      · exact z
      · rcases List.mem_cons.mp ((h y).mpr List.mem_cons_self) with z2 | z2
        · exact z2.symm
        · have a := hx2.1 y z2
          have b := hy2.1 x z
          omega
    subst e
    rw [inc_ext hx2.2 hy2.2 fun k => ?_]
    constructor
    · intro z
      have a := hx2.1 k z
      rcases List.mem_cons.mp ((h k).mp (List.mem_cons_of_mem _ z)) with z2 | z2
      · omega
      · exact z2
    · intro z
      have a := hy2.1 k z
      rcases List.mem_cons.mp ((h k).mpr (List.mem_cons_of_mem _ z)) with z2 | z2
      · omega
      · exact z2
def tSortSetI (K : Fr) (ta : TE) : TE := fun σ H Q => ta σ H fun x H1 => ∃ (p : Addr) (ns : List Int), x = .ref p ∧ SqT K H1 p (ns.map V.int) ∧ ns.length < 64 ∧ ∀ q, H1 q = none → Q (.ref q) (upd H1 q (.lst ((ssetI ns).map V.int)))
section
variable {X : Cx}
theorem pe_sortSetI {a : Expr} {ta : TE} {p p2 q pos : Pos} (hc : X.calm = true) (hg : Gl X "sorted") (hm : X.mg "sorted" = none) (hg2 : Gl X "set") (hm2 : X.mg "set" = none) (ha : PE X a ta)
    (na : starEach [a] X.env = (false, eval a X.env) :: starEach [] X.env := by rfl) : PE X (.Call (.Name "sorted" p) [.Call (.Name "set" p2) [a] [] q] [] pos) (tSortSetI X.K ta) := by
  refine ⟨fun pins s σ H Q I h => ?_⟩
  refine Call_ (ld_blt I hg hm (by decide +kernel : bootBuiltins "sorted" = some (.builtin "sorted")) ?_)
  refine PyProof.Rows.callWith_builtin1 (PyProof.Rows.args_cons ?_ rfl) rfl rfl
  refine Call_ (ld_blt I hg2 hm2 PyProof.Rows.boot_set ?_)
  refine PyProof.Rows.callWith_type1 (PyProof.Rows.args_cons (thn (ha.run pins s σ H _ I h) fun v s1 ⟨x, H1, I1, r1, q1⟩ => PyProof.Rows.args_nil ?_) na) na rfl
  obtain ⟨l, ns, rfl, hq, h1, q1⟩ := q1
  cases r1
  obtain ⟨its, rv, pt, hz⟩ := I1.tuple hq
  have hi : IntsAre its.toArray.toList ns := ints_of_vals rv
  have hd := I1.ok.hd hc
  refine call_set_tupI ns hd (show s1.heap.IsTuple l its.toArray from pt) hi (by unfold scanBound; omega) fun h' tk c R1 hcn k => ?_
  refine PyProof.Rows.args_nil ?_
  have I2 : Inv X pins σ H1 { s1 with heap := h', toks := tk } := I1.kept k
  refine sorted_set (s := { s1 with heap := h', toks := tk }) R1 hd (by omega) fun s' p out c2 ms k2 g o hp hgt hi2 hs hm3 hl => ?_
  have em : ms = ssetI ns := inc_ext hs (ssetI_inc ns) fun j => by rw [hm3 j, ssetI_mem, decide_eq_true_eq]
  subst em
  have hlen : ((ssetI ns).map V.int).length ≤ sizeLine := by rw [List.length_map, hl, sizeLine_eq]; omega
  have hn : H1 p = none := I2.hok.fresh hp
  have J : Inv X pins σ (upd H1 p (.lst ((ssetI ns).map V.int))) { ({ s1 with heap := h', toks := tk } : Shared) with heap := s'.heap, gens := s'.gens, drawn := s'.drawn, toks := s'.toks } :=
    I2.call (ch := []) (Un.laid k2 hp hn) (I2.hok.laid k2 hp ⟨hlen, out.toList, c2, vals_of_ints hi2, hgt⟩) (by rw [g]; exact I2.bare) (fun _ z => nomatch z)
  have e : s' = { ({ s1 with heap := h', toks := tk } : Shared) with heap := s'.heap, gens := s'.gens, drawn := s'.drawn, toks := s'.toks } := by
    cases s'
    cases s1
    cases o
    rfl
  rw [e]
  exact ⟨.ref p, _, J, rfl, q1 p hn⟩
end
def sortSetD : D → Option D
  | .tup l => match intsOf l with
    | some ns => if decide (ns.length < 64) = true then some (.lst ((ssetI ns).map D.int)) else none
    | none => none
  | _ => none
section
variable {P : Program} {w : World} {K : Fr} {mg : Str → Option Value} {base : Heap} {cl : Str → Addr} {E : SK} {Φ : Cxs P w K mg base E} {O : List Nat}
theorem me_sortSet {x : Expr} {p p2 q pos : Pos} {f : Dm.Env → M D} (hg : ∀ j, Gl (Φ.X j) "sorted") (hm : mg "sorted" = none) (hg2 : ∀ j, Gl (Φ.X j) "set") (hm2 : mg "set" = none) (h : ME Φ cl O x f)
    (na : ∀ env, starEach [x] env = (false, eval x env) :: starEach [] env := by intro _; rfl) : ME Φ cl O (.Call (.Name "sorted" p) [.Call (.Name "set" p2) [x] [] q] [] pos) (fUn sortSetD f) := by
  obtain ⟨t, pe, re⟩ := h
  refine ⟨tSortSetI K t, fun j => ?_, fun F os ρ σ H s Q hO st q => ?_⟩
  · have z := pe_sortSetI (Φ.calm j) (hg j) (by rw [Φ.hmg]; exact hm) (hg2 j) (by rw [Φ.hmg]; exact hm2) (pe j) (na _) (p := p) (p2 := p2) (q := q) (pos := pos)
    rw [Φ.hK j] at z
    exact z
  refine re.bind hO st hxE hbE q fun d s1 v H1 m1 st1 r1 q1 => ?_
  match d, r1, q1 with
  | .tup l, r1, q1 =>
    obtain ⟨a, vs, rfl, h1, h2⟩ := r1
    have q1 : satE K cl E F os ρ σ H Q (lift (match intsOf l with | some ns => if decide (ns.length < 64) = true then some (D.lst ((ssetI ns).map D.int)) else none | none => none) s1) := q1
    cases ei : intsOf l with
    | none =>
      rw [ei] at q1
      exact q1.elim
    | some ns =>
      rw [ei] at q1
      simp only at q1
      by_cases g : decide (ns.length < 64) = true
      · rw [if_pos g] at q1
        obtain ⟨ew, _⟩ := intsOf_rep ei h2
        refine ⟨a, ns, rfl, by rw [← ew]; exact seqT (.inr (h1.mono (hid_same _ _))), of_decide_eq_true g, fun p np => ?_⟩
        exact new_lst st1 (rep_ints _) (fun v H' m st' r => q1 v H' (m1.trans m) st' r) p np
      · rw [if_neg g] at q1
        exact q1.elim
  | .non, _, q1 => exact q1.elim
  | .bl _, _, q1 => exact q1.elim
  | .int _, _, q1 => exact q1.elim
  | .str _, _, q1 => exact q1.elim
  | .ty _, _, q1 => exact q1.elim
  | .ref _, _, q1 => exact q1.elim
  | .lst _, _, q1 => exact q1.elim
  | .tup0 _, _, q1 => exact q1.elim
  | .dic _, _, q1 => exact q1.elim
  | .dct _, _, q1 => exact q1.elim
  | .ins _ _, _, q1 => exact q1.elim
  | .rng _ _, _, q1 => exact q1.elim
end
end Dm

namespace Dm
open PySem PySem.Spec PyProof.Rows L2 My LamX
/-! ### a def that hears what a lambda raises -/
def TTd (hr : Value → List (Str × V) → Hp → VK → Prop) : (XK → Hp → VK → Prop) → Hp → VK → Prop := fun tl H Q =>
  ∀ (E' : XK) (Q' : VK), (∀ cls H' dd fvs, H' dd = some (.xd fvs) → hr cls fvs H' Q → E' cls (some dd) H') → (∀ v H', (∀ H2, Same H' H2 → Q .non H2) → Q' v H') → tl E' H Q'
def HdOk (K : Fr) (cl : Str → Addr) (hr : Value → List (Str × V) → Hp → VK → Prop) (hd : Str → List (Str × D) → Option D) : Prop :=
  ∀ (F : Frm) (os : Own) (ρ : Dm.Env) (σ : L2.St) (H : Hp) (s : BS) (Q : VK) (nm : Str) (fs : List (Str × D)) (fvs : List (Str × V)) (d : D), StOk K F os ρ σ H s → RepF K (hid (wld F os) H) fs fvs → hd nm fs = some d →
    (∀ v H', Mw F.q H H' → StOk K F os ρ σ H' s → Rep K (hid (wld F os) H') d v → Q v H') → hr (.ref (cl nm)) fvs H Q
def maskE (O : List Nat) (ρ : Dm.Env) : Dm.Env := O.foldl (fun ρ i => ρ.set i none) ρ
theorem mask_len : ∀ (O : List Nat) (ρ : Dm.Env), (maskE O ρ).length = ρ.length
  | [], _ => rfl
  | k :: O, ρ => by
    show (maskE O (ρ.set k none)).length = _
    rw [mask_len O, List.length_set]
theorem mask_get : ∀ (O : List Nat) (ρ : Dm.Env) (i : Nat) (d : D), (maskE O ρ)[i]? = some (some d) → i ∉ O ∧ ρ[i]? = some (some d)
  | [], _, _, _, h => ⟨List.not_mem_nil, h⟩
  | k :: O, ρ, i, d, h => by
    obtain ⟨h1, h2⟩ := mask_get O (ρ.set k none) i d h
    by_cases c : i = k
    · subst c
      rw [List.getElem?_set] at h2
      rw [if_pos rfl] at h2
      split at h2 <;> cases h2
    · rw [List.getElem?_set_ne (Ne.symm c)] at h2
      exact ⟨fun z => (List.mem_cons.mp z).elim c h1, h2⟩
def fHeard (P2 : Addr) (qn : Str) (O : List Nat) (hd : Str → List (Str × D) → Option D) (f : Dm.Env → M D) (ρ : Dm.Env) : M D := fun s =>
  if s.tb = [(P2, qn)] then match f (maskE O ρ) s with
    | .ok _ s' => .ok .non s'
    | .exc nm fs s' => match hd nm fs with
      | some d => .ok d s'
      | none => .bad
    | .bad => .bad
  else .bad
section
variable {P : Program} {w : World} {K : Fr} {mg : Str → Option Value} {base : Heap} {cl : Str → Addr} {E : SK}
abbrev Cxs.lam (Φ : Cxs P w K mg base E) (scope : Scope) (k : Nat) (E' : XK) : CxsE P w K mg base E' where
  ι := { p : Φ.ι × Around × List PySem.Env × Shared × Hp × Addr × Addr // Room k (p.2.1.deeper (lamEnv (Φ.X p.1) scope p.2.2.2.1.heap.objs.size p.2.2.2.2.2.1 p.2.2.2.2.2.2)) }
  X := fun p => lamCx (Φ.X p.1.1) p.1.2.1 p.1.2.2.1 p.1.2.2.2.1 p.1.2.2.2.2.1 E' scope p.1.2.2.2.2.2.1 p.1.2.2.2.2.2.2
  lv := k
  hP := fun p => Φ.hP p.1.1
  hw := fun p => Φ.hw p.1.1
  hK := fun p => Φ.hK p.1.1
  hmg := fun p => Φ.hmg p.1.1
  hb := fun p => Φ.hb p.1.1
  calm := fun p => rfl
  nd := fun p => Φ.nd p.1.1
  room := fun p => p.2
  pass := fun p σ => passAt (W := fun cls d _ H => E' cls d H) (takes_of rfl rfl rfl rfl) σ
variable {Φ : Cxs P w K mg base E} {O : List Nat}
theorem me_heard {k : Nat} {P2 : Addr} {qn : Str} {hr : Value → List (Str × V) → Hp → VK → Prop} {hd : Str → List (Str × D) → Option D} {scope : Scope} {body call : Expr} {f : Dm.Env → M D}
    (hl : ∀ j (t : XK → TE), (∀ (A : Around) (outer : List PySem.Env) (s : Shared) (H : Hp) (E : XK) (f c' : Addr), Room k (A.deeper (lamEnv (Φ.X j) scope s.heap.objs.size f c')) → PE (lamCx (Φ.X j) A outer s H E scope f c') body (t E)) →
      PE (Φ.X j) call (tLam [(P2, qn)] (TTd hr) t))
    (hh : HdOk K cl hr hd) (hb : ∀ E', ME (Φ.lam scope k E') cl [] body f) : ME Φ cl O call (fHeard P2 qn O hd f) := by
  let t : XK → TE := fun E' => (hb E').choose
  have pt : ∀ E', (∀ i, PE ((Φ.lam scope k E').X i) body (t E')) := fun E' => (hb E').choose_spec.1
  have rt : ∀ E', RE K cl (fun _ => E') [] (t E') f := fun E' => (hb E').choose_spec.2
  refine ⟨tLam [(P2, qn)] (TTd hr) t, fun j => hl j t fun A outer s H E' fa c' hr' => pt E' ⟨(j, A, outer, s, H, fa, c'), hr'⟩, fun F os ρ σ H s Q hO st q => ?_⟩
  have q : satE K cl E F os ρ σ H Q (if s.tb = [(P2, qn)] then match f (maskE O ρ) s with
    | .ok _ s' => .ok .non s'
    | .exc nm fs s' => match hd nm fs with
      | some d => .ok d s'
      | none => .bad
    | .bad => .bad else .bad) := q
  by_cases ct : s.tb = [(P2, qn)]
  · rw [if_pos ct] at q
    have eT : F.T = [(P2, qn)] := st.bag.eT.symm.trans ct
    have tb := st.bag.tabs
    rw [eT] at tb
    refine ⟨tb, fun H1 ext tb1 => ?_⟩
    have m1 : Mw F.q H H1 := ⟨fun b o _ t h => ext b o h fun ps z => by
      subst z
      cases t⟩
    have st1 : StOk K F os ρ σ H1 s := st.step m1 ⟨st.bag.eT, by rw [eT]; exact tb1, st.bag.eq, ext _ _ st.bag.at_ (fun _ z => nomatch z), ext _ _ st.bag.cells (fun _ z => nomatch z)⟩
    intro E' Q' hx hn
    have st2 : StOk K ⟨wld F os, H1, F.q, F.c, fun _ => none, F.T⟩ [] (maskE O ρ) σ H1 s := by
      refine ⟨Mw.refl, ⟨st1.qW, List.mem_append_right _ st1.fok.cW, st1.fok.cq, fun a ha => st1.wpres ha⟩, st1.bag, (fun p hp => nomatch hp), (fun p hp => nomatch hp), List.nodup_nil, by rw [mask_len]; exact st1.len, by rw [mask_len]; exact st1.few, (fun a o e => nomatch e), fun i d e => ?_⟩
      obtain ⟨n, e2⟩ := mask_get O ρ i d e
      obtain ⟨v, e3, e4⟩ := st1.slots i d e2
      rw [lookup_none (by rw [hO]; exact n)] at e4
      exact ⟨v, e3, e4⟩
    refine rt E' _ [] _ σ H1 s Q' rfl st2 ?_
    cases e : f (maskE O ρ) s with
    | bad =>
      rw [e] at q
      exact q.elim
    | ok d s2 =>
      rw [e] at q
      exact fun v H2 m2 st3 _ => hn v H2 fun H3 sm => q .non H3 ((m1.trans m2).trans (Mw.of sm)) (st1.step (m2.trans (Mw.of sm)) (st3.bag.mv sm)) rfl
    | exc nm fs s2 =>
      rw [e] at q
      simp only at q
      cases eh : hd nm fs with
      | none =>
        rw [eh] at q
        exact q.elim
      | some d =>
        rw [eh] at q
        intro H2 dd fvs m2 bg _ ed rf
        have st3 : StOk K F os ρ σ H2 s2 := st1.step m2 bg
        exact hx _ H2 dd fvs ed (hh F os ρ σ H2 s2 Q nm fs fvs d st3 rf eh fun v H3 m3 st4 r => q v H3 ((m1.trans m2).trans m3) st4 r)
  · rw [if_neg ct] at q
    exact q.elim
end
end Dm

set_option maxHeartbeats 2000000
namespace Dm
open PySem PySem.Spec PyProof.Rows L2 My LamX
section
variable {P : Program} {w : World} {K : Fr} {mg : Str → Option Value} {base : Heap} {cl : Str → Addr}
/-- a def whose code's address is at hand -/
theorem okDc {x qual : Str} {params : Arguments} {body : List Stmt} {scope : Scope} {dV kV doc pm cdv ct oc : Value} {an od : Option Addr} {osl : Array (Option Value)} {f : Addr} {N ps : List Str} {k : Nat}
    (lk : K.lookup f = some ⟨oc, od, .func (PySem.W.fnOf x qual params body scope dV kV doc pm an cdv ct), osl⟩) (hcd : PySem.W.codeIn K cdv qual = true) (S : FnScope N ps scope) (hN : N.length ≤ 900) (m : Dm.Env → M Out) {O' : List Nat}
    (hb : ∀ (A : Around) (outer : List PySem.Env) (s : Shared) (H : Hp) (E : XK) (hr : Room k (A.deeper (envOfC qual scope s.heap.objs.size f cdv))), MSs (defCx P w K mg base N S.nd qual scope f k cdv A outer s H E hr) cl [] O' [] body m) :
    FnOk P w K mg base (L2.CX P w) (k + 1) f (PySem.W.fnOf x qual params body scope dV kV doc pm an cdv ct) ps (spD K cl ps.length (fnM N.length m)) := by
  refine fn_of lk hcd S (fun vs H Q E h => ?_) (fun A outer s H vs Q E hr h => ?_)
  · obtain ⟨F, s, ds, _, _, _, r, hl, _⟩ := h
    rw [← r.len]
    exact hl
  · obtain ⟨F, b, ds, eH, fok, bag, r, hl, q⟩ := h
    obtain ⟨t, p, rs⟩ := hb A outer s H E hr
    refine ⟨t, p (), ?_⟩
    subst eH
    have st0 : StOk K (F.at fun _ => none) [] (ds.map some ++ List.replicate (N.length - ds.length) none) (L2.start N vs) F.H0 b := by
      have e1 := r.len
      refine ⟨Mw.refl, ⟨fok.qW, fok.cW, fok.cq, fok.wild⟩, bag, (fun p hp => nomatch hp), (fun p hp => nomatch hp), List.nodup_nil, ?_, ?_, (fun a o e => nomatch e), fun i d e => ?_⟩
      · unfold L2.start
        rw [List.length_append, List.length_append, List.length_map, List.length_map, List.length_replicate, List.length_replicate, e1]
      · have h1 : ps.length ≤ N.length := by
          have h3 := congrArg List.length S.pre
          rw [List.length_take] at h3
          omega
        rw [List.length_append, List.length_map, List.length_replicate]
        omega
      · exact start_slots r i d e
    refine rs (F.at fun _ => none) [] _ _ F.H0 b _ rfl st0 ?_
    unfold fnM at q
    cases e : m (ds.map some ++ List.replicate (N.length - ds.length) none) b with
    | bad =>
      simp only [e] at q
      exact q
    | exc nm fs s1 =>
      simp only [e] at q
      exact q
    | ok o s1 =>
      cases o with
      | nx ρ' =>
        simp only [e] at q
        exact fun os' σ' H' hO st' => q .non H' st'.mv st'.bag rfl
      | rt d =>
        simp only [e] at q
        exact q
      | bk _ =>
        simp only [e] at q
        exact q.elim
      | ct _ =>
        simp only [e] at q
        exact q.elim
/-! ### the law itself: its bag is made by its first statement -/
def sp_bagD (K : Fr) : Sp := fun vs H Q _ => ∃ (a : Addr) (ns : List Int), vs = [.ref a] ∧ SqL K H a (ns.map V.int) ∧ ns.length ≤ 1000 ∧
  ∀ (H' : Hp) (q c : Addr) (cells : List Int), Same H H' → H' q = some (.lst [.ref c, .int 0, .int 0]) → H' c = some (.lst (cells.map V.int)) → c ≠ q → Q (.ref q) H'
def sp_lawD (K : Fr) (Ps : List Addr) : Sp := fun vs H Q _ => ∃ (a : Addr) (ns : List Int), vs = [.ref a] ∧ SqL K H a (ns.map V.int) ∧ ns.length ≤ 63 ∧ (∀ p ∈ Ps, H p = some (.tbl #[])) ∧ ∀ H', Q (.bl true) H'
theorem ok_lawD {x qual p0 : Str} {st st0 : Stmt} {rest : List Stmt} {f : Addr} {fd : FuncData} {N : List Str} {k i : Nat} {T : List (Addr × Str)} (Fn : L2.Fun K x qual st f fd) (S : FnScope N [p0] (defScope st)) (hN : N.length ≤ 900) (hi : i < N.length) (m : Dm.Env → M Out) {O' : List Nat}
    (hbd : defBody st = st0 :: rest)
    (h1 : ∀ (cdv : Value) (A : Around) (outer : List PySem.Env) (s : Shared) (H : Hp) (E : XK) (hr : Room k (A.deeper (envOfC qual (defScope st) s.heap.objs.size f cdv))),
      ∃ t1, PS (cxOf (L2.CX P w) P w K mg base N qual (defScope st) f cdv A outer s H E) st0 (tAsg t1 (gName i)) ∧ ∀ σ H Q v, σ[0]? = some (some v) → sp_bagD K [v] H Q C8.E0 → t1 σ H Q)
    (hb : ∀ (cdv : Value) (A : Around) (outer : List PySem.Env) (s : Shared) (H : Hp) (E : XK) (hr : Room k (A.deeper (envOfC qual (defScope st) s.heap.objs.size f cdv))), MSs (defCx P w K mg base N S.nd qual (defScope st) f k cdv A outer s H E hr) cl [] O' [] rest m)
    (hm : ∀ (q : Addr) (cells : List Int), ∃ s', m ((List.replicate N.length none).set i (some (.ref q))) ⟨q, cells, 0, 0, T⟩ = .ok (.rt (.bl true)) s') :
    FnOk P w K mg base (L2.CX P w) (k + 1) f fd [p0] (sp_lawD K (T.map (·.1))) := by
  refine Fn.okX S (fun vs H Q E h => ?_) (fun cdv A outer s H vs Q E hr h => ?_)
  · obtain ⟨a, ns, rfl, _⟩ := h
    rfl
  · obtain ⟨a, ns, rfl, hS, hl, hT, want⟩ := h
    obtain ⟨t, p, rs⟩ := hb cdv A outer s H E hr
    rw [hbd]
    obtain ⟨t1, p1, r1⟩ := h1 cdv A outer s H E hr
    refine ⟨_, pss_cons p1 (p ()), ?_⟩
    have nN : 1 ≤ N.length := by
      have h3 := congrArg List.length S.pre
      rw [List.length_take] at h3
      have : [p0].length = 1 := rfl
      omega
    refine r1 _ _ _ (.ref a) (by unfold L2.start; rfl) ⟨a, ns, rfl, hS, by omega, fun H1 q c cells sm eq ec cq => ?_⟩
    have tabs : LamX.Tabs T H1 := fun pr hpr => by
      have e := sm _ _ (hT pr.1 (List.mem_map.mpr ⟨pr, hpr, rfl⟩))
      exact LamX.TabS.nil e
    have st0 : StOk K ⟨[q, c], H1, q, c, fun _ => none, T⟩ [] ((List.replicate N.length none).set i (some (.ref q))) ((L2.start N [.ref a]).set i (some (.ref q))) H1 ⟨q, cells, 0, 0, T⟩ := by
      refine ⟨Mw.refl, ⟨List.mem_cons_self, List.mem_cons_of_mem _ List.mem_cons_self, cq, fun b hb => ?_⟩, ⟨rfl, tabs, rfl, eq, ec⟩, (fun p hp => nomatch hp), (fun p hp => nomatch hp), List.nodup_nil, ?_, ?_, (fun a o e => nomatch e), fun j d e => ?_⟩
      · rcases List.mem_cons.mp hb with z | z
        · exact ⟨_, by rw [z]; exact eq, rfl⟩
        · rw [List.mem_singleton.mp z]
          exact ⟨_, ec, rfl⟩
      · rw [List.length_set, List.length_set, List.length_replicate]
        unfold L2.start
        rw [List.length_append, List.length_map, List.length_replicate]
        show 1 + (N.length - 1) = _
        omega
      · rw [List.length_set, List.length_replicate]
        exact hN
      · have hls : (L2.start N [V.ref a]).length = N.length := by
          unfold L2.start
          rw [List.length_append, List.length_map, List.length_replicate]
          show 1 + (N.length - 1) = _
          omega
        by_cases cj : i = j
        · subst cj
          rw [List.getElem?_set_self (by rw [List.length_replicate]; exact hi)] at e
          have e : d = .ref q := (Option.some.inj (Option.some.inj e)).symm
          subst e
          exact ⟨.ref q, List.getElem?_set_self (by rw [hls]; exact hi), rfl⟩
        · rw [List.getElem?_set_ne cj] at e
          have h2 := List.mem_of_getElem? e
          have h3 := List.eq_of_mem_replicate h2
          cases h3
    obtain ⟨s', es⟩ := hm q cells
    refine rs ⟨[q, c], H1, q, c, fun _ => none, T⟩ [] _ _ H1 _ _ rfl st0 ?_
    rw [es]
    exact fun v H' _ _ r => by
      rw [show v = .bl true from r]
      exact want H'
end
/-! ### the end, the tables of more defs at hand -/
theorem walk_ofTabs {l : PySem.W.OpenLaw} {n k : Nat} {q : Program} {loose : List Str} {XP : (Str → Option Value) → Heap → Prop} {YP : World → Heap → Prop} {d : DefRec} {K : Params → PySem.W.Frag} {CX : World → CXT} {x : Str}
    (hn : l.most = some n) (hn2 : n ≤ sizeLine) (hdf : d.params.defaults = []) (hr : Room k callerA) (hY : ∀ (w : World) (h : Heap), YP w h → (K w.params).In h)
    (F : ∀ (w : World) (mg : Str → Option Value) (fa : Addr) (h : Heap), YP w h → (K w.params).In h → h.Ns mainGlobals mg → mg d.name = some (.ref fa) →
      (∀ (y : Str) (f : Addr), ((recsOf q).any fun e => e.name == y) = true → mg y = some (.ref f) → OwnTab (K w.params) f h) → LawAtS l w (K w.params) (CX w) k n x mg fa h)
    (hCX : ∀ (w : World) (H : Hp) (s : Shared) (e : Value) (s' : Shared), CX w [] H s (fun _ _ _ => False) e s' → False) :
    PySem.W.WalkO q loose XP YP l.row.toRowW d [] (fun f vs => PySem.call f vs) := by
  refine Att.attach_callB hn hdf fun w s₀ s₁ mg mb fa o pm cd doc a vs ns G Y ho hd hcd hmg hobj hints hlen hbits hg => ?_
  have KX := hY w _ Y
  have own : ∀ (y : Str) (f : Addr), ((recsOf q).any fun e => e.name == y) = true → mg y = some (.ref f) → OwnTab (K w.params) f s₁.heap := by
    intro y f hy hf c P o1 fd1 e dd vs1 sl k1 k2 k3 k4 k5
    obtain ⟨dL, hm, hn1⟩ := List.any_eq_true.mp hy
    obtain ⟨a', o', fd', c', P', h1, h2, h3, h4, _, ⟨⟨oc, vc, e1, _, e3, e4⟩, hP⟩⟩ := G.T.tab dL hm
    rw [beq_iff_eq.mp hn1, hf] at h1
    cases h1
    rw [KX _ _ k1] at h2
    cases h2
    rw [k2] at h3
    cases h3
    rw [k3] at h4
    cases h4
    rw [KX _ _ k4] at e1
    cases e1
    cases e3
    rw [k5] at e4
    cases e4
    exact hP
  obtain ⟨fd, cs, sp, hT, nT, C, hb, hsp, hF⟩ := F w mg fa _ Y KX G.T.g hmg own
  exact law_callTs KX G.T.g G.T.b G.T.builtins G.T.nolimit hg hT nT C G.T.bmain hobj hints (Nat.le_trans hlen hn2) hr hF hb (fun H hH hS => hsp H a ns hlen hbits hH hS) fun H e s' => hCX w H s₁ e s'
end Dm

namespace Dm
open PySem PySem.Spec PyProof.Rows L2 My
section
variable {P : Program} {w : World} {K : Fr} {mg : Str → Option Value} {base : Heap} {cl : Str → Addr} {E0 : XK} {O O' OL : List Nat} {Φ : CxsE P w K mg base E0}
/-- as ms_asg, asked of these contexts alone -/
theorem ms_asgX {e tg : Expr} {pos : Pos} {vs : List Nat} {f : Dm.Env → M D} {g : D → Dm.Env → Option Dm.Env} (he : ME Φ cl O e f) (hg : MG Φ O tg vs g) (hw : ∀ j, swappedStores [tg] e (Φ.X j).env = pure none) (hs : ∀ env, swapsWithSole [tg] e pos.line env = pure false := by intro _; rfl)
    (h1 : ∀ env, (assignEach [tg] env).map (·.2) = [assign tg env] := by intro _; rfl) : MS Φ cl O O OL (.Assign [tg] e pos) (fAsg f g) := by
  obtain ⟨t, p, r⟩ := he
  obtain ⟨t2, p2, r2⟩ := hg
  refine ⟨_, fun j => ps_asg (p j) (p2 j) (hs _) (hw j) (h1 _), fun F os ρ σ H s Dn hO st q => ?_⟩
  refine r.bind hO st hxS hbS q fun d s1 v H1 m1 st1 r1 q1 => ?_
  cases eg : g d ρ with
  | none =>
    simp only [eg] at q1
    exact q1.elim
  | some ρ' =>
    simp only [eg] at q1
    exact r2 F os ρ σ H1 s1 _ d v ρ' hO st1 r1 eg fun σ' st' _ => q1 os σ' H1 hO st'
end
end Dm

namespace Dm
open PySem PySem.Spec PyProof.Rows L2 My
def strsOf : List D → Option (List Str)
  | [] => some []
  | .str i :: l => match strsOf l with
    | some r => some (i :: r)
    | none => none
  | _ :: _ => none
theorem strsOf_rep {K : Fr} {H : Hp} : ∀ {l : List D} {ns : List Str} {vs : List V}, strsOf l = some ns → RepL K H l vs → vs = ns.map V.str
  | [], _, _, e, h => by
    cases e
    exact h
  | d :: l, ns, _, e, h => by
    obtain ⟨v, r, rfl, h1, h2⟩ := h
    cases d with
    | str i =>
      have e : (match strsOf l with | some r => some (i :: r) | none => none) = some ns := e
      cases e2 : strsOf l with
      | none =>
        rw [e2] at e
        cases e
      | some ms =>
        rw [e2] at e
        cases e
        rw [strsOf_rep e2 h2, show v = .str i from h1]
        rfl
    | _ => cases e
def joinOk (a : Str) (ys : List Str) : Bool := decide ((ys.map (·.length)).sum + ys.length * a.length ≤ 16777216)
def joinD : D → D → Option D
  | .str a, .lst l => match strsOf l with
    | some ys => if joinOk a ys = true then some (.str (Txt.join a ys)) else none
    | none => none
  | _, _ => none
section
variable {P : Program} {w : World} {K : Fr} {mg : Str → Option Value} {base : Heap} {cl : Str → Addr} {E : SK} {Φ : Cxs P w K mg base E} {O : List Nat}
def rJoin (K : Fr) : V → List V → Hp → VK → Prop := fun x xs H Q => ∃ a p, ∃ ys : List Str, x = .str a ∧ xs = [.ref p] ∧ (SqL K H p (ys.map V.str) ∨ SqT K H p (ys.map V.str)) ∧ (ys.map (·.length)).sum + ys.length * a.length ≤ 16777216 ∧ Q (.str (Txt.join a ys)) H
/-- 'sep'.join(a list of texts) -/
theorem me_join {o e : Expr} {apos pos : Pos} {g : Dm.Env → M D} {a : Str} (ho : ME Φ cl O o (fC (.str a))) (he : ME Φ cl O e g) (hs : ∀ env, starEach [e] env = [(false, eval e env)] := by intro _; rfl)
    (hbase : ∀ j, attributeBase o "join" (Φ.X j).env (eval o (Φ.X j).env) = eval o (Φ.X j).env := by intro _; rfl) (hline : (apos.endLine == pos.line) = true := by rfl) :
    ME Φ cl O (.Call (.Attribute o "join" apos) [e] [] pos) (fOp joinD (fC (.str a)) g) := by
  obtain ⟨t, pe, re⟩ := ho
  obtain ⟨u, pu, ru⟩ := he
  refine ⟨tM1 (rJoin K) t u, fun j => by
    have z := pe_join (pe j) (pu j) (hs _) (hbase j) hline
    rw [Φ.hK j] at z
    exact z, fun F os ρ σ H s Q hO st q => ?_⟩
  refine re F os ρ σ H s _ hO st fun v H1 m1 st1 r1 => ?_
  refine ⟨⟨a, r1⟩, ?_⟩
  have q : satE K cl E F os ρ σ H Q (bnd (g ρ) (fun y => lift (joinD (.str a) y)) s) := q
  refine ru.bind hO st1 hxE hbE q fun dy s2 y H2 m2 st2 r2 q2 => ?_
  cases dy with
  | lst l =>
    obtain ⟨p, vs, rfl, h1, h2⟩ := r2
    have q2 : satE K cl E F os ρ σ H Q (lift (match strsOf l with | some ys => if joinOk a ys = true then some (D.str (Txt.join a ys)) else none | none => none) s2) := q2
    cases es : strsOf l with
    | none =>
      rw [es] at q2
      exact q2.elim
    | some ys =>
      rw [es] at q2
      simp only at q2
      by_cases g : joinOk a ys = true
      · rw [if_pos g] at q2
        exact ⟨a, p, ys, r1, rfl, .inl (by rw [← strsOf_rep es h2]; exact seqL (hid_same _ _ _ _ h1)), of_decide_eq_true g, q2 _ H2 (m1.trans m2) st2 rfl⟩
      · rw [if_neg g] at q2
        exact q2.elim
  | _ => exact q2.elim
/-- {}, keys ints and texts -/
theorem me_dnil {pos : Pos} : ME Φ cl O (.Dict [] [] pos) (fC (.dic [])) := ⟨tDNewK, fun j => pe_dnewK, fun F os ρ σ H s Q hO st q => fun p np => q _ _ (mv_new np) (st.laid np) ⟨p, [], rfl, st.hid_laid np, rfl⟩⟩
/-- {}, keys tuples of ints -/
theorem me_dnilT {pos : Pos} : ME Φ cl O (.Dict [] [] pos) (fC (.dct [])) := ⟨tDNewT, fun j => pe_dnewT, fun F os ρ σ H s Q hO st q => fun p np => q _ _ (mv_new np) (st.laid np) ⟨p, [], rfl, st.hid_laid np, rfl⟩⟩
/-- {i: j}, constants -/
theorem me_disp1 {i j : Int} {k1 k2 : Nat} {p1 p2 pos : Pos} : ME Φ cl O (.Dict [some (.Constant (.int i) k1 p1)] [.Constant (.int j) k2 p2] pos) (fC (.dic [(.inl i, .int j)])) := by
  refine ⟨tDisp [(tC (.int i), tC (.int j))], fun k => pe_disp (pps_cons pe_int pe_int pps_nil) rfl rfl (by simp) (Nat.le_of_ble_eq_true rfl), fun F os ρ σ H s Q hO st q => fun p np => ?_⟩
  show upd H p (.dK []) p = some (.dK []) ∧ ∃ kvs : List (Key × V), [(V.int i, V.int j)] = kvs.map (fun kv => (kV kv.1, kv.2)) ∧ kvs.length ≤ 15 ∧ Q (.ref p) (upd (upd H p (.dK [])) p (.dK (mergeK [] kvs)))
  refine ⟨upd_same, [(.inl i, .int j)], rfl, Nat.le_of_ble_eq_true rfl, ?_⟩
  rw [upd_upd]
  exact q _ _ (mv_new np) (st.laid np) ⟨p, _, rfl, st.hid_laid np, .int j, [], rfl, rfl, rfl⟩
end
end Dm

namespace Dm
open PySem PySem.Spec PyProof.Rows L2 My
theorem mem_self (p : Addr × Str) : p ∈ [p] := List.mem_singleton.mpr rfl
theorem hu_self (P : Addr) (q : Str) : ∀ p ∈ [(P, q)], p.1 = P → p.2 = q := fun p hp _ => by
  rw [List.mem_singleton.mp hp]
end Dm

namespace My
open PySem PySem.Spec PyProof.Rows L2
/-! an error that is pinned behind its try: isinstance against some classes, its fields; None against classes -/
theorem vals_refsA : ∀ {cs : List Addr} {us : List Value}, Vals (cs.map V.ref) us → us = cs.map Value.ref
  | [], _, h => by
    cases h
    rfl
  | c :: cs, _, h => by
    cases h with
    | cons a b =>
      rw [vals_refsA b]
      cases (show _ = Value.ref c from a)
      rfl
def rIsET (K : PySem.W.Frag) (a : Addr) (cls : Value) (d : Option Addr) : List V → Hp → VK → Prop := fun xs H Q => ∃ (p D dd : Addr) (fs : List (Str × V)) (cs : List Addr) (b : Bool),
  xs = [.ref a, .ref p] ∧ cls = .ref D ∧ d = some dd ∧ H dd = some (.xd fs) ∧ ErrK K D ∧ SqT K H p (cs.map V.ref) ∧ PySem.W.kitAny K (.ref D) (cs.map Value.ref) = some b ∧ Q (.bl b) H
theorem call_isET {X : Cx} {a : Addr} {cls : Value} {d : Option Addr} {oe : Obj} {pn : List (Addr × Obj)} {xe : Value → Shared → Prop} (hz : Zc cls d oe) (hf : ∃ vs, oe.data = .fields vs) :
    CallR (X.tr ((a, oe) :: pn) xe) (.builtin "isinstance") (rIsET X.K a cls d) := by
  intro pins s σ H xs us Q I r h
  obtain ⟨p, D, dd, fs, cs, b, rfl, rfl, rfl, ed, C, ht, e, q⟩ := h
  obtain ⟨u1, u2, rfl, r1, r2⟩ := vals2 r
  cases (show u1 = Value.ref a from r1)
  cases (show u2 = Value.ref p from r2)
  obtain ⟨its, rv, ⟨o, ho, hc, n, hd⟩, _⟩ := I.tuple ht
  rw [vals_refsA rv] at hd
  obtain ⟨got, _⟩ := I.pin (a, oe) (List.mem_append_left _ List.mem_cons_self)
  obtain ⟨vs, hv⟩ := hf
  have hx : ObjOk X.prog X.w H s.heap dd (.xd fs) := I.hok dd _ ed
  obtain ⟨mA, hns, _⟩ := hx
  obtain ⟨od, ho2, _⟩ := lookIn_ns hns
  have J : PySem.W.InstAt s.heap a oe D (some od) := by
    refine ⟨got, hz.1, ?_, ?_⟩
    · unfold PySem.W.notCls
      rw [hv]
    · rw [hz.2]
      exact ho2
  have ho3 : s.heap.get? p = some ⟨.type "tuple", o.dict, .seq (cs.map Value.ref).toArray n, o.slots⟩ := by
    rw [ho]
    cases o
    cases hc
    cases hd
    rfl
  exact PySem.W.kia_tup (PySem.W.kitx_exc C.hcl C.xf.ga C.xf.gg C.xf.exC C.ha C.hn C.ht C.hm) I.kIn J ho3 e (fun z => nomatch z)
    fun tk => ⟨.bl b, H, I.kept (t' := tk) fun _ _ z => z, rfl, q⟩
def rIsNT (K : PySem.W.Frag) : List V → Hp → VK → Prop := fun xs H Q => ∃ (p : Addr) (cs : List Addr) (b : Bool), xs = [.non, .ref p] ∧ SqT K H p (cs.map V.ref) ∧ PySem.W.kitAny K (.type "NoneType") (cs.map Value.ref) = some b ∧ Q (.bl b) H
theorem call_isNT {X : Cx} : CallR X (.builtin "isinstance") (rIsNT X.K) := by
  intro pins s σ H xs us Q I r h
  obtain ⟨p, cs, b, rfl, ht, e, q⟩ := h
  obtain ⟨u1, u2, rfl, r1, r2⟩ := vals2 r
  cases (show u1 = Value.none from r1)
  cases (show u2 = Value.ref p from r2)
  obtain ⟨its, rv, ⟨o, ho, hc, n, hd⟩, _⟩ := I.tuple ht
  rw [vals_refsA rv] at hd
  have ho3 : s.heap.get? p = some ⟨.type "tuple", o.dict, .seq (cs.map Value.ref).toArray n, o.slots⟩ := by
    rw [ho]
    cases o
    cases hc
    cases hd
    rfl
  exact PySem.W.kia_tup PySem.W.kitx_none I.kIn True.intro ho3 e (fun z => nomatch z)
    fun tk => ⟨.bl b, H, I.kept (t' := tk) fun _ _ z => z, rfl, q⟩
def rIsN1 (K : PySem.W.Frag) : List V → Hp → VK → Prop := fun xs H Q => ∃ (c : Addr) (b : Bool), xs = [.non, .ref c] ∧ PySem.W.kitOne K (.type "NoneType") (.ref c) = some b ∧ Q (.bl b) H
theorem call_isN1 {X : Cx} : CallR X (.builtin "isinstance") (rIsN1 X.K) := by
  intro pins s σ H xs us Q I r h
  obtain ⟨c, b, rfl, e, q⟩ := h
  obtain ⟨u1, u2, rfl, r1, r2⟩ := vals2 r
  cases (show u1 = Value.none from r1)
  cases (show u2 = Value.ref c from r2)
  exact PySem.W.kia_one PySem.W.kitx_none I.kIn True.intro e (fun z => nomatch z)
    fun tk => ⟨.bl b, H, I.kept (t' := tk) fun _ _ z => z, rfl, q⟩
/-- err.f behind the try -/
theorem pe_xfT {X : Cx} {a C : Addr} {oe : Obj} {cls : Value} {d : Option Addr} {pn : List (Addr × Obj)} {xe : Value → Shared → Prop} {e : Expr} {te : TE} {pos : Pos} {n : Str} (T : XfC X.K C) (hno : PySem.W.findIn X.K (.ref C) n = some none)
    (hz : Zc cls d oe) (hf : ∃ vs, oe.data = .fields vs) (he : PE (X.tr ((a, oe) :: pn) xe) e te) (hb : attributeBase e n X.env (eval e X.env) = eval e X.env := by rfl) :
    PE (X.tr ((a, oe) :: pn) xe) (.Attribute e n pos) (tXf a cls d C n te) := by
  refine ⟨fun pins s σ H Q I h => attr_of hb (thn (he.run pins s σ H _ I h) ?_)⟩
  rintro u s1 ⟨x, H1, I1, rx, rfl, rfl, dd, fs, v, rfl, ea, l, q⟩
  cases (show u = Value.ref a from rx)
  obtain ⟨got, _⟩ := I1.pin (a, oe) (List.mem_append_left _ List.mem_cons_self)
  obtain ⟨vs, hv⟩ := hf
  obtain ⟨mA, hns, hr⟩ := (show ObjOk X.prog X.w H1 s1.heap dd (.xd fs) from I1.hok dd _ ea)
  obtain ⟨od, ho, hl⟩ := lookIn_ns hns
  obtain ⟨w, hw, rw2⟩ := RelO.some_of (v := v) (o := mA n) (by rw [← l]; exact hr n)
  have J : PySem.W.InstAt s1.heap a oe C (some od) := by
    refine ⟨got, hz.1, ?_, ?_⟩
    · unfold PySem.W.notCls
      rw [hv]
    · rw [hz.2]
      exact ho
  exact HandSPX.exc_get I1.kIn J T.ga T.gg T.exC (PySem.W.findObj_own T.hdC hno rfl (by rw [hl, hw])) (handed_of rw2) ⟨v, H1, I1.tok _, rw2, q⟩
end My

namespace Dm
open PySem PySem.Spec PyProof.Rows L2 My
/-! ### what mirrors tell: comprehensions and loops -/
section
variable {g : D → Dm.Env → Option Dm.Env} {ft : Dm.Env → M Bool} {fe : Dm.Env → M D} {ρ0 : Dm.Env} {s : BS}
/-- a comprehension that draws nothing: members that pass b, told by h -/
theorem comp_pure (b : D → Bool) (h : D → D) : ∀ l, (∀ d ∈ l, ∃ ρ1, g d ρ0 = some ρ1 ∧ ft ρ1 s = .ok (b d) s ∧ (b d = true → fe ρ1 s = .ok (h d) s)) → compL g ft fe ρ0 l s = .ok ((l.filter b).map h) s
  | [], _ => rfl
  | d :: l, H => by
    obtain ⟨ρ1, e1, e2, e3⟩ := H d List.mem_cons_self
    have ih := comp_pure b h l fun x hx => H x (List.mem_cons_of_mem _ hx)
    unfold compL
    simp only [e1, e2]
    cases c : b d with
    | true =>
      simp only [e3 c, ih]
      rw [List.filter_cons_of_pos c, List.map_cons]
    | false =>
      simp only [ih]
      rw [List.filter_cons_of_neg (by rw [c]; exact Bool.false_ne_true)]
theorem comp_map (h : D → D) (l : List D) (H : ∀ d ∈ l, ∃ ρ1, g d ρ0 = some ρ1 ∧ ft ρ1 s = .ok true s ∧ fe ρ1 s = .ok (h d) s) : compL g ft fe ρ0 l s = .ok (l.map h) s := by
  have z := comp_pure (g := g) (ft := ft) (fe := fe) (ρ0 := ρ0) (s := s) (fun _ => true) h l fun d hd => by
    obtain ⟨ρ1, e1, e2, e3⟩ := H d hd
    exact ⟨ρ1, e1, e2, fun _ => e3⟩
  rw [z, List.filter_eq_self.mpr fun _ _ => rfl]
/-- a comprehension that draws: what holds of each member and of the state -/
theorem comp_inv (Pn : Nat → BS → Prop) (R : D → Prop) : ∀ (l : List D) (i : Nat) (s : BS), Pn i s → (∀ d ∈ l, ∀ i s, Pn i s → ∃ ρ1, g d ρ0 = some ρ1 ∧ ft ρ1 s = .ok true s ∧ ∃ y s', fe ρ1 s = .ok y s' ∧ R y ∧ Pn (i + 1) s') →
    ∃ out s', compL g ft fe ρ0 l s = .ok out s' ∧ out.length = l.length ∧ (∀ y ∈ out, R y) ∧ Pn (i + l.length) s'
  | [], i, s, h, _ => ⟨[], s, rfl, rfl, fun y hy => (nomatch hy), h⟩
  | d :: l, i, s, h, H => by
    obtain ⟨ρ1, e1, e2, y, s1, e3, ry, p1⟩ := H d List.mem_cons_self i s h
    obtain ⟨out, s2, e4, hl, hr, p2⟩ := comp_inv Pn R l (i + 1) s1 p1 fun x hx => H x (List.mem_cons_of_mem _ hx)
    refine ⟨y :: out, s2, ?_, by rw [List.length_cons, List.length_cons, hl], fun z hz => ?_, ?_⟩
    · unfold compL
      simp only [e1, e2, e3, e4]
    · rcases List.mem_cons.mp hz with rfl | hz
      · exact ry
      · exact hr z hz
    · rw [List.length_cons, show i + (l.length + 1) = i + 1 + l.length by omega]
      exact p2
end
/-- a loop whose body always goes on: an invariant by the count -/
theorem loop_inv {g : D → Dm.Env → Option Dm.Env} {body : Dm.Env → M Out} (Pn : Nat → Dm.Env → BS → Prop) : ∀ (l : List D) (i : Nat) (ρ : Dm.Env) (s : BS), Pn i ρ s →
    (∀ j d, l[j]? = some d → ∀ ρ s, Pn (i + j) ρ s → ∃ ρ1, g d ρ = some ρ1 ∧ ∃ ρ2 s2, body ρ1 s = .ok (.nx ρ2) s2 ∧ Pn (i + j + 1) ρ2 s2) →
    ∃ ρ' s', loopL g body l ρ s = .ok (.nx ρ') s' ∧ Pn (i + l.length) ρ' s'
  | [], i, ρ, s, h, _ => ⟨ρ, s, rfl, h⟩
  | d :: l, i, ρ, s, h, H => by
    obtain ⟨ρ1, e1, ρ2, s2, e2, h2⟩ := H 0 d rfl ρ s h
    obtain ⟨ρ', s', e3, h3⟩ := loop_inv Pn l (i + 1) ρ2 s2 h2 fun j x hx ρ s hp => by
      have z := H (j + 1) x hx ρ s (by rw [show i + (j + 1) = i + 1 + j by omega]; exact hp)
      rw [show i + (j + 1) = i + 1 + j by omega] at z
      exact z
    refine ⟨ρ', s', ?_, by rw [List.length_cons, show i + (l.length + 1) = i + 1 + l.length by omega]; exact h3⟩
    unfold loopL
    simp only [e1, e2]
    exact e3
end Dm

namespace Dm
open PySem PySem.Spec PyProof.Rows L2 My
/-! ### == of lists and tuples of ints -/
theorem pyL_ints : ∀ ns : List Int, pyL (ns.map D.int) = ns.map PyData.int
  | [] => rfl
  | n :: ns => by
    rw [List.map_cons, pyL, pyL_ints ns, List.map_cons]
    rfl
theorem data_ints : ∀ ns : List Int, isDataL (ns.map D.int) = true
  | [] => rfl
  | n :: ns => by
    rw [List.map_cons, isDataL, data_ints ns]
    rfl
theorem good_ints (ns : List Int) : good (.lst (ns.map D.int)) = true := by
  unfold good
  rw [show isData (.lst (ns.map D.int)) = isDataL (ns.map D.int) by rw [isData], data_ints, show py (.lst (ns.map D.int)) = .list (pyL (ns.map D.int)) by rw [py], pyL_ints, shaped_lst]
  rfl
theorem good_intsT (ns : List Int) : good (.tup (ns.map D.int)) = true := by
  unfold good
  rw [show isData (.tup (ns.map D.int)) = isDataL (ns.map D.int) by rw [isData], data_ints, show py (.tup (ns.map D.int)) = .tuple (pyL (ns.map D.int)) by rw [py], pyL_ints, shaped_tup]
  rfl
theorem deq_ints (ns ms : List Int) : deq (.lst (ns.map D.int)) (.lst (ms.map D.int)) = decide (ns = ms) := by
  unfold deq
  rw [show py (.lst (ns.map D.int)) = .list (pyL (ns.map D.int)) by rw [py], show py (.lst (ms.map D.int)) = .list (pyL (ms.map D.int)) by rw [py], pyL_ints, pyL_ints, PyData.eqv, eqv_ints]
theorem deq_intsT (ns ms : List Int) : deq (.tup (ns.map D.int)) (.tup (ms.map D.int)) = decide (ns = ms) := by
  unfold deq
  rw [show py (.tup (ns.map D.int)) = .tuple (pyL (ns.map D.int)) by rw [py], show py (.tup (ms.map D.int)) = .tuple (pyL (ms.map D.int)) by rw [py], pyL_ints, pyL_ints, PyData.eqv, eqv_ints]
theorem eqD_ints (ns ms : List Int) : eqD (.lst (ns.map D.int)) (.lst (ms.map D.int)) = some (.bl (decide (ns = ms))) := by
  unfold eqD
  rw [good_ints, good_ints, deq_ints]
  rfl
theorem eqD_intsT (ns ms : List Int) : eqD (.tup (ns.map D.int)) (.tup (ms.map D.int)) = some (.bl (decide (ns = ms))) := by
  unfold eqD
  rw [good_intsT, good_intsT, deq_intsT]
  rfl
theorem neD_intsT (ns ms : List Int) : neD (.tup (ns.map D.int)) (.tup (ms.map D.int)) = some (.bl (!decide (ns = ms))) := by
  unfold neD
  rw [good_intsT, good_intsT, deq_intsT]
  rfl
end Dm

namespace Dm
open PySem PySem.Spec PyProof.Rows L2 My
/-! ### type(x) is T -/
def tyName1 : D → Option String
  | .dct _ => none
  | d => tyName d
theorem tyb_of {K : Fr} {H H' : Hp} (s : Same H H') {d : D} {v : V} {n : String} (e : tyName1 d = some n) (r : Rep K H d v) : TyB K H' v n := by
  cases d with
  | non =>
    cases e
    rw [show v = .non from r]
    exact .non
  | bl b =>
    cases e
    rw [show v = .bl b from r]
    exact .bl b
  | int b =>
    cases e
    rw [show v = .int b from r]
    exact .int b
  | str b =>
    cases e
    rw [show v = .str b from r]
    exact .str b
  | lst l =>
    cases e
    obtain ⟨a, vs, rfl, h1, _⟩ := r
    exact .lst (.inl (.inl (s _ _ h1)))
  | tup l =>
    cases e
    obtain ⟨a, vs, rfl, ⟨o, _, h1⟩, _⟩ := r
    exact .tup (.inl (.inr ⟨o, s _ _ h1⟩))
  | tup0 l =>
    cases e
    obtain ⟨a, vs, rfl, h1, _⟩ := r
    exact .tup (sqT_mono s h1)
  | dic l =>
    cases e
    obtain ⟨a, vs, rfl, h1, _⟩ := r
    exact .dK (s _ _ h1)
  | _ => cases e
def typeD : List D → Option D
  | [x] => (tyName1 x).map D.ty
  | _ => none
theorem rc_type {K : Fr} : RC K (rTyp K) typeD := by
  intro F os ρ σ H s Q vs ds d st r e q
  match ds, e with
  | [x], e =>
    obtain ⟨v, rfl, r1⟩ := one_arg r
    have e : (tyName1 x).map D.ty = some d := e
    obtain ⟨t, et, rfl⟩ := Option.map_eq_some_iff.mp e
    exact ⟨v, t, rfl, tyb_of (hid_same _ _) et r1, q _ H Mw.refl st rfl⟩
  | [], e => cases e
  | _ :: _ :: _, e => cases e
def rIsTy : R2 := fun x y H Q => ∃ a b, x = .ty a ∧ y = .ty b ∧ Q (.bl (decide (a = b))) H
def isTyD : D → D → Option D
  | .ty a, .ty b => some (.bl (decide (a = b)))
  | _, _ => none
theorem ro_isTy {K : Fr} : RO K rIsTy isTyD := by
  intro F os ρ σ H s Q x y dx dy d st rx ry e q
  cases dx with
  | ty a =>
    cases dy with
    | ty b =>
      cases e
      exact ⟨a, b, rx, ry, q _ H Mw.refl st rfl⟩
    | _ => cases e
  | _ => cases e
section
variable {P : Program} {w : World} {K : Fr} {mg : Str → Option Value} {base : Heap} {cl : Str → Addr} {E : SK} {Φ : Cxs P w K mg base E} {O : List Nat}
variable {a b e : Expr} {f h : Env → M D} {fs : Env → M (List D)} {pos p : Pos}
theorem cTy (Φ : Cxs P w K mg base E) (j : Φ.ι) : CallR (Φ.X j) (.type "type") (rTyp K) := by have z := @call_type1 (Φ.X j); rwa [Φ.hK j] at z
theorem me_typeC (hg : ∀ j, Gl (Φ.X j) "type") (hm : mg "type" = none) (ha : MA Φ cl O [e] fs) (he : ∀ env, starEach [e] env = (false, eval e env) :: starEach [] env := by intro _; rfl) :
    ME Φ cl O (.Call (.Name "type" p) [e] [] pos) (fCall typeD fs) := me_callTy (cTy Φ) (rc_type (K := K)) hg hm (by decide +kernel) ha (he := he)
theorem me_isTy (ha : ME Φ cl O a f) (hb : ME Φ cl O b h) : ME Φ cl O (.Compare a [.Is] [b] pos) (fOp isTyD f h) := me_cmp (fun j => op_isTyB) ro_isTy ha hb (nomark _)
theorem mt_isTy (ha : ME Φ cl O a f) (hb : ME Φ cl O b h) : MT Φ cl O (.Compare a [.Is] [b] pos) (fTr (fOp isTyD f h)) := mt_cmp (fun j => op_isTyB) ro_isTy ha hb (nomark _)
end
end Dm

namespace Dm
open PySem PySem.Spec PyProof.Rows L2 My
/-! ### a string so many times -/
def rMulS : R2 := fun x y H Q => ∃ z k, x = .str z ∧ y = .int k ∧ z.length ≤ 1000 ∧ -1000 ≤ k ∧ k ≤ 1000 ∧ Q (.str (Txt.mul z k)) H
theorem op_mulS {X : Cx} : OpR X (binaryOp .Mult) rMulS := by
  intro pins s σ H x y v u Q I rx ry h
  obtain ⟨z, k, rfl, rfl, h1, h2, h3, q⟩ := h
  obtain ⟨t, rfl⟩ := rx
  obtain ⟨t', rfl⟩ := ry
  exact SB.mul (mulOk_of 1000 1000 h1 h3 (by omega) (by decide) (by decide)) fun t' k' => ⟨.str (Txt.mul z k), H, I.tok _, ⟨_, rfl⟩, q⟩
def mulSD : D → D → Option D
  | .str z, .int k => if (decide (z.length ≤ 1000) && decide (-1000 ≤ k) && decide (k ≤ 1000)) = true then some (.str (Txt.mul z k)) else none
  | _, _ => none
theorem ro_mulS {K : Fr} : RO K rMulS mulSD := by
  intro F os ρ σ H s Q x y dx dy d st rx ry e q
  cases dx with
  | str z =>
    cases dy with
    | int k =>
      obtain ⟨g, rfl⟩ := ite_some (c := (decide (z.length ≤ 1000) && decide (-1000 ≤ k) && decide (k ≤ 1000))) (a := D.str (Txt.mul z k)) e
      rw [Bool.and_eq_true, Bool.and_eq_true] at g
      exact ⟨z, k, rx, ry, of_decide_eq_true g.1.1, of_decide_eq_true g.1.2, of_decide_eq_true g.2, q _ H Mw.refl st rfl⟩
    | _ => cases e
  | _ => cases e
section
variable {P : Program} {w : World} {K : Fr} {mg : Str → Option Value} {base : Heap} {cl : Str → Addr} {E : SK} {Φ : Cxs P w K mg base E} {O : List Nat} {a b : Expr} {f h : Env → M D} {pos : Pos}
theorem me_mulS (ha : ME Φ cl O a f) (hb : ME Φ cl O b h) : ME Φ cl O (.BinOp a .Mult b pos) (fOp mulSD f h) := me_op (fun j => op_mulS) ro_mulS ha hb
end
/-! ### what mirrors tell, step by step -/
theorem then_nx {f g : Dm.Env → M Out} {ρ ρ1 : Dm.Env} {s s1 : BS} (h : f ρ s = .ok (.nx ρ1) s1) : fThen f g ρ s = g ρ1 s1 := by
  unfold fThen
  rw [h]
theorem then_rt {f g : Dm.Env → M Out} {ρ : Dm.Env} {s s1 : BS} {d : D} (h : f ρ s = .ok (.rt d) s1) : fThen f g ρ s = .ok (.rt d) s1 := by
  unfold fThen
  rw [h]
theorem then_exc {f g : Dm.Env → M Out} {ρ : Dm.Env} {s s1 : BS} {nm : Str} {fs : List (Str × D)} (h : f ρ s = .exc nm fs s1) : fThen f g ρ s = .exc nm fs s1 := by
  unfold fThen
  rw [h]
theorem set_ok {i : Nat} {f : Dm.Env → M D} {ρ : Dm.Env} {s s1 : BS} {d : D} (h : f ρ s = .ok d s1) : fSet i f ρ s = .ok (.nx (ρ.set i (some d))) s1 := by
  unfold fSet bnd
  rw [h]
theorem setF_ok {i : Nat} {f : Dm.Env → M (List D)} {ρ : Dm.Env} {s s1 : BS} {d : List D} (h : f ρ s = .ok d s1) : fSetF i f ρ s = .ok (.nx (ρ.set i (some (.lst d)))) s1 := by
  unfold fSetF bnd
  rw [h]
theorem cons_ok {f : Dm.Env → M D} {g : Dm.Env → M (List D)} {ρ : Dm.Env} {s s1 s2 : BS} {d : D} {l : List D} (h : f ρ s = .ok d s1) (h2 : g ρ s1 = .ok l s2) : fCons f g ρ s = .ok (d :: l) s2 := by
  unfold fCons bnd
  rw [h]
  simp only [h2]
theorem nil_ok {ρ : Dm.Env} {s : BS} : fNil ρ s = .ok [] s := rfl
theorem own_ok {n : Nat} {m : List D → M D} {fs : Dm.Env → M (List D)} {ρ : Dm.Env} {s s1 s2 : BS} {l : List D} {d : D} (h : fs ρ s = .ok l s1) (hl : l.length = n) (h2 : m l s1 = .ok d s2) : fOwn n m fs ρ s = .ok d s2 := by
  unfold fOwn bnd
  rw [h]
  simp only [hl, if_true, h2]
theorem own_exc {n : Nat} {m : List D → M D} {fs : Dm.Env → M (List D)} {ρ : Dm.Env} {s s1 s2 : BS} {l : List D} {nm : Str} {e : List (Str × D)} (h : fs ρ s = .ok l s1) (hl : l.length = n) (h2 : m l s1 = .exc nm e s2) : fOwn n m fs ρ s = .exc nm e s2 := by
  unfold fOwn bnd
  rw [h]
  simp only [hl, if_true, h2]
theorem op_ok {g : D → D → Option D} {f h : Dm.Env → M D} {ρ : Dm.Env} {s s1 s2 : BS} {x y z : D} (hf : f ρ s = .ok x s1) (hh : h ρ s1 = .ok y s2) (hg : g x y = some z) : fOp g f h ρ s = .ok z s2 := by
  unfold fOp bnd
  rw [hf]
  simp only [hh, lift, hg]
theorem call_ok {g : List D → Option D} {fs : Dm.Env → M (List D)} {ρ : Dm.Env} {s s1 : BS} {l : List D} {z : D} (hf : fs ρ s = .ok l s1) (hg : g l = some z) : fCall g fs ρ s = .ok z s1 := by
  unfold fCall bnd
  rw [hf]
  simp only [lift, hg]
theorem var_ok {i : Nat} {ρ : Dm.Env} {s : BS} {d : D} (h : ρ[i]? = some (some d)) : fVar i ρ s = .ok d s := by
  unfold fVar
  rw [h]
theorem asg_ok {f : Dm.Env → M D} {g : D → Dm.Env → Option Dm.Env} {ρ ρ1 : Dm.Env} {s s1 : BS} {d : D} (h : f ρ s = .ok d s1) (hg : g d ρ = some ρ1) : fAsg f g ρ s = .ok (.nx ρ1) s1 := by
  unfold fAsg bnd
  rw [h]
  simp only [hg]
theorem tup_ok {fs : Dm.Env → M (List D)} {ρ : Dm.Env} {s s1 : BS} {l : List D} (h : fs ρ s = .ok l s1) (hl : szOk l.length = true) : fTup fs ρ s = .ok (.tup l) s1 := by
  unfold fTup bnd
  rw [h]
  simp only [hl, if_true]
theorem lst_ok {fs : Dm.Env → M (List D)} {ρ : Dm.Env} {s s1 : BS} {l : List D} (h : fs ρ s = .ok l s1) (hl : szOk l.length = true) : fLst fs ρ s = .ok (.lst l) s1 := by
  unfold fLst bnd
  rw [h]
  simp only [hl, if_true]
theorem fL_ok {f : Dm.Env → M (List D)} {ρ : Dm.Env} {s s1 : BS} {l : List D} (h : f ρ s = .ok l s1) : fL f ρ s = .ok (.lst l) s1 := by
  unfold fL bnd
  rw [h]
theorem if_ok {α : Type} {c : Dm.Env → M Bool} {f g : Dm.Env → M α} {ρ : Dm.Env} {s s1 : BS} {b : Bool} (h : c ρ s = .ok b s1) : fIf c f g ρ s = if b = true then f ρ s1 else g ρ s1 := by
  unfold fIf bnd
  rw [h]
  cases b <;> rfl
theorem ret_ok {f : Dm.Env → M D} {ρ : Dm.Env} {s s1 : BS} {d : D} (h : f ρ s = .ok d s1) : fRet f ρ s = .ok (.rt d) s1 := by
  unfold fRet bnd
  rw [h]
theorem ext_ok {i : Nat} {f : Dm.Env → M D} {ρ : Dm.Env} {s s1 : BS} {l m : List D} (ho : ownL i ρ = some l) (h : f ρ s = .ok (.lst m) s1) (hz : l.length + m.length ≤ 16000000) : fExt i f ρ s = .ok (.nx (ρ.set i (some (.lst (l ++ m))))) s1 := by
  unfold fExt bnd
  rw [ho]
  simp only [h, szOk, decide_eq_true hz, if_true]
theorem app_ok {i : Nat} {f : Dm.Env → M D} {ρ : Dm.Env} {s s1 : BS} {l : List D} {d : D} (ho : ownL i ρ = some l) (h : f ρ s = .ok d s1) (hz : l.length ≤ 16000000) : fApp i f ρ s = .ok (.nx (ρ.set i (some (.lst (l ++ [d]))))) s1 := by
  unfold fApp bnd
  rw [ho]
  simp only [h, szOk, decide_eq_true hz, if_true]
theorem setI_ok {i j : Nat} {fk fv : Dm.Env → M D} {ρ : Dm.Env} {s s1 s2 : BS} {l : List D} {k : Int} {d : D} (hv : fv ρ s = .ok d s1) (ho : ownL i ρ = some l) (hk : fk ρ s1 = .ok (.int k) s2) (hj : ixN l.length k = some j) : fSetI i fk fv ρ s = .ok (.nx (ρ.set i (some (.lst (l.set j d))))) s2 := by
  unfold fSetI bnd
  rw [hv, ho]
  simp only [hk, hj]
theorem for_ok {fi : Dm.Env → M (List D)} {g : D → Dm.Env → Option Dm.Env} {body : Dm.Env → M Out} {ρ : Dm.Env} {s s1 : BS} {l : List D} (h : fi ρ s = .ok l s1) : fFor fi g body ρ s = loopL g body l ρ s1 := by
  unfold fFor bnd
  rw [h]
theorem fn_rt {n : Nat} {m : Dm.Env → M Out} {ds : List D} {s s1 : BS} {d : D} (h : m (ds.map some ++ List.replicate (n - ds.length) none) s = .ok (.rt d) s1) : fnM n m ds s = .ok d s1 := by
  unfold fnM
  rw [h]
theorem fn_exc {n : Nat} {m : Dm.Env → M Out} {ds : List D} {s s1 : BS} {nm : Str} {e : List (Str × D)} (h : m (ds.map some ++ List.replicate (n - ds.length) none) s = .exc nm e s1) : fnM n m ds s = .exc nm e s1 := by
  unfold fnM
  rw [h]
theorem szOk_le {n : Nat} (h : n ≤ 16000000) : szOk n = true := decide_eq_true h
section
variable {α : Type} {g : D → Dm.Env → Option Dm.Env} {ft : Dm.Env → M Bool} {fe : Dm.Env → M D} {ρ0 ρ : Dm.Env} {s s1 : BS}
theorem comp_of (xs : List α) (ι v : α → D) (p : α → Bool) (H : ∀ x ∈ xs, ∃ ρ1, g (ι x) ρ0 = some ρ1 ∧ ft ρ1 s = .ok (p x) s ∧ (p x = true → fe ρ1 s = .ok (v x) s)) :
    compL g ft fe ρ0 (xs.map ι) s = .ok ((xs.filter p).map v) s := by
  induction xs with
  | nil => rfl
  | cons x xs ih =>
    obtain ⟨ρ1, e1, e2, e3⟩ := H x List.mem_cons_self
    have ih := ih fun y hy => H y (List.mem_cons_of_mem _ hy)
    rw [List.map_cons]
    unfold compL
    simp only [e1, e2]
    cases c : p x with
    | true =>
      simp only [e3 c, ih]
      rw [List.filter_cons_of_pos c, List.map_cons]
    | false =>
      simp only [ih]
      rw [List.filter_cons_of_neg (by rw [c]; exact Bool.false_ne_true)]
theorem comp_all (xs : List α) (ι v : α → D) (H : ∀ x ∈ xs, ∃ ρ1, g (ι x) ρ0 = some ρ1 ∧ ft ρ1 s = .ok true s ∧ fe ρ1 s = .ok (v x) s) : compL g ft fe ρ0 (xs.map ι) s = .ok (xs.map v) s := by
  have z := comp_of (g := g) (ft := ft) (fe := fe) (ρ0 := ρ0) (s := s) xs ι v (fun _ => true) fun x hx => by
    obtain ⟨ρ1, e1, e2, e3⟩ := H x hx
    exact ⟨ρ1, e1, e2, fun _ => e3⟩
  rw [z, List.filter_eq_self.mpr fun _ _ => rfl]
variable {vs : List Nat} {fi : Dm.Env → M (List D)}
theorem lc_of (xs : List α) (ι v : α → D) (p : α → Bool) (hi : fi ρ s = .ok (xs.map ι) s1) (hl : xs.length ≤ 16000000)
    (H : ∀ x ∈ xs, ∃ ρ1, g (ι x) (wipeE ρ vs) = some ρ1 ∧ ft ρ1 s1 = .ok (p x) s1 ∧ (p x = true → fe ρ1 s1 = .ok (v x) s1)) : fLc vs fi g ft fe ρ s = .ok ((xs.filter p).map v) s1 := by
  unfold fLc bnd
  rw [hi]
  simp only [comp_of xs ι v p H]
  rw [if_pos (szOk_le (by rw [List.length_map]; exact Nat.le_trans (List.length_filter_le _ _) hl))]
theorem lc_all (xs : List α) (ι v : α → D) (hi : fi ρ s = .ok (xs.map ι) s1) (hl : xs.length ≤ 16000000)
    (H : ∀ x ∈ xs, ∃ ρ1, g (ι x) (wipeE ρ vs) = some ρ1 ∧ ft ρ1 s1 = .ok true s1 ∧ fe ρ1 s1 = .ok (v x) s1) : fLc vs fi g ft fe ρ s = .ok (xs.map v) s1 := by
  unfold fLc bnd
  rw [hi]
  simp only [comp_all xs ι v H]
  rw [if_pos (szOk_le (by rw [List.length_map]; exact hl))]
end
/-- a loop that draws nothing -/
theorem loop_some {α : Type} {g : D → Dm.Env → Option Dm.Env} {body : Dm.Env → M Out} {s : BS} (xs : List α) (ι : α → D) (Pn : Nat → Dm.Env → Prop) {ρ : Dm.Env} (h : Pn 0 ρ)
    (H : ∀ j x ρ, xs[j]? = some x → Pn j ρ → ∃ ρ1, g (ι x) ρ = some ρ1 ∧ ∃ ρ2, body ρ1 s = .ok (.nx ρ2) s ∧ Pn (j + 1) ρ2) : ∃ ρ', loopL g body (xs.map ι) ρ s = .ok (.nx ρ') s ∧ Pn xs.length ρ' := by
  obtain ⟨ρ', s', e, h2, rfl⟩ := loop_inv (g := g) (body := body) (fun j ρ s' => Pn j ρ ∧ s' = s) (xs.map ι) 0 ρ s ⟨h, rfl⟩ fun j d hd ρ s' hp => by
    obtain ⟨hp, rfl⟩ := hp
    rw [Nat.zero_add] at hp ⊢
    rw [List.getElem?_map] at hd
    obtain ⟨x, hx, rfl⟩ := Option.map_eq_some_iff.mp hd
    obtain ⟨ρ1, e1, ρ2, e2, p2⟩ := H j x ρ hx hp
    exact ⟨ρ1, e1, ρ2, _, e2, p2, rfl⟩
  rw [Nat.zero_add, List.length_map] at h2
  exact ⟨ρ', e, h2⟩
/-- a comprehension that draws, by the count -/
theorem comp_invI {g : D → Dm.Env → Option Dm.Env} {ft : Dm.Env → M Bool} {fe : Dm.Env → M D} {ρ0 : Dm.Env} (Pn : Nat → BS → Prop) (R : Nat → D → Prop) : ∀ (l : List D) (i : Nat) (s : BS), Pn i s →
    (∀ j d, l[j]? = some d → ∀ s, Pn (i + j) s → ∃ ρ1, g d ρ0 = some ρ1 ∧ ft ρ1 s = .ok true s ∧ ∃ y s', fe ρ1 s = .ok y s' ∧ R (i + j) y ∧ Pn (i + j + 1) s') →
    ∃ out s', compL g ft fe ρ0 l s = .ok out s' ∧ out.length = l.length ∧ (∀ j y, out[j]? = some y → R (i + j) y) ∧ Pn (i + l.length) s'
  | [], i, s, h, _ => ⟨[], s, rfl, rfl, fun j y hy => by simp at hy, h⟩
  | d :: l, i, s, h, H => by
    obtain ⟨ρ1, e1, e2, y, s1, e3, ry, p1⟩ := H 0 d rfl s h
    obtain ⟨out, s2, e4, hl, hr, p2⟩ := comp_invI Pn R l (i + 1) s1 p1 fun j x hx s hp => by
      have z := H (j + 1) x hx s (by rw [show i + (j + 1) = i + 1 + j by omega]; exact hp)
      rw [show i + (j + 1) = i + 1 + j by omega] at z
      exact z
    refine ⟨y :: out, s2, ?_, by rw [List.length_cons, List.length_cons, hl], fun j z hz => ?_, ?_⟩
    · unfold compL
      simp only [e1, e2, e3, e4]
    · match j, hz with
      | 0, hz =>
        cases hz
        exact ry
      | j + 1, hz =>
        rw [show i + (j + 1) = i + 1 + j by omega]
        exact hr j z hz
    · rw [List.length_cons, show i + (l.length + 1) = i + 1 + l.length by omega]
      exact p2
/-! rows of numbers -/
/-- a row of numbers, told -/
def nD (r : List Nat) : List D := r.map fun (x : Nat) => .int (x : Int)
theorem nD_len (r : List Nat) : (nD r).length = r.length := by
  unfold nD
  rw [List.length_map]
theorem nD_get {r : List Nat} {i x : Nat} (h : r[i]? = some x) : (nD r)[i]? = some (.int (x : Int)) := by
  unfold nD
  rw [List.getElem?_map, h]
  rfl
theorem nD_app (a b : List Nat) : nD (a ++ b) = nD a ++ nD b := by
  unfold nD
  rw [List.map_append]
theorem nD_ints (r : List Nat) : nD r = (r.map fun (x : Nat) => (x : Int)).map D.int := by
  unfold nD
  rw [List.map_map]
  rfl
theorem nD_inj {a b : List Nat} : (a.map fun (x : Nat) => (x : Int)) = (b.map fun (x : Nat) => (x : Int)) ↔ a = b :=
  ⟨fun h => (List.map_inj_right (fun x y e => Int.ofNat_inj.mp e)).mp h, fun h => by rw [h]⟩
theorem rgN (n : Nat) : rgD 0 n = nD (List.range n) := List.map_congr_left fun i _ => by rw [Int.zero_add]
theorem deqN (a b : List Nat) : decide ((a.map fun (x : Nat) => (x : Int)) = (b.map fun (x : Nat) => (x : Int))) = decide (a = b) := by
  by_cases c : a = b
  · rw [decide_eq_true c, decide_eq_true (nD_inj.mpr c)]
  · rw [decide_eq_false c, decide_eq_false (fun z => c (nD_inj.mp z))]
theorem eqD_nT (a b : List Nat) : eqD (.tup (nD a)) (.tup (nD b)) = some (.bl (decide (a = b))) := by rw [nD_ints, nD_ints, eqD_intsT, deqN]
theorem neD_nT (a b : List Nat) : neD (.tup (nD a)) (.tup (nD b)) = some (.bl (!decide (a = b))) := by rw [nD_ints, nD_ints, neD_intsT, deqN]
theorem eqD_nL (a b : List Nat) : eqD (.lst (nD a)) (.lst (nD b)) = some (.bl (decide (a = b))) := by rw [nD_ints, nD_ints, eqD_ints, deqN]
theorem neD_nL (a b : List Nat) : neD (.lst (nD a)) (.lst (nD b)) = some (.bl (!decide (a = b))) := by
  rw [nD_ints, nD_ints, ← deqN]
  unfold neD
  rw [good_ints, good_ints, deq_ints]
  rfl
theorem atI_n {b : List Nat} {x : Nat} (h : x < b.length) : atI (nD b) (x : Int) = some (.int ((b.getD x 0 : Nat) : Int)) :=
  atI_nat (nD_get (by rw [List.getD_eq_getElem?_getD, List.getElem?_eq_getElem h]; rfl))
theorem ixD_nT {b : List Nat} {x : Nat} (h : x < b.length) : ixD (.tup (nD b)) (.int (x : Int)) = some (.int ((b.getD x 0 : Nat) : Int)) := atI_n h
theorem ixD_nL {b : List Nat} {x : Nat} (h : x < b.length) : ixD (.lst (nD b)) (.int (x : Int)) = some (.int ((b.getD x 0 : Nat) : Int)) := atI_n h
end Dm

namespace Dm
open PySem PySem.Spec PyProof.Rows L2 My
/-! ### values that == takes -/
def gd (k : Nat) (x : D) : Bool := isData x && (py x).canLay0 && decide ((py x).depth ≤ k)
theorem gd_good {x : D} (h : gd 64 x = true) : good x = true := by
  unfold gd at h
  rw [Bool.and_eq_true, Bool.and_eq_true] at h
  show (isData x && ((py x).canLay0 && decide ((py x).depth ≤ 64))) = true
  rw [h.1.1, h.1.2, h.2]
  rfl
theorem gd_mono {k m : Nat} {x : D} (h : gd k x = true) (l : k ≤ m) : gd m x = true := by
  unfold gd at h ⊢
  rw [Bool.and_eq_true, Bool.and_eq_true] at h
  have := of_decide_eq_true h.2
  rw [h.1.1, h.1.2, decide_eq_true (show (py x).depth ≤ m by omega)]
  rfl
theorem gd_all {k : Nat} : ∀ {l : List D}, (∀ x ∈ l, gd k x = true) → isDataL l = true ∧ PyData.canLayAll0 (pyL l) = true ∧ PyData.depthAll (pyL l) ≤ k
  | [], _ => ⟨rfl, rfl, Nat.zero_le _⟩
  | x :: l, h => by
    obtain ⟨h1, h2, h3⟩ := gd_all fun y hy => h y (List.mem_cons_of_mem _ hy)
    have h0 := h x List.mem_cons_self
    unfold gd at h0
    rw [Bool.and_eq_true, Bool.and_eq_true] at h0
    have hd := of_decide_eq_true h0.2
    refine ⟨?_, ?_, ?_⟩
    · rw [isDataL, h0.1.1, h1]
      rfl
    · rw [pyL, PyData.canLayAll0, h0.1.2, h2]
      rfl
    · rw [pyL, PyData.depthAll]
      exact Nat.max_le.mpr ⟨hd, h3⟩
theorem gd_lst {k : Nat} {l : List D} (h : ∀ x ∈ l, gd k x = true) : gd (k + 1) (.lst l) = true := by
  obtain ⟨h1, h2, h3⟩ := gd_all h
  unfold gd
  rw [isData, h1, py, PyData.canLay0, h2, PyData.depth, decide_eq_true (by omega)]
  rfl
theorem gd_tup {k : Nat} {l : List D} (h : ∀ x ∈ l, gd k x = true) : gd (k + 1) (.tup l) = true := by
  obtain ⟨h1, h2, h3⟩ := gd_all h
  unfold gd
  rw [isData, h1, py, PyData.canLay0, h2, PyData.depth, decide_eq_true (by omega)]
  rfl
theorem gd_tup0 {k : Nat} {l : List D} (h : ∀ x ∈ l, gd k x = true) : gd (k + 1) (.tup0 l) = true := by
  obtain ⟨h1, h2, h3⟩ := gd_all h
  unfold gd
  rw [isData, h1, py, PyData.canLay0, h2, PyData.depth, decide_eq_true (by omega)]
  rfl
theorem gd_int (i : Int) : gd 0 (.int i) = true := rfl
theorem gd_n {r : List Nat} : ∀ x ∈ nD r, gd 0 x = true := fun x hx => by
  obtain ⟨z, _, rfl⟩ := List.mem_map.mp hx
  rfl
theorem eqD_self {x : D} (h : gd 64 x = true) : eqD x x = some (.bl true) := by
  have g := gd_good h
  unfold gd at h
  rw [Bool.and_eq_true, Bool.and_eq_true] at h
  unfold eqD deq
  rw [g, SeqAt.eqv_refl _ h.1.2]
  rfl
theorem neD_self {x : D} (h : gd 64 x = true) : neD x x = some (.bl false) := by
  have g := gd_good h
  unfold gd at h
  rw [Bool.and_eq_true, Bool.and_eq_true] at h
  unfold neD deq
  rw [g, SeqAt.eqv_refl _ h.1.2]
  rfl
theorem gdL (r : List Nat) : gd 64 (.lst (nD r)) = true := gd_mono (gd_lst gd_n) (by decide)
theorem gdT (r : List Nat) : gd 64 (.tup (nD r)) = true := gd_mono (gd_tup gd_n) (by decide)
/-! ### steps, for a search -/
section
variable {ρ ρ1 : Dm.Env} {s s1 s2 : BS}
theorem c_ok {d : D} : fC d ρ s = .ok d s := rfl
theorem then_ok {f g : Dm.Env → M Out} {R : Res Out} (h : f ρ s = .ok (.nx ρ1) s1) (h2 : g ρ1 s1 = R) : fThen f g ρ s = R := (then_nx h).trans h2
theorem skip_ok {c : Dm.Env → M Bool} {f : Dm.Env → M Out} (h : c ρ s = .ok false s1) : fIf c f fSkip ρ s = .ok (.nx ρ) s1 := if_ok h
theorem ifT_ok {α : Type} {c : Dm.Env → M Bool} {f g : Dm.Env → M α} {R : Res α} (h : c ρ s = .ok true s1) (h2 : f ρ s1 = R) : fIf c f g ρ s = R := (if_ok h).trans h2
theorem ifF_ok {α : Type} {c : Dm.Env → M Bool} {f g : Dm.Env → M α} {R : Res α} (h : c ρ s = .ok false s1) (h2 : g ρ s1 = R) : fIf c f g ρ s = R := (if_ok h).trans h2
theorem tr_ok {f : Dm.Env → M D} {b : Bool} (h : f ρ s = .ok (.bl b) s1) : fTr f ρ s = .ok b s1 := by
  unfold fTr bnd
  rw [h]
theorem not_t {f : Dm.Env → M Bool} (h : f ρ s = .ok true s1) : fNotT f ρ s = .ok false s1 := by
  unfold fNotT bnd
  rw [h]
  rfl
theorem not_f {f : Dm.Env → M Bool} (h : f ρ s = .ok false s1) : fNotT f ρ s = .ok true s1 := by
  unfold fNotT bnd
  rw [h]
  rfl
theorem or_ff {f g : Dm.Env → M Bool} {b : Bool} (h : f ρ s = .ok false s1) (h2 : g ρ s1 = .ok b s2) : fOrT f g ρ s = .ok b s2 := by
  unfold fOrT bnd
  rw [h]
  simp only [Bool.false_eq_true, if_false, h2]
theorem or_t {f g : Dm.Env → M Bool} (h : f ρ s = .ok true s1) : fOrT f g ρ s = .ok true s1 := by
  unfold fOrT bnd
  rw [h]
  simp only [if_true]
theorem and_tt {f g : Dm.Env → M Bool} {b : Bool} (h : f ρ s = .ok true s1) (h2 : g ρ s1 = .ok b s2) : fAndT f g ρ s = .ok b s2 := by
  unfold fAndT bnd
  rw [h]
  simp only [if_true, h2]
theorem and_f {f g : Dm.Env → M Bool} (h : f ρ s = .ok false s1) : fAndT f g ρ s = .ok false s1 := by
  unfold fAndT bnd
  rw [h]
  simp only [Bool.false_eq_true, if_false]
theorem andV_tt {f g : Dm.Env → M D} {d : D} (h : f ρ s = .ok (.bl true) s1) (h2 : g ρ s1 = .ok d s2) : fAndV f g ρ s = .ok d s2 := by
  unfold fAndV bnd
  rw [h]
  simp only [if_true, h2]
theorem andV_f {f g : Dm.Env → M D} (h : f ρ s = .ok (.bl false) s1) : fAndV f g ρ s = .ok (.bl false) s1 := by
  unfold fAndV bnd
  rw [h]
  simp only [Bool.false_eq_true, if_false]
theorem orV_t {f g : Dm.Env → M D} (h : f ρ s = .ok (.bl true) s1) : fOrV f g ρ s = .ok (.bl true) s1 := by
  unfold fOrV bnd
  rw [h]
  simp only [if_true]
theorem orV_ff {f g : Dm.Env → M D} {d : D} (h : f ρ s = .ok (.bl false) s1) (h2 : g ρ s1 = .ok d s2) : fOrV f g ρ s = .ok d s2 := by
  unfold fOrV bnd
  rw [h]
  simp only [Bool.false_eq_true, if_false, h2]
theorem ownK_ok {n : Nat} {m : List D → M D} {pm : Perm2} {fs gs : Dm.Env → M (List D)} {us ws l : List D} {d : D} {s3 : BS} (h : fs ρ s = .ok us s1) (h2 : gs ρ s1 = .ok ws s2) (hp : pm.g us ws = l) (hl : l.length = n) (h3 : m l s2 = .ok d s3) : fOwnK n m pm fs gs ρ s = .ok d s3 := by
  subst hp
  unfold fOwnK bnd
  rw [h]
  simp only [h2, hl, if_true, h3]
theorem un_ok {g : D → Option D} {f : Dm.Env → M D} {x z : D} (h : f ρ s = .ok x s1) (hg : g x = some z) : fUn g f ρ s = .ok z s1 := by
  unfold fUn bnd
  rw [h]
  simp only [lift, hg]
theorem seqo_ok {f : Dm.Env → M D} {d : D} {l : List D} (h : f ρ s = .ok d s1) (hs : seqOf d = some l) : fSeq f ρ s = .ok l s1 := by
  unfold fSeq bnd
  rw [h]
  simp only [lift, hs]
theorem fF_ok {fs : Dm.Env → M (List D)} {l : List D} (h : fs ρ s = .ok l s1) (hl : szOk l.length = true) : fF fs ρ s = .ok l s1 := by
  unfold fF bnd
  rw [h]
  simp only [hl, if_true]
theorem par_ok {i j : Nat} {fs : Dm.Env → M (List D)} {x y : D} (h : fs ρ s = .ok [x, y] s1) : fPar i j fs ρ s = .ok (.nx ((ρ.set i (some x)).set j (some y))) s1 := by
  unfold fPar bnd
  rw [h]
theorem par3_ok {i j k : Nat} {fs : Dm.Env → M (List D)} {x y z : D} (h : fs ρ s = .ok [x, y, z] s1) : fPar3 i j k fs ρ s = .ok (.nx (((ρ.set i (some x)).set j (some y)).set k (some z))) s1 := by
  unfold fPar3 bnd
  rw [h]
theorem slice_ok {f : Dm.Env → M D} {g h : Dm.Env → M (Option Int)} {x z : D} {lo hi : Option Int} {s3 : BS} (e1 : f ρ s = .ok x s1) (e2 : g ρ s1 = .ok lo s2) (e3 : h ρ s2 = .ok hi s3) (e4 : slD x lo hi = some z) : fSl f g h ρ s = .ok z s3 := by
  unfold fSl bnd
  rw [e1]
  simp only [e2, e3, lift, e4]
theorem part_ok {f : Dm.Env → M D} {i : Int} (h : f ρ s = .ok (.int i) s1) : fPart f ρ s = .ok (some i) s1 := by
  unfold fPart bnd
  rw [h]
theorem partN_ok : fPartN ρ s = .ok none s := rfl
end
theorem sz0 : szOk 0 = true := rfl
theorem sz1 : szOk 1 = true := rfl
theorem sz2 : szOk 2 = true := rfl
theorem sz3 : szOk 3 = true := rfl
theorem sz4 : szOk 4 = true := rfl
theorem sz5 : szOk 5 = true := rfl
theorem sz6 : szOk 6 = true := rfl
theorem sz7 : szOk 7 = true := rfl
theorem isi_tup (l : List D) : isiD [.tup l, .ty "tuple"] = some (.bl true) := by
  have e : kitB "tuple" "tuple" = some true := by decide +kernel
  show (isiB (.tup l) "tuple").map D.bl = _
  rw [show isiB (.tup l) "tuple" = kitB "tuple" "tuple" from rfl, e]
  rfl
end Dm

/-! ### xs[a:c] = ys, where c may lie beyond the end -/
namespace L2
open PySem PySem.Spec PyProof.Rows
theorem bounds_cut {a c n : Nat} (ha : a ≤ n) (hac : a ≤ c) : sliceBounds (some (a : Int)) (some (c : Int)) none n = ((a : Int), ((min c n : Nat) : Int), 1) := by
  have n1 : ¬ ((a : Int) < 0) := by omega
  have n2 : ¬ ((c : Int) < 0) := by omega
  have p1 : (1 : Int) > 0 := by decide
  simp only [sliceBounds, Option.getD_none, n1, n2, if_false, p1, if_true]
  refine Prod.ext ?_ (Prod.ext ?_ rfl)
  · show max 0 (min (a : Int) (n : Int)) = a
    omega
  · show max 0 (min (c : Int) (n : Int)) = ((min c n : Nat) : Int)
    omega
section
variable {prog : Program} {w : World} {A : Around} {E : Value → Shared → Prop} {s : Shared}
set_option maxRecDepth 100000 in
theorem setItem_cut {p b k : Addr} {its ws : Array Value} {n m : Nat} {v1 v2 : Value} {a c : Nat} {Q : Unit → Shared → Prop} (ep : s.heap.get? p = some { cls := .type "list", data := .seq its n })
    (eb : s.heap.get? b = some { cls := .type "list", data := .seq ws m }) (hne : p ≠ b) (hk : s.heap.IsSliceOf k v1 v2 .none) (q1 : IsPart v1 (some (a : Int))) (q2 : IsPart v2 (some (c : Int))) (hac : a ≤ c) (ha : a ≤ its.size)
    (sz : its.size + ws.size ≤ sizeLine) (h : Q () { s with heap := s.heap.update p (Obj.mapSeq fun xs => xs.extract 0 a ++ ws ++ xs.extract (min c its.size) xs.size) }) : wpAny (model prog w) A (setItem (.ref p) (.ref k) (.ref b)) Q E s := by
  have lp : s.heap.IsList p its := PySem.IsL.isList ep
  have lb : s.heap.IsList b ws := PySem.IsL.isList eb
  obtain ⟨ok, o1, o2, o3⟩ := id hk
  have tk : s.TypeIs (.ref k) "slice" := ⟨ok, o1, o2⟩
  have z0 : ¬ ((rawPart none == rawInt 0) = true) := fun z => Bool.false_ne_true z
  have other : Builtin.List.listSameRef (.ref p) (.ref b) = false := by unfold Builtin.List.listSameRef; exact beq_eq_false_iff_ne.mpr hne
  have top : (max (a : Int) (((min c its.size : Nat)) : Int)).toNat = min c its.size := by omega
  have few : ((fun xs : Array Value => xs.extract 0 a ++ ws ++ xs.extract (min c its.size) xs.size) its).size ≤ sizeLine + 1 := by simp only [Array.size_append, Array.size_extract]; omega
  unfold setItem
  try with_reducible apply wpAny_holding
  first | apply wpAny_bind (wpAny_pure ?_) | skip
  refine wpAny_bind (wpAny_sequenceKey lp.typeIs (by decide) (wpAny_bind (wpAny_callSpecial?_slot (name := Str.ofString "__setitem__") lp.typeIs slot_list_setitem (wpAny_call_entry slot_list_setitem lp.typeIs entry_list_setitem ?_ (args_list_setitem _ _ _)))))
  show wpAny _ _ (Builtin.List.listSubscript? (.ref k) >>= _) _ _ s
  apply wpAny_bind
  unfold Builtin.List.listSubscript?
  refine wpAny_bind (wpAny_specialOf tk slice_no_index ?_)
  simp only [Option.isNone_none, if_true]
  apply wpAny_pure
  show wpAny _ _ (typeOf (.ref k) >>= _) _ _ s
  refine wpAny_bind (wpAny_typeOf tk ?_)
  first | rw [if_neg (by decide)] | apply PySem.W.KFB.if_not (by decide)
  rw [listSliceParts_eq]
  refine wpAny_bind (wpAny_bind (wpAny_field o1 o3 (x := .none) rfl (wpAny_bind (wpAny_listPart .none ?_))))
  rw [if_neg z0]
  refine wpAny_bind (wpAny_field o1 o3 (x := v1) rfl (wpAny_bind (wpAny_listPart q1 (wpAny_bind (wpAny_field o1 o3 (x := v2) rfl (wpAny_bind (wpAny_listPart q2 (wpAny_pure ?_))))))))
  first | simp only [other, Bool.false_eq_true, if_false] | apply PySem.W.KFB.if_not other | (dsimp only; rw [if_neg (by rw [other]; exact Bool.false_ne_true)])
  apply wpAny_bind (m := Builtin.List.listAllItems (.ref b) "must assign iterable to extended slice")
  unfold Builtin.List.listAllItems
  refine wpAny_bind (wpAny_typeOf lb.typeIs ?_)
  first | apply PySem.W.KFB.if_so (by decide) | rw [if_pos (by decide)] | simp only [beq_self_eq_true, Bool.true_or, if_true]
  unfold Builtin.List.listItems
  refine wpAny_bind (wpAny_seqItems eb rfl (wpAny_pure (wpAny_bind (wpAny_bind (wpAny_seqItems ep rfl (wpAny_pure ?_))))))
  refine wpAny_bind (wpAny_of_eq ((sliceIndices_raw (some (a : Int)) (some (c : Int)) none its.size (by simp)).trans (congrArg (pure : Int × Int × Int → Sem (Int × Int × Int)) (bounds_cut ha hac))) ?_)
  show wpAny _ _ (if ((1 : Int) == 1) = true then _ else _) _ _ s
  rw [if_pos (by decide)]
  apply wpAny_bind (wpAny_rule ?_)
  first | simp only [notLongL sz, Bool.false_eq_true, if_false] | apply PySem.W.KFB.if_not (notLongL sz)
  first | apply wpAny_bind (wpAny_pure ?_) | skip
  show wpAny _ _ (updateSeq p (fun xs => xs.extract 0 ((a : Int)).toNat ++ ws ++ xs.extract (max (a : Int) (((min c its.size : Nat)) : Int)).toNat xs.size) >>= _) _ _ s
  rw [top, Int.toNat_natCast]
  refine wpAny_bind (wpAny_updateSeq (hz := Nat.le_trans (Nat.le_add_right _ _) sz) (_hz' := few) ep rfl (wpAny_bind (wpAny_letGo ?_)))
  first | exact wpAny_bind (wpAny_pure (wpAny_pure ⟨.none, rfl, wpAny_pure h⟩)) | exact wpAny_pure ⟨.none, rfl, wpAny_pure h⟩
end
section
variable {X : Cx} {o : Expr} {lo hi : Option Expr} {to : TE} {tl th : TO} {pos p2 : Pos}
theorem drop_min {α : Type} (xs : List α) (c : Nat) : xs.drop (min c xs.length) = xs.drop c := by
  by_cases h : c ≤ xs.length
  · rw [Nat.min_eq_left h]
  · rw [Nat.min_eq_right (by omega), List.drop_length, List.drop_of_length_le (by omega)]
theorem set_cut {pins : List (Addr × Obj)} {s : Shared} {σ : St} {H : Hp} {l b k : Addr} {xs ys : List V} {a c : Nat} {v1 v2 : Value} {Q : Unit → Shared → Prop} (I : Inv X pins σ H s) (hH : H l = some (.lst xs)) (hB : H b = some (.lst ys)) (hne : l ≠ b)
    (hs : s.heap.IsSliceOf k v1 v2 .none) (r1 : IsPart v1 (some (a : Int))) (r2 : IsPart v2 (some (c : Int))) (ha : a ≤ xs.length) (hac : a ≤ c) (hz : xs.length + ys.length ≤ sizeLine)
    (h : ∀ s', Inv X pins σ (upd H l (.lst (xs.take a ++ ys ++ xs.drop c))) s' → Q () s') : wpAny (model X.prog X.w) X.A (setItem (.ref l) (.ref k) (.ref b)) Q X.xe s := by
  obtain ⟨z, its, n, r, hl, e⟩ := I.lstM hH
  obtain ⟨z2, its2, n2, r2', hl2, e2⟩ := I.lstM hB
  refine setItem_cut e e2 hne hs r1 r2 hac (by rw [List.size_toArray]; omega) (by rw [List.size_toArray, List.size_toArray]; omega) (h _ ?_)
  have dm : its.drop (min c its.length) = its.drop c := drop_min its c
  refine I.lset (its' := its.take a ++ its2 ++ its.drop c) (t' := s.toks) hH e ?_ (Vals.append (Vals.append (r.take _) r2') (r.drop _)) ?_
  · rw [List.size_toArray, ← dm]
    exact splice_eq its its2 a (min c its.length)
  · simp only [List.length_append, List.length_take, List.length_drop]
    omega
def gCut (to : TE) (tl th : TO) : TG := fun v σ H Q => to σ H fun x H1 => tl σ H1 fun l H2 => th σ H2 fun u H3 => ∃ p b xs ys a c, x = .ref p ∧ v = .ref b ∧ l = some ((a : Nat) : Int) ∧ u = some ((c : Nat) : Int) ∧ H3 p = some (.lst xs) ∧ H3 b = some (.lst ys) ∧ p ≠ b ∧
  a ≤ xs.length ∧ a ≤ c ∧ xs.length + ys.length ≤ sizeLine ∧ Q σ (upd H3 p (.lst (xs.take a ++ ys ++ xs.drop c)))
theorem pg_cut (ho : PE X o to) (hl : PO X lo tl) (hh : PO X hi th)
    (ha : ∀ v, assign (.Subscript o (.Slice lo hi none p2) pos) X.env v = (do
      let x ← holding [v] (eval o X.env)
      let k ← holding [v, x] (eval (.Slice lo hi none p2) X.env)
      standAt pos
      holding [v, x, k] (setItem x k v)
      release [k, v, x] []) := by intro _; rfl) : PG X (.Subscript o (.Slice lo hi none p2) pos) (gCut to tl th) := by
  refine ⟨fun pins s σ H v u Q I r h => ?_⟩
  rw [ha]
  refine wpAny_bind (wpAny_holding (thn (ho.run pins s σ H _ I h) fun ov s1 ⟨x, H1, I1, r1, h1⟩ => wpAny_bind (wpAny_holding (wpAny_Slice ?_))))
  refine thn (hl.run pins s1 σ H1 _ I1 h1) fun vl s2 ⟨l, H2, I2, pl, h2⟩ => thn (hh.run pins s2 σ H2 _ I2 h2) fun vu s3 ⟨y, H3, I3, pu, h3⟩ => ?_
  rw [evalPart_none]
  apply wpAny_pure
  have I4 : Inv X pins σ H3 { s3 with heap := s3.heap.push { cls := .type "slice", data := .fields #[vl, vu, .none] } } := I3.kept (t' := s3.toks) fun b' o' q => Heap.get?_push_of_some _ q
  obtain ⟨p, b, xs, ys, a, c, rfl, rfl, rfl, rfl, hp, hb, hne, h4, h5, h6, h7⟩ := h3
  cases (show ov = Value.ref p from r1)
  cases (show u = Value.ref b from r)
  refine wpAny_bind (wpAny_standAt (wpAny_bind (wpAny_holding (set_cut I4 hp hb hne (Heap.IsSliceOf.new ..) pl pu h4 h5 h6 fun s5 I5 => wpAny_release ⟨σ, _, I5, h7⟩))))
end
end L2

namespace Dm
open PySem PySem.Spec PyProof.Rows L2 My
section
variable {P : Program} {w : World} {K : Fr} {mg : Str → Option Value} {base : Heap} {cl : Str → Addr} {E0 : XK} {O O' OL : List Nat} {Φ : CxsE P w K mg base E0}
def fSetSl (i : Nat) (fa fc : Dm.Env → M D) (fv : Dm.Env → M D) (ρ : Dm.Env) : M Out := bnd (fv ρ) fun v => match ownL i ρ, v with
  | some l, .lst m => bnd (fa ρ) fun a => match a with
    | .int a => bnd (fc ρ) fun c => match c with
      | .int c => if (decide (0 ≤ a) && decide (a ≤ (l.length : Int)) && decide (a ≤ c) && szOk (l.length + m.length)) = true then ret (.nx (ρ.set i (some (.lst (l.take a.toNat ++ m ++ l.drop c.toNat))))) else bad
      | _ => bad
    | _ => bad
  | _, _ => bad
theorem ms_setSl (i : Nat) {x : Str} {ea ec ev : Expr} {pos p tpos spos : Pos} {fa fc fv : Dm.Env → M D} (ha : ME Φ cl O ea fa) (hc : ME Φ cl O ec fc) (he : ME Φ cl O ev fv) (hN : ∀ j, (Φ.X j).N[i]? = some x := by intro _; rfl)
    (hv : ∀ j, Vis (Φ.X j).env.scope x := by intro _; first | exact Or.inl rfl | exact Or.inr (Or.inl rfl) | exact Or.inr (Or.inr rfl)) (hi : i ∈ O := by decide)
    (hd : (x == ("__debug__" : Str)) = false := by decide) (hcd : (x == ("__classdict__" : Str)) = false := by decide)
    (hs : ∀ env, swapsWithSole [.Subscript (.Name x p) (.Slice (some ea) (some ec) none spos) tpos] ev pos.line env = pure false := by intro _; rfl) (hw : ∀ env, swappedStores [.Subscript (.Name x p) (.Slice (some ea) (some ec) none spos) tpos] ev env = pure none := by intro _; rfl)
    (h1 : ∀ env, (assignEach [.Subscript (.Name x p) (.Slice (some ea) (some ec) none spos) tpos] env).map (·.2) = [assign (.Subscript (.Name x p) (.Slice (some ea) (some ec) none spos) tpos) env] := by intro _; rfl) :
    MS Φ cl O O OL (.Assign [.Subscript (.Name x p) (.Slice (some ea) (some ec) none spos) tpos] ev pos) (fSetSl i fa fc fv) := by
  obtain ⟨t, pe, re⟩ := he
  obtain ⟨ta, pa, ra⟩ := ha
  obtain ⟨tc, pc, rc⟩ := hc
  refine ⟨_, fun j => ps_asg (pe j) (pg_cut (pe_var (hN j) (hv j) hd hcd) (po_some (pa j)) (po_some (pc j))) (hs _) (hw _) (h1 _), fun F os ρ σ H s Dn hO st q => ?_⟩
  refine re.bind hO st hxS hbS q fun d s1 v H1 m1 st1 r1 q1 => ?_
  cases eo : ownL i ρ with
  | none =>
    simp only [eo] at q1
    exact q1.elim
  | some l =>
    cases d with
    | lst m =>
      simp only [eo] at q1
      obtain ⟨p, vs, ea, e1, e2, e3⟩ := st1.owned hO hi eo
      obtain ⟨b, ws, rfl, g1, g2⟩ := r1
      refine ⟨_, e1, ?_⟩
      refine ra.bind hO st1 hxS hbS q1 fun d2 s2 v2 H2 m2 st2 r2 q2 => ?_
      cases d2 with
      | int a =>
        simp only at q2
        refine ⟨a, r2, ?_⟩
        refine rc.bind hO st2 hxS hbS q2 fun d3 s3 v3 H3 m3 st3 r3 q3 => ?_
        cases d3 with
        | int c =>
          simp only at q3
          refine ⟨c, r3, ?_⟩
          cases z : (decide (0 ≤ a) && decide (a ≤ (l.length : Int)) && decide (a ≤ c) && szOk (l.length + m.length)) with
          | false =>
            simp only [z] at q3
            exact q3.elim
          | true =>
            simp only [z] at q3
            rw [Bool.and_eq_true, Bool.and_eq_true, Bool.and_eq_true] at z
            have z1 := of_decide_eq_true z.1.1.1
            have z2 := of_decide_eq_true z.1.1.2
            have z3 := of_decide_eq_true z.1.2
            have e4 := (m2.trans m3).lst (st1.own_q (lookup_mem ea)) e2
            have g1' : Same (hid (wld F os) H1) (hid (wld F os) H3) := hid_mv st1.qW (m2.trans m3)
            have g3 := g1' _ _ g1
            have g4 : RepL K (hid (wld F os) H3) m ws := RepL.mono g1' m g2
            have e5 : RepL K (hid (wld F os) H3) l vs := RepL.mono g1' l e3
            obtain ⟨gn, g5, _⟩ := hid_of g3
            have npb : p ≠ b := fun y => gn (by rw [← y]; exact List.mem_append_left _ (List.mem_map.mpr ⟨_, lookup_mem ea, rfl⟩))
            refine ⟨p, b, vs, ws, a.toNat, c.toNat, rfl, rfl, by rw [Int.toNat_of_nonneg z1], by rw [Int.toNat_of_nonneg (by omega)], e4, g5, npb, by rw [← e3.len]; omega, by omega, by rw [← e3.len, ← g2.len]; exact Nat.le_of_lt (szOk_lt z.2), ?_⟩
            exact q3 os σ _ hO (st3.upd ea (ownL_at eo) (((e5.take _).app g4).app (e5.drop _)))
        | _ => exact q3.elim
      | _ => exact q2.elim
    | _ =>
      simp only [eo] at q1
      exact q1.elim
theorem setSl_ok {i : Nat} {fa fc fv : Dm.Env → M D} {ρ : Dm.Env} {s s1 s2 s3 : BS} {l m : List D} {a c : Nat} (hv : fv ρ s = .ok (.lst m) s1) (ho : ownL i ρ = some l) (ha : fa ρ s1 = .ok (.int (a : Int)) s2) (hc : fc ρ s2 = .ok (.int (c : Int)) s3) (h1 : a ≤ l.length) (h2 : a ≤ c) (hz : l.length + m.length ≤ 16000000) :
    fSetSl i fa fc fv ρ s = .ok (.nx (ρ.set i (some (.lst (l.take a ++ m ++ l.drop c))))) s3 := by
  have e : (decide (0 ≤ (a : Int)) && decide ((a : Int) ≤ (l.length : Int)) && decide ((a : Int) ≤ (c : Int)) && szOk (l.length + m.length)) = true := by
    rw [decide_eq_true (show (0 : Int) ≤ a by omega), decide_eq_true (show (a : Int) ≤ (l.length : Int) by omega), decide_eq_true (show (a : Int) ≤ (c : Int) by omega), szOk_le hz]
    rfl
  unfold fSetSl bnd
  rw [hv, ho]
  simp only [ha, hc, e, if_true, Int.toNat_natCast]
end
end Dm

namespace Dm
open PySem PySem.Spec PyProof.Rows L2 My PySem.W
/-! x < y of data that are alike -/
def rLtG (K : Fr) : R2 := fun x y H Q => ∃ d e, Dp K H x d ∧ Dp K H y e ∧ alike d e = true ∧ d ≠ .none ∧ min d.depth e.depth ≤ 60 ∧ Q (.bl (dataLt d e)) H
theorem op_ltG {X : Cx} (hu : X.A.units + 64 < cLine) : OpR X (compareOp .Lt) (rLtG X.K) := by
  intro pins s σ H x y v u Q I rx ry h
  obtain ⟨d, e, hd, he, al, nn, dp, q⟩ := h
  obtain ⟨as, r1⟩ := Dp.reads I d x v hd rx
  obtain ⟨bs, r2⟩ := Dp.reads I e y u he ry
  exact rcLt_alike d e X.A s v u as bs r1 r2 al nn (by omega) _ _ _ _ ⟨.bl _, H, I, rfl, q⟩
def nnP : PyData → Bool
  | .none => false
  | _ => true
theorem nnP_ne {d : PyData} (h : nnP d = true) : d ≠ .none := fun e => by
  rw [e] at h
  cases h
def cmpOk (x y : D) : Bool := isData x && isData y && alike (py x) (py y) && nnP (py x) && decide (min (py x).depth (py y).depth ≤ 60)
theorem cmpOk_all {x y : D} (h : cmpOk x y = true) : isData x = true ∧ isData y = true ∧ alike (py x) (py y) = true ∧ nnP (py x) = true ∧ min (py x).depth (py y).depth ≤ 60 := by
  unfold cmpOk at h
  simp only [Bool.and_eq_true, decide_eq_true_eq] at h
  exact ⟨h.1.1.1.1, h.1.1.1.2, h.1.1.2, h.1.2, h.2⟩
def ltG (x y : D) : Option D := if cmpOk x y = true then some (.bl (dataLt (py x) (py y))) else none
def ltA (x y : D) : Option D := match x, y with
  | .int i, .int j => some (.bl (decide (i < j)))
  | .str i, .str j => some (.bl (decide (i.cps.toList < j.cps.toList)))
  | _, _ => ltG x y
def rLtA (K : Fr) : R2 := fun x y H Q => rI0 (fun i j => .bl (decide (i < j))) x y H Q ∨ (∃ i j, x = .str i ∧ y = .str j ∧ Q (.bl (decide (i.cps.toList < j.cps.toList))) H) ∨ rLtG K x y H Q
theorem op_ltA {X : Cx} (hu : X.A.units + 64 < cLine) : OpR X (compareOp .Lt) (rLtA X.K) := op_lt.or (op_lt_str.or (op_ltG hu))
theorem ltA_cases {x y d : D} (e : ltA x y = some d) : (∃ i j, x = .int i ∧ y = .int j ∧ d = .bl (decide (i < j))) ∨ (∃ i j, x = .str i ∧ y = .str j ∧ d = .bl (decide (i.cps.toList < j.cps.toList))) ∨ cmpOk x y = true ∧ d = .bl (dataLt (py x) (py y)) := by
  have g : ∀ z, ltG x y = some z → cmpOk x y = true ∧ z = .bl (dataLt (py x) (py y)) := fun z h => by
    unfold ltG at h
    split at h
    · next c => exact ⟨c, (Option.some.inj h).symm⟩
    · cases h
  unfold ltA at e
  split at e
  · exact .inl ⟨_, _, rfl, rfl, (Option.some.inj e).symm⟩
  · exact .inr (.inl ⟨_, _, rfl, rfl, (Option.some.inj e).symm⟩)
  · exact .inr (.inr (g _ e))
section
variable {K : Fr} {F : Frm} {os : Own} {ρ : Env} {σ : L2.St} {H : Hp} {s : BS}
theorem data_dp {d : D} {v : V} (g : isData d = true) (r : Rep K (hid (wld F os) H) d v) : Dp K H v (py d) := Dp.mono2 (hid_same _ _) _ (rep_dp d g r)
end
theorem ro_ltA {K : Fr} : RO K (rLtA K) ltA := by
  intro F os ρ σ H s Q x y dx dy d st rx ry e q
  rcases ltA_cases e with ⟨i, j, rfl, rfl, rfl⟩ | ⟨i, j, rfl, rfl, rfl⟩ | ⟨c, rfl⟩
  · exact .inl ⟨i, j, rx, ry, q _ H Mw.refl st rfl⟩
  · exact .inr (.inl ⟨i, j, rx, ry, q _ H Mw.refl st rfl⟩)
  · obtain ⟨c1, c2, c3, c4, c5⟩ := cmpOk_all c
    exact .inr (.inr ⟨_, _, data_dp c1 rx, data_dp c2 ry, c3, nnP_ne c4, c5, q _ H Mw.refl st rfl⟩)
section
variable {P : Program} {w : World} {K : Fr} {mg : Str → Option Value} {base : Heap} {cl : Str → Addr} {E : SK} {Φ : Cxs P w K mg base E} {O : List Nat}
variable {a b : Expr} {f h : Env → M D} {pos : Pos}
theorem oLtA (Φ : Cxs P w K mg base E) (j : Φ.ι) : OpR (Φ.X j) (compareOp .Lt) (rLtA K) := by
  have z := op_ltA (Φ.u64 j)
  rwa [Φ.hK j] at z
theorem me_ltA (ha : ME Φ cl O a f) (hb : ME Φ cl O b h) : ME Φ cl O (.Compare a [.Lt] [b] pos) (fOp ltA f h) := me_cmp (oLtA Φ) ro_ltA ha hb (nomark _)
theorem mt_ltA (ha : ME Φ cl O a f) (hb : ME Φ cl O b h) : MT Φ cl O (.Compare a [.Lt] [b] pos) (fTr (fOp ltA f h)) := mt_cmp (oLtA Φ) ro_ltA ha hb (nomark _)
end
/-! min(x, y) of two data that are alike -/
theorem min_two_data {prog : Program} {w : World} {A : Around} {E : Value → Shared → Prop} {s : Shared} {a b : Value} {x y : PyData} {as bs : List Addr} {Q : Value → Shared → Prop} (hh : A.handled = none)
    (ra : Reads s.heap a x as) (rb : Reads s.heap b y bs) (al : AlikeAll [x, y]) (hu : A.units + 1 + PyData.depthAll [x, y] < cLine)
    (h : ∀ h' tk, (∀ c o, s.heap.get? c = some o → h'.get? c = some o) → Q (if dataLt y x = true then b else a) { s with heap := h', toks := tk }) :
    wpAny (model prog w) A (call (.builtin "min") [a, b]) Q E s := by
  have hname : (toString "min" ++ toString ".loop" : String) = "min.loop" := by decide
  refine call_function_tree F.kind_min F.plain_min F.entry_min (F.args_min2 _ _) ?_
  show wpAny _ A.in1 (Builtin.Builtins.bindParams "min" ["key", "default"] 0 ⟨[], []⟩ >>= _) _ _ s
  refine wpAny_bind (wpAny_of_eq (show Builtin.Builtins.bindParams "min" ["key", "default"] 0 ⟨[], []⟩ = pure [none, none] from rfl) ?_)
  show wpAny _ A.in1 (newTuple [a, b] >>= _) _ _ s
  refine wpAny_bind (wpAny_newObj_type ?_)
  have hT : (s.heap.push { cls := .type "tuple", data := .seq #[a, b] }).IsTuple s.heap.objs.size #[a, b] := ⟨_, Heap.get?_push_size _ rfl, rfl, 0, rfl⟩
  have k0 : ∀ c o, s.heap.get? c = some o → (s.heap.push { cls := .type "tuple", data := .seq #[a, b] }).get? c = some o := fun c o e => Heap.get?_push_of_some _ e
  refine wpAny_bind (iter_tupleW (A := A.in1) hh hT fun s₂ e2 W hst hfp hw hkeep => ?_)
  refine wpAny_bind (wpAny_newObj_type ?_)
  have hSf := fun hm => Nat.lt_irrefl s₂.heap.objs.size (hfp _ hm)
  rw [hname]
  have hr : ReadsAll (s.heap.push { cls := .type "tuple", data := .seq #[a, b] }) (#[a, b] : Array Value).toList [x, y] _ := ReadsAll.cons (reads_keeps k0 ra) (ReadsAll.cons (reads_keeps k0 rb) ReadsAll.nil)
  have hcmp := cmpIn_lt (prog := prog) (w := w) (A := A.in1) (s := { s with heap := s.heap.push { cls := .type "tuple", data := .seq #[a, b] } }) hr al (by show A.units + 1 + _ < _; exact hu)
  refine wpAny_pure ⟨plainId_quiet F.plain_min_loop _, codeAny_min_loop_firstH W _ hw _ hcmp s₂.heap.objs.size hSf (fresh_in hkeep) _ (Nat.succ_pos 1) (fun b o e => Heap.get?_push_of_some _ (hkeep b o e)) (W.frame 0 s₂ _ s₂.toks hst (Nat.le_refl _) fun b _ o e => Heap.get?_push_of_some _ e) (Heap.get?_push_size _ rfl) fun v s' hP hm => ?_⟩
  obtain ⟨h', tk, es, hk'⟩ := moved_old e2 rfl (Moved.drop_new (tk := s₂.toks) hm (Nat.le_refl _))
  subst es
  have q := h h' tk fun c o e => hk' c o (k0 c o e)
  have hv : v = if dataLt y x = true then b else a := by
    by_cases c : dataLt y x = true
    · rw [if_pos c]
      have e : argBest (fun i j => dataLt (([x, y] : List PyData).getD i .none) (([x, y] : List PyData).getD j .none)) ((#[a, b] : Array Value).size - 1) = 1 := by
        show (if dataLt y x = true then 1 else 0) = 1
        rw [if_pos c]
      rw [e] at hP
      exact (Option.some.inj hP).symm
    · rw [if_neg c]
      have e : argBest (fun i j => dataLt (([x, y] : List PyData).getD i .none) (([x, y] : List PyData).getD j .none)) ((#[a, b] : Array Value).size - 1) = 0 := by
        show (if dataLt y x = true then 1 else 0) = 0
        rw [if_neg c]
      rw [e] at hP
      exact (Option.some.inj hP).symm
  rw [hv]
  exact q
def rMin2 (K : Fr) : List V → Hp → VK → Prop := fun vs H Q => ∃ x y d e, vs = [x, y] ∧ Dp K H x d ∧ Dp K H y e ∧ AlikeAll [d, e] ∧ PyData.depthAll [d, e] ≤ 60 ∧ Q (if dataLt e d = true then y else x) H
theorem cr_min2 {X : Cx} (hc : X.calm = true) (hu : X.A.units + 64 < cLine) : CallR X (.builtin "min") (rMin2 X.K) := by
  intro pins s σ H vs us Q I r h
  obtain ⟨x, y, d, e, rfl, hd, he, al, dp, q⟩ := h
  obtain ⟨u, w', rfl, r1, r2⟩ := vals2 r
  obtain ⟨as, q1⟩ := Dp.reads I d x u hd r1
  obtain ⟨bs, q2⟩ := Dp.reads I e y w' he r2
  refine min_two_data (I.ok.hd hc) q1 q2 al (by omega) fun h' tk k => ⟨_, H, I.kept k, ?_, q⟩
  by_cases c : dataLt e d = true
  · rw [if_pos c, if_pos c]
    exact r2
  · rw [if_neg c, if_neg c]
    exact r1
def alikeB (x y : D) : Bool := isData x && isData y && alike (py x) (py x) && alike (py x) (py y) && alike (py y) (py x) && alike (py y) (py y) && nnP (py x) && nnP (py y) && decide (PyData.depthAll [py x, py y] ≤ 60)
def minA : List D → Option D
  | [.int i, .int j] => some (.int (if j < i then j else i))
  | [x, y] => if alikeB x y = true then some (if dataLt (py y) (py x) = true then y else x) else none
  | ds => minD ds
def rMinB (K : Fr) : List V → Hp → VK → Prop := fun vs H Q => rMinA K vs H Q ∨ rMin2 K vs H Q
theorem cr_minB {X : Cx} (hc : X.calm = true) (hu : X.A.units + 64 < cLine) : CallR X (.builtin "min") (rMinB X.K) := CallR.or (cr_minA hc) (cr_min2 hc hu)
theorem rc_minA {K : Fr} : RC K (rMinB K) minA := by
  intro F os ρ σ H s Q vs ds d st r e q
  have old : minD ds = some d → rMinB K vs H Q := fun e => .inl (rc_min F os ρ σ H s Q vs ds d st r e q)
  match ds, r, e, old with
  | [], r, e, old => exact old e
  | [x], r, e, old => exact old (by cases x <;> exact e)
  | [x, y], r, e, old =>
    have go : (if alikeB x y = true then some (if dataLt (py y) (py x) = true then y else x) else none) = some d → rMinB K vs H Q := fun e => by
      split at e
      · next g =>
        unfold alikeB at g
        simp only [Bool.and_eq_true, decide_eq_true_eq] at g
        obtain ⟨⟨⟨⟨⟨⟨⟨⟨g1, g2⟩, a1⟩, a2⟩, a3⟩, a4⟩, n1⟩, n2⟩, dp⟩ := g
        obtain ⟨v, u, rfl, r1, r2⟩ := two_args r
        refine .inr ⟨v, u, _, _, rfl, data_dp g1 r1, data_dp g2 r2, ⟨fun p hp p' hp' => ?_, fun p hp => ?_⟩, dp, ?_⟩
        · rcases List.mem_cons.mp hp with rfl | hp
          · rcases List.mem_cons.mp hp' with rfl | hp'
            · exact a1
            · rw [List.mem_singleton.mp hp']
              exact a2
          · rw [List.mem_singleton.mp hp]
            rcases List.mem_cons.mp hp' with rfl | hp'
            · exact a3
            · rw [List.mem_singleton.mp hp']
              exact a4
        · rcases List.mem_cons.mp hp with rfl | hp
          · exact nnP_ne n1
          · rw [List.mem_singleton.mp hp]
            exact nnP_ne n2
        · cases e
          by_cases c : dataLt (py y) (py x) = true
          · rw [if_pos c] at q ⊢
            exact q _ H Mw.refl st r2
          · rw [if_neg c] at q ⊢
            exact q _ H Mw.refl st r1
      · cases e
    cases x with
    | int i =>
      cases y with
      | int j => exact old e
      | _ => exact go e
    | _ => exact go e
  | x :: y :: z :: l, r, e, old => exact old (by cases x <;> first | exact e | (cases y <;> exact e))
section
variable {P : Program} {w : World} {K : Fr} {mg : Str → Option Value} {base : Heap} {cl : Str → Addr} {E : SK} {Φ : Cxs P w K mg base E} {O : List Nat}
variable {e : Expr} {es : List Expr} {fs : Env → M (List D)} {pos p : Pos}
theorem me_minA (hg : ∀ j, Gl (Φ.X j) "min") (hm : mg "min" = none) (ha : MA Φ cl O (e :: es) fs) (he : ∀ env, starEach (e :: es) env = (false, eval e env) :: starEach es env := by intro _; rfl) (hpl : ∀ env, (backTo pos (starEach es env)).any (·.1) = false := by intro _; rfl) :
    ME Φ cl O (.Call (.Name "min" p) (e :: es) [] pos) (fCall minA fs) := me_callB (fun j => by have z := cr_minB (Φ.calm j) (Φ.u64 j); rwa [Φ.hK j] at z) rc_minA hg hm (by decide +kernel) ha (he := he) (hpl := hpl)
end
end Dm

namespace Dm
open PySem PySem.Spec PyProof.Rows L2 My
/-! name op= e -/
def iaddD : D → D → Option D
  | .int i, .int j => some (.int (i + j))
  | _, _ => none
theorem ro_iadd {K : Fr} : RO K (rI0 fun i j => .int (i + j)) iaddD := ro_i0 fun dx dy d e => by
  obtain ⟨i, j, h1, h2, h3⟩ := two_ints (f := fun i j => D.int (i + j)) e
  exact ⟨i, j, h1, h2, fun H => by rw [← h3]; rfl⟩
theorem ro_isub {K : Fr} : RO K (rI0 fun i j => .int (i - j)) subD := ro_sub
section
variable {P : Program} {w : World} {K : Fr} {mg : Str → Option Value} {base : Heap} {cl : Str → Addr} {E0 : XK} {O O' OL : List Nat} {Φ : CxsE P w K mg base E0}
theorem ms_augG {i : Nat} {x : Str} {e : Expr} {op : Operator} {r : R2} {g : D → D → Option D} {f : Dm.Env → M D} {pos pos' : Pos} (ho : ∀ j, OpR (Φ.X j) (inplaceOp op) r) (ro : RO K r g) (he : ME Φ cl O e f)
    (hi : ∀ j, (Φ.X j).N[i]? = some x) (hx : ∀ j, Loc (Φ.X j).env.scope x) (hf : ∀ j, (Φ.X j).fn x = true ∨ (Φ.X j).env.scope.names.lookup x = some .local) (hO : i ∉ O) :
    MS Φ cl O O OL (.AugAssign (.Name x pos') op e pos) (fSet i (fOp g (fVar i) f)) := by
  obtain ⟨t, p, rt⟩ := he
  refine ⟨_, fun j => ps_aug (Φ.nd j) (hi j) (hx j) (p j) (ho j) (hf j), fun F os ρ σ H s Dn hO2 st q => ?_⟩
  unfold fSet fOp fVar at q
  cases e1 : ρ[i]? with
  | none =>
    simp only [e1] at q
    exact q.elim
  | some o =>
    cases o with
    | none =>
      simp only [e1] at q
      exact q.elim
    | some d =>
      simp only [e1] at q
      obtain ⟨v, e2, r2⟩ := st.slots i d e1
      have l0 : os.lookup i = none := lookup_none (by rw [hO2]; exact hO)
      rw [l0] at r2
      refine ⟨v, e2, ?_⟩
      have q : satS K cl E0 O OL F Dn (bnd (f ρ) (fun y => bnd (lift (g d y)) fun z => ret (.nx (ρ.set i (some z)))) s) := by
        have z : (bnd (bnd (ret d) fun x => bnd (f ρ) fun y => lift (g x y)) fun d => ret (Out.nx (ρ.set i (some d)))) s = (bnd (f ρ) (fun y => bnd (lift (g d y)) fun z => ret (.nx (ρ.set i (some z)))) s) := by
          show (bnd (bnd (f ρ) fun y => lift (g d y)) fun d => ret (Out.nx (ρ.set i (some d)))) s = _
          unfold bnd
          cases f ρ s <;> rfl
        rw [← z]
        exact q
      refine rt.bind hO2 st hxS hbS q fun dy s1 u H1 m1 st1 r1 q1 => ?_
      cases eg : g d dy with
      | none =>
        simp only [lift, bnd, eg] at q1
        exact q1.elim
      | some z =>
        simp only [lift, bnd, eg] at q1
        exact ro F os ρ σ H1 s1 _ v u d dy z st1 (rep_mv st m1 r2) r1 eg fun v' H2 m2 st2 r3 => q1 os _ H2 hO2 (st2.set l0 r3)
theorem ms_augAdd (i : Nat) {x : Str} {e : Expr} {f : Dm.Env → M D} {pos pos' : Pos} (he : ME Φ cl O e f) (hi : ∀ j, (Φ.X j).N[i]? = some x := by intro _; rfl) (hx : ∀ j, Loc (Φ.X j).env.scope x := by intro _; first | exact Or.inl rfl | exact Or.inr rfl)
    (hf : ∀ j, (Φ.X j).fn x = true ∨ (Φ.X j).env.scope.names.lookup x = some .local := by intro _; first | exact Or.inl rfl | exact Or.inr rfl) (hO : i ∉ O := by decide) : MS Φ cl O O OL (.AugAssign (.Name x pos') .Add e pos) (fSet i (fOp iaddD (fVar i) f)) :=
  ms_augG (fun j => iop_add) ro_iadd he hi hx hf hO
theorem ms_augSub (i : Nat) {x : Str} {e : Expr} {f : Dm.Env → M D} {pos pos' : Pos} (he : ME Φ cl O e f) (hi : ∀ j, (Φ.X j).N[i]? = some x := by intro _; rfl) (hx : ∀ j, Loc (Φ.X j).env.scope x := by intro _; first | exact Or.inl rfl | exact Or.inr rfl)
    (hf : ∀ j, (Φ.X j).fn x = true ∨ (Φ.X j).env.scope.names.lookup x = some .local := by intro _; first | exact Or.inl rfl | exact Or.inr rfl) (hO : i ∉ O := by decide) : MS Φ cl O O OL (.AugAssign (.Name x pos') .Sub e pos) (fSet i (fOp subD (fVar i) f)) :=
  ms_augG (fun j => iop_sub) ro_isub he hi hx hf hO
/-! a, b = [..], e -/
def fParFE (i j : Nat) (f : Dm.Env → M (List D)) (g : Dm.Env → M D) (ρ : Dm.Env) : M Out := bnd (f ρ) fun l => bnd (g ρ) fun d => ret (.nx ((ρ.set i (some (.lst l))).set j (some d)))
theorem ms_parFE {i j : Nat} {x y : Str} {a b : Expr} {f : Dm.Env → M (List D)} {g : Dm.Env → M D} {pos px py pt : Pos} {kt k2 pt2} (hi : ∀ k, (Φ.X k).N[i]? = some x) (hj : ∀ k, (Φ.X k).N[j]? = some y) (hij : i ≠ j) (hx : ∀ k, (Φ.X k).env.scope.names.lookup x = some .local) (hy : ∀ k, (Φ.X k).env.scope.names.lookup y = some .local)
    (hjO : j ∉ O) (ha : MF Φ cl O a f) (hb : ME Φ cl (999 :: O) b g) (hw : ∀ k, swappedStores [.Tuple [.Name x px, .Name y py] kt pt] (.Tuple [a, b] k2 pt2) (Φ.X k).env = pure (some [x, y]))
    (he : ∀ env, starEach [a, b] env = (false, eval a env) :: starEach [b] env := by intro _; rfl) (he2 : ∀ env, starEach [b] env = (false, eval b env) :: starEach [] env := by intro _; rfl)
    (hs : ∀ env, swapsWithSole [.Tuple [.Name x px, .Name y py] kt pt] (.Tuple [a, b] k2 pt2) pos.line env = pure false := by intro _; rfl) :
    MS Φ cl O (i :: drpO O i) OL (.Assign [.Tuple [.Name x px, .Name y py] kt pt] (.Tuple [a, b] k2 pt2) pos) (fParFE i j f g) := by
  obtain ⟨t, p, r⟩ := ha
  obtain ⟨t2, p2, r2⟩ := hb
  refine ⟨_, fun k => ps_par (Φ.calm k) (Φ.nd k) (hi k) (hj k) hij (hx k) (hy k) (pa_cons (p k) (pa_cons (p2 k) pa_nil (he2 _)) (he _)) (hw k) (hs _), fun F os ρ σ H s Dn hO st q => ?_⟩
  unfold fParFE at q
  refine r F os ρ σ H s _ hO st ?_
  cases e : f ρ s with
  | bad =>
    simp only [bnd, e] at q
    exact q.elim
  | exc nm fs s1 =>
    simp only [bnd, e] at q
    exact q
  | ok l s1 =>
    simp only [bnd, e] at q
    intro a1 vs1 H1 m1 st1 e1 rp1
    refine r2 (F.at (hid (wld F ((999, a1) :: os)) H1)) ((999, a1) :: os) ρ σ H1 s1 _ (by rw [List.map_cons, hO]) (st1.into (Same.refl _)) ?_
    cases e2 : g ρ s1 with
    | bad =>
      simp only [e2] at q
      exact q.elim
    | exc nm fs s2 =>
      simp only [e2] at q
      exact q
    | ok d s2 =>
      simp only [e2] at q
      intro v H2 m2 st2 rv
      have few := st2.few
      have sm : Same (hid (wld F ((999, a1) :: os)) H1) (hid (wld F ((999, a1) :: os)) H2) := st2.frz
      have st3 : StOk K F ((999, a1) :: os) ρ σ H2 s2 := StOk.out (st1.frz) st2
      have e1' : H2 a1 = some (.lst vs1) := m2.lst (st1.own_q (p := (999, a1)) List.mem_cons_self) e1
      have rp1' := RepL.mono sm _ rp1
      have st5 := st3.setOwn (i := i) (by omega) e1' rp1'
      have sub : Same (hid (wld F ((999, a1) :: os)) H2) (hid (wld F ((i, a1) :: drp os i)) H2) := hid_sub fun z hz => by
        rcases List.mem_cons.mp hz with z | z
        · rw [z]
          exact List.mem_cons_self
        · refine List.mem_cons_of_mem _ ?_
          rcases List.mem_append.mp z with z | z
          · refine List.mem_append_left _ ?_
            obtain ⟨p, hp, rfl⟩ := List.mem_map.mp z
            exact List.mem_map.mpr ⟨p, drp_sub p hp, rfl⟩
          · exact List.mem_append_right _ z
      have st6 := st5.set (i := j) (lookup_none (by
        rw [List.map_cons, drp_map, hO]
        intro z
        rcases List.mem_cons.mp z with z | z
        · exact hij z.symm
        · exact hjO (List.mem_filter.mp z).1)) (Rep.mono sub _ rv)
      exact ⟨_, _, rfl, q _ _ H2 (by rw [List.map_cons, drp_map, hO]) st6⟩
end
/-! 'text'.index(sign), text.upper() -/
def sidxD : D → D → Option D
  | .str a, .str b => match Builtin.Str.occurrences a b 0 a.length 1 with
    | i :: _ => some (.int (i : Nat))
    | [] => none
  | _, _ => none
def upperD : List D → Option D
  | [.str a] => if decide (a.length ≤ 5592405) = true then some (.str (Txt.upper a)) else none
  | _ => none
section
variable {P : Program} {w : World} {K : Fr} {mg : Str → Option Value} {base : Heap} {cl : Str → Addr} {E : SK} {Φ : Cxs P w K mg base E} {O : List Nat}
theorem me_sidx {o e : Expr} {apos pos : Pos} {g : Dm.Env → M D} {a : Str} (ho : ME Φ cl O o (fC (.str a))) (he : ME Φ cl O e g) (hs : ∀ env, starEach [e] env = [(false, eval e env)] := by intro _; rfl)
    (hbase : ∀ j, attributeBase o "index" (Φ.X j).env (eval o (Φ.X j).env) = eval o (Φ.X j).env := by intro _; rfl) (hline : (apos.endLine == pos.line) = true := by rfl) :
    ME Φ cl O (.Call (.Attribute o "index" apos) [e] [] pos) (fOp sidxD (fC (.str a)) g) := by
  obtain ⟨t, pe, re⟩ := ho
  obtain ⟨u, pu, ru⟩ := he
  refine ⟨_, fun j => pe_m1 F.slot_str_index F.type_str_index mt_sindex (pe j) (pu j) (hs _) (hbase j) hline, fun F os ρ σ H s Q hO st q => ?_⟩
  refine re F os ρ σ H s _ hO st fun v H1 m1 st1 r1 => ?_
  refine ⟨⟨a, r1⟩, ?_⟩
  have q : satE K cl E F os ρ σ H Q (bnd (g ρ) (fun y => lift (sidxD (.str a) y)) s) := q
  refine ru.bind hO st1 hxE hbE q fun dy s2 y H2 m2 st2 r2 q2 => ?_
  cases dy with
  | str b =>
    have q2 : satE K cl E F os ρ σ H Q (lift (match Builtin.Str.occurrences a b 0 a.length 1 with | i :: _ => some (D.int (i : Nat)) | [] => none) s2) := q2
    cases eo : Builtin.Str.occurrences a b 0 a.length 1 with
    | nil =>
      rw [eo] at q2
      exact q2.elim
    | cons i rest =>
      rw [eo] at q2
      exact ⟨a, b, i, rest, r1, by rw [show y = .str b from r2], eo, q2 _ H2 (m1.trans m2) st2 rfl⟩
  | _ => exact q2.elim
theorem me_upper {o : Expr} {apos pos : Pos} {f : Dm.Env → M D} (ho : ME Φ cl O o f)
    (hbase : ∀ j, attributeBase o "upper" (Φ.X j).env (eval o (Φ.X j).env) = eval o (Φ.X j).env := by intro _; rfl) (hline : (apos.endLine == pos.line) = true := by rfl) :
    ME Φ cl O (.Call (.Attribute o "upper" apos) [] [] pos) (fCall upperD (fCons f fNil)) := by
  obtain ⟨t, pe, re⟩ := ho
  refine ⟨_, fun j => pe_upper (pe j) (hbase j) hline, fun F os ρ σ H s Q hO st q => ?_⟩
  have q : satE K cl E F os ρ σ H Q (bnd (f ρ) (fun y => lift (upperD [y])) s) := by
    have z : fCall upperD (fCons f fNil) ρ s = bnd (f ρ) (fun y => lift (upperD [y])) s := by
      unfold fCall fCons fNil bnd
      cases f ρ s <;> rfl
    rw [← z]
    exact q
  refine re.bind hO st hxE hbE q fun dy s2 y H2 m2 st2 r2 q2 => ?_
  cases dy with
  | str a =>
    have q2 : satE K cl E F os ρ σ H Q (lift (if decide (a.length ≤ 5592405) = true then some (D.str (Txt.upper a)) else none) s2) := q2
    by_cases c : decide (a.length ≤ 5592405) = true
    · rw [if_pos c] at q2
      exact ⟨⟨a, r2⟩, a, r2, rfl, of_decide_eq_true c, q2 _ H2 m2 st2 rfl⟩
    · rw [if_neg c] at q2
      exact q2.elim
  | _ => exact q2.elim
/-- a text of the module -/
theorem me_globS {x a : Str} {tk : Tok} {pos : Pos} (hg : ∀ j, Gl (Φ.X j) x) (hm : mg x = some (.str a tk)) (hd : (x == ("__debug__" : Str)) = false := by decide) : ME Φ cl O (.Name x pos) (fC (.str a)) :=
  ⟨tC (.str a), fun j => pe_glob (v := .str a) (hg j) (by rw [Φ.hmg]; exact hm) ⟨_, rfl⟩ hd, fun F os ρ σ H s Q _ h q => q _ _ Mw.refl h rfl⟩
/-! {k: v} -/
def keyD : D → Option Key
  | .int i => some (.inl i)
  | .str x => some (.inr x)
  | _ => none
theorem keyD_rep {K : Fr} {H : Hp} {d : D} {v : V} {k : Key} (e : keyD d = some k) (r : Rep K H d v) : v = kV k := by
  cases d <;> first | (cases e; done) | (cases e; exact r)
def fDisp (f g : Dm.Env → M D) (ρ : Dm.Env) : M D := bnd (f ρ) fun x => bnd (g ρ) fun y => match keyD x with
  | some k => ret (.dic [(k, y)])
  | none => bad
theorem tabs_updK {T : List (Addr × Str)} {H : Hp} {a : Addr} {vs vs' : List (Key × V)} (t : LamX.Tabs T H) (e : H a = some (.dK vs)) : LamX.Tabs T (upd H a (.dK vs')) := fun p hp => by
  obtain ⟨ps, h1, h2, h3⟩ := t p hp
  refine ⟨ps, by rw [upd_ne (ne_of h1 e (by intro z; cases z))]; exact h1, h2, fun pos cv hc => ?_⟩
  obtain ⟨c, e1, e2⟩ := h3 pos cv hc
  exact ⟨c, e1, by rw [upd_ne (ne_of e2 e (by intro z; cases z))]; exact e2⟩
/-- the nameless dict at the head is written, and known from here on -/
theorem StOk.tellK {F : Frm} {os : Own} {ρ : Dm.Env} {σ : L2.St} {H : Hp} {s : BS} {k : Nat} {p : Addr} {kvs : List (Key × D)} {vs vs' : List (Key × V)} (st : StOk K F ((k, p) :: os) ρ σ H s) (hk : ρ.length ≤ k) (e : H p = some (.dK vs))
    (r : RepK K (hid (wld F ((k, p) :: os)) H) kvs vs') : StOk K F os ρ σ (L2.upd H p (.dK vs')) s ∧ Rep K (hid (wld F os) (L2.upd H p (.dK vs'))) (.dic kvs) (.ref p) := by
  have aW : p ∈ wld F ((k, p) :: os) := List.mem_cons_self
  have eh : hid (wld F ((k, p) :: os)) (L2.upd H p (.dK vs')) = hid (wld F ((k, p) :: os)) H := hid_upd_in aW
  have sub : Same (hid (wld F ((k, p) :: os)) (L2.upd H p (.dK vs'))) (hid (wld F os) (L2.upd H p (.dK vs'))) := hid_sub fun a ha => List.mem_cons_of_mem _ ha
  have naq : p ≠ F.q := st.own_q (p := (k, p)) List.mem_cons_self
  have nac : p ≠ F.c := fun z => st.own_ne (p := (k, p)) List.mem_cons_self (by rw [z]; exact st.fok.cW)
  have nos : p ∉ os.map (·.2) := (List.nodup_cons.mp st.nd).1
  refine ⟨⟨st.mv.updO (st.new (k, p) List.mem_cons_self), st.fok, ⟨st.bag.eT, tabs_updK st.bag.tabs e, st.bag.eq, ?_, ?_⟩, fun p hp => st.new p (List.mem_cons_of_mem _ hp), fun x hx => ?_, (List.nodup_cons.mp st.nd).2, st.len, st.few, ?_, fun j d ej => ?_⟩, p, vs', rfl, ?_, RepK.mono sub _ (by rw [eh]; exact r)⟩
  · rw [upd_ne (Ne.symm naq)]
    exact st.bag.at_
  · rw [upd_ne (Ne.symm nac)]
    exact st.bag.cells
  · obtain ⟨o, e1, t⟩ := st.thr x (List.mem_cons_of_mem _ hx)
    exact ⟨o, by rw [upd_ne (fun z => nos (List.mem_map.mpr ⟨x, hx, z⟩))]; exact e1, t⟩
  · exact (show Same F.B (hid (wld F ((k, p) :: os)) (L2.upd H p (.dK vs'))) by rw [eh]; exact st.frz).trans sub
  · obtain ⟨v, e1, e2⟩ := st.slots j d ej
    have hj : j < ρ.length := (List.getElem?_eq_some_iff.mp ej).1
    rw [lookup_cons_ne (by omega)] at e2
    refine ⟨v, e1, e2.mono (by rw [← eh]; exact sub) fun b eb o _ e3 => ?_⟩
    rw [upd_ne (fun z => nos (List.mem_map.mpr ⟨_, lookup_mem eb, z⟩))]
    exact e3
  · refine hid_at ?_ rfl upd_same
    intro z
    rcases List.mem_append.mp z with z | z
    · exact nos z
    · exact st.own_ne (p := (k, p)) List.mem_cons_self z
theorem me_disp {k e : Expr} {f g : Dm.Env → M D} {pos : Pos} (hk : ME Φ cl (999 :: O) k f) (he : ME Φ cl (999 :: O) e g) : ME Φ cl O (.Dict [some k] [e] pos) (fDisp f g) := by
  obtain ⟨t, pk, rk⟩ := hk
  obtain ⟨u, pe, re⟩ := he
  refine ⟨tDisp [(t, u)], fun j => pe_disp (pps_cons (pk j) (pe j) pps_nil) rfl rfl (by simp) (Nat.le_of_ble_eq_true rfl), fun F os ρ σ H s Q hO st q => fun p np => ?_⟩
  have few := st.few
  have stp : StOk K F ((999, p) :: os) ρ σ (upd H p (.dK [])) s := st.grow np (mv_new np) upd_same (st.bag.mv (same_new np)) (by omega)
  have pq : p ≠ F.q := stp.own_q (p := (999, p)) List.mem_cons_self
  have hO1 : ((999, p) :: os).map (·.1) = 999 :: O := by rw [List.map_cons, hO]
  refine rk.bind hO1 stp (G := satE K cl E F os ρ σ H Q) hxE hbE (k := fun x => bnd (g ρ) fun y => match keyD x with | some k => ret (D.dic [(k, y)]) | none => bad) q fun dx s1 v H1 m1 st1 r1 q1 => ?_
  refine re.bind hO1 st1 (G := satE K cl E F os ρ σ H Q) hxE hbE q1 fun dy s2 v2 H2 m2 st2 r2 q2 => ?_
  cases ek : keyD dx with
  | none =>
    simp only [ek] at q2
    exact q2.elim
  | some key =>
    simp only [ek] at q2
    have ep : H2 p = some (.dK []) := m2.keep _ _ pq rfl (m1.keep _ _ pq rfl upd_same)
    obtain ⟨st3, r3⟩ := st2.tellK (vs' := [(key, v2)]) (kvs := [(key, dy)]) (by omega) ep ⟨v2, [], rfl, r2, rfl⟩
    have mU : Mw F.q H (upd H2 p (.dK [(key, v2)])) := ⟨fun b o nb t h => by
      by_cases c : b = p
      · rw [c, np] at h
        cases h
      · rw [upd_ne c]
        exact m2.keep _ _ nb t (m1.keep _ _ nb t (by rw [upd_ne c]; exact h))⟩
    refine ⟨ep, [(key, v2)], ?_, Nat.le_of_ble_eq_true rfl, ?_⟩
    · rw [keyD_rep ek r1]
      rfl
    · exact q2 _ _ mU st3 r3
end
end Dm

namespace Dm
open PySem PySem.Spec PyProof.Rows L2 My
/-! list('text') -/
section
variable {prog : Program} {w : World} {A : Around} {E : Value → Shared → Prop} {s : Shared} {x : Str} {t : Tok}
theorem text_hint {Q : Bool → Shared → Prop} (h : Q false s) : wpAny (model prog w) A (Builtin.List.listLengthHint (.str x t)) Q E s := by
  have ty := typeIs_str s x t
  unfold Builtin.List.listLengthHint
  refine wpAny_bind (wpAny_specialOf ty F.slot_str_len.lookup ?_)
  generalize e0 : ("str.__len__" : String) = n0
  wp_delta
  rw [show splitId n0 = some ("str", "__len__") from by rw [← e0]; decide +kernel]
  subst e0
  refine wpAny_bind (wpAny_isInstance (T := "str") (b := true) ty (by rw [isSubtype_type]; kernel_rfl) ?_)
  refine wpAny_ite_split (fun c => absurd c (by decide)) fun _ => wpAny_ite_split (fun _ => wpAny_bind (wpAny_typeOf ty (wpAny_pure h))) fun c => absurd (by decide +kernel) c
theorem text_extend {R : Result → Shared → Prop} (hh : A.handled = none) (S : Addr) (res : Value) (c₀ : Nat) (hS : s.heap.get? S = some { cls := .type "list", data := .seq #[] c₀ }) (hn : x.cps.size ≤ sizeLine)
    (hR : ∀ h' tk acc c', (∀ b o, b ≠ S → s.heap.get? b = some o → h'.get? b = some o) → h'.get? S = some { cls := .type "list", dict := none, data := .seq acc c', slots := #[] } → ItemsOf (SignAt x) acc x.cps.size → R (.ok (.ret res)) { s with heap := h', toks := tk }) :
    wpAny (model prog w) A.in1 (Builtin.List.listExtendWith (.ref S) (.str x t) res) (fun fin s' => match fin with | .done f => R (.ok f) s' | .again c' => c'.quiet = true ∧ codeAny (model prog w) A c' R s') (fun e s' => R (.error e) s') s := by
  have lt := Heap.lt_size hS
  unfold Builtin.List.listExtendWith
  refine wpAny_bind (wpAny_typeOf (T := "str") (v := .str x t) (typeIs_str s x t) ?_)
  simp only [show Builtin.List.listSameRef (.ref S) (.str x t) = false from rfl, show (Value.type "str" == Value.type "list") = false by decide, show (Value.type "str" == Value.type "tuple") = false by decide, Bool.or_false, Bool.false_eq_true, if_false]
  refine wpAny_bind (wpAny_pyIter_str fun o St W st0 => ?_)
  refine wpAny_bind (wpAny_holding (text_hint ?_))
  rw [if_neg (by first | decide | decide +kernel)]
  have nS : S ∉ [s.heap.objs.size] := fun z => Nat.ne_of_lt lt (List.mem_singleton.mp z)
  refine wpAny_pure ⟨plainId_quiet F.plain_extend_loop _, codeAny_extend_loopS (W A.in1 hh).toS hn _ nS _ x.cps.size 0 _ _ _ rfl (Nat.zero_le _) st0 (Heap.get?_push_of_some _ hS) (ItemsOf.nil _) fun s' acc c' mv hS' ha => ?_⟩
  rw [Moved.eq_with mv]
  refine hR s'.heap s'.toks acc c' (fun b o nb e => mv.heap b o (fun z => ?_) (Heap.get?_push_of_some _ e)) hS' ha
  rcases List.mem_cons.mp z with z | z
  · exact nb z
  · exact Nat.lt_irrefl _ (List.mem_singleton.mp z ▸ Heap.lt_size e)
theorem list_text {Q : Value → Shared → Prop} (hh : A.handled = none) (hn : x.cps.size ≤ sizeLine)
    (hQ : ∀ h' tk acc c', (∀ b o, s.heap.get? b = some o → h'.get? b = some o) → h'.get? s.heap.objs.size = some { cls := .type "list", dict := none, data := .seq acc c', slots := #[] } → ItemsOf (SignAt x) acc x.cps.size → Q (.ref s.heap.objs.size) { s with heap := h', toks := tk }) :
    wpAny (model prog w) A (call (.type "list") [.str x t]) Q E s := by
  refine callType_codes (Q₁ := fun obj s₁ => obj = .ref s.heap.objs.size ∧ s₁ = { s with heap := s.heap.push { cls := .type "list", data := .seq #[] } }) F.called_list (F.typeCall_list_1 _) F.entry_list_init (code_list_new _ ⟨rfl, rfl⟩) fun obj s₁ e => ?_
  obtain ⟨rfl, rfl⟩ := e
  have h0 : (s.heap.push { cls := .type "list", data := .seq #[] }).get? s.heap.objs.size = some { cls := .type "list", data := .seq #[] } := Heap.get?_push_size _ rfl
  refine ⟨⟨_, h0, rfl⟩, F.args_list_init_2 _ _, ?_⟩
  show wpAny _ _ (do let old ← Builtin.List.listItems (.ref s.heap.objs.size); Builtin.List.listUpdate (.ref s.heap.objs.size) (fun _ => #[]); letGo old.toList.reverse; Builtin.List.listExtendWith (.ref s.heap.objs.size) (.str x t) .none) _ _ _
  refine wpAny_bind ?_
  unfold Builtin.List.listItems
  refine wpAny_bind (wpAny_seqItems h0 rfl (wpAny_pure ?_))
  show wpAny _ _ (updateSeq s.heap.objs.size (fun _ => #[]) >>= fun _ => letGo (#[] : Array Value).toList.reverse >>= fun _ => Builtin.List.listExtendWith (.ref s.heap.objs.size) (.str x t) .none) _ _ _
  refine wpAny_bind (wpAny_updateSeq h0 rfl ?_)
  refine wpAny_bind (wpAny_letGo ?_)
  refine text_extend (A := A.in1) hh _ .none _ (Heap.get?_update_self (Obj.mapSeq (fun _ => (#[] : Array Value))) h0 rfl) hn fun h' tk acc c' hk hS' ha => ?_
  exact ⟨rfl, hQ h' tk acc c' (fun b o e => hk b o (Nat.ne_of_lt (Heap.lt_size e)) ((Heap.get?_update_other _ _ (Ne.symm (Nat.ne_of_lt (Heap.lt_size e)))).trans (Heap.get?_push_of_some _ e))) hS' ha⟩
end
def signs (x : Str) : List Str := x.cps.toList.map fun c => ⟨#[c]⟩
def rListS : List V → Hp → VK → Prop := fun xs H Q => ∃ x, xs = [.str x] ∧ x.cps.size ≤ sizeLine ∧ ∀ l, H l = none → Q (.ref l) (upd H l (.lst ((signs x).map V.str)))
theorem cr_listS {X : Cx} (hc : X.calm = true) : CallR X (.type "list") rListS := by
  intro pins s σ H vs us Q I r h
  obtain ⟨x, rfl, hz, q⟩ := h
  obtain ⟨u, rfl, t, rfl⟩ := vals1 r
  refine list_text (I.ok.hd hc) hz fun h' tk acc c' hk e hi => ?_
  have len : ((signs x).map V.str).length = x.cps.size := by rw [List.length_map, signs, List.length_map, Array.length_toList]
  refine ⟨.ref s.heap.objs.size, upd H s.heap.objs.size (.lst ((signs x).map V.str)), I.laid hk (Nat.le_refl _) ⟨by rw [len]; exact hz, acc.toList, c', ?_, by rw [Array.toArray_toList]; exact e⟩, rfl, q _ (I.hok.fresh (Nat.le_refl _))⟩
  refine vals_of_idx _ _ (by rw [len, Array.length_toList]; exact hi.1) fun j u hj => ?_
  obtain ⟨c, t', hc, rfl⟩ := hi.2 j u (by rw [← Array.getElem?_toList]; exact hj)
  exact ⟨.str ⟨#[c]⟩, by simp [signs, hc], ⟨_, rfl⟩⟩
def listA : List D → Option D
  | [.str x] => if decide (x.cps.size ≤ 16000000) = true then some (.lst ((signs x).map D.str)) else none
  | ds => listD ds
def rListA (K : Fr) : List V → Hp → VK → Prop := fun vs H Q => rListOf K vs H Q ∨ rListS vs H Q
theorem rep_strs {K : Fr} {H : Hp} : ∀ l : List Str, RepL K H (l.map D.str) (l.map V.str)
  | [] => rfl
  | x :: l => ⟨.str x, _, rfl, rfl, rep_strs l⟩
theorem rc_listA {K : Fr} : RC K (rListA K) listA := by
  intro F os ρ σ H s Q vs ds d st r e q
  have old : listD ds = some d → rListA K vs H Q := fun e => .inl (rc_list F os ρ σ H s Q vs ds d st r e q)
  match ds, r, e, old with
  | [], r, e, old => exact old e
  | [.str x], r, e, old =>
    obtain ⟨v, rfl, r1⟩ := one_arg r
    have e : (if decide (x.cps.size ≤ 16000000) = true then some (D.lst ((signs x).map D.str)) else none) = some d := e
    split at e
    · next g =>
      cases e
      have g := of_decide_eq_true g
      exact .inr ⟨x, by rw [show v = .str x from r1], by rw [sizeLine_eq]; omega, fun p np => new_lst st (rep_strs _) q p np⟩
    · cases e
  | [.non], r, e, old => exact old e
  | [.bl _], r, e, old => exact old e
  | [.int _], r, e, old => exact old e
  | [.ty _], r, e, old => exact old e
  | [.ref _], r, e, old => exact old e
  | [.lst _], r, e, old => exact old e
  | [.tup _], r, e, old => exact old e
  | [.tup0 _], r, e, old => exact old e
  | [.dic _], r, e, old => exact old e
  | [.dct _], r, e, old => exact old e
  | [.ins _ _], r, e, old => exact old e
  | [.rng _ _], r, e, old => exact old e
  | x :: y :: l, r, e, old => exact old (by cases x <;> exact e)
section
variable {P : Program} {w : World} {K : Fr} {mg : Str → Option Value} {base : Heap} {cl : Str → Addr} {E : SK} {Φ : Cxs P w K mg base E} {O : List Nat}
variable {e : Expr} {fs : Env → M (List D)} {pos p : Pos}
theorem me_listA (hg : ∀ j, Gl (Φ.X j) "list") (hm : mg "list" = none) (ha : MA Φ cl O [e] fs) (he : ∀ env, starEach [e] env = (false, eval e env) :: starEach [] env := by intro _; rfl) : ME Φ cl O (.Call (.Name "list" p) [e] [] pos) (fCall listA fs) := me_callTy (fun j => by
  have z := CallR.or (@call_listR (Φ.X j)) (cr_listS (Φ.calm j))
  rwa [Φ.hK j] at z) rc_listA hg hm (by decide +kernel) ha (he := he)
end
end Dm

namespace Dm
open PySem PySem.Spec PyProof.Rows L2 My
/-! defs that are called where no list's text is being told: repr of lists may be asked there -/
structure FnG (P : Program) (w : World) (K : Fr) (mg : Str → Option Value) (base : Heap) (k : Nat) (f : Addr) (fd : FuncData) (ps : List Str) (sp : Sp) : Prop where
  len : ∀ vs H Q E, sp vs H Q E → vs.length = ps.length
  run : ∀ (A : Around) (outer : List PySem.Env) (s : Shared) (H : Hp) (args : Args) (us : List Value) (vs : List V) (Q : VK) (E : XK), Room k A → A.guards = some [] → Env0 P w K mg base A outer s H → BindsTo s fd args (ps.zip us) → Vals vs us → sp vs H Q E →
    codeAny (model P w) A (.call (.ref f) args) (CR (L2.CX P w) outer P w H s Q E) s
theorem FnG.of {P : Program} {w : World} {K : Fr} {mg : Str → Option Value} {base : Heap} {k : Nat} {f : Addr} {fd : FuncData} {ps : List Str} {sp : Sp} (F : FnOk P w K mg base (L2.CX P w) k f fd ps sp) : FnG P w K mg base k f fd ps sp :=
  ⟨F.len, fun A outer s H args us vs Q E r _ e b v h => F.run A outer s H args us vs Q E r e b v h⟩
section
variable {X : Cx} {k : Nat} {f : Addr} {fd : FuncData} {ps : List Str} {sp : Sp} {E : L2.St → XK} {x : Str} {p pos : Pos} {e : Expr} {es : List Expr} {t : TA}
theorem pe_callG (F : FnG X.prog X.w X.K X.mg X.base k f fd ps sp) (hr : Room k X.A) (hgd : X.A.guards = some []) (hg : Gl X x) (hm : X.mg x = some (.ref f)) (hk : PySem.W.keepIn X.K (.ref f) = true) (hb : Binds X.K fd ps [])
    (hx : ∀ σ, PassesAt (L2.CX X.prog X.w) X σ (E σ)) (ha : PA X (e :: es) t) (hdb : (x == ("__debug__" : Str)) = false := by decide) (he : starEach (e :: es) X.env = (false, eval e X.env) :: starEach es X.env := by rfl) (hpl : (backTo pos (starEach es X.env)).any (·.1) = false := by rfl) :
    PE X (.Call (.Name x p) (e :: es) [] pos) (fun σ H Q => t σ H fun vs H1 => sp vs H1 Q (E σ)) := by
  refine ⟨fun pins s σ H Q I h => wpAny_Call_Name_kw (ld_glob I hg hm (PySem.W.callWith_K (h₀ := X.base) I.ok.mod.kin hk (thn (ha.run pos pins s σ H _ I h) fun us s1 ⟨vs, H1, I1, r, q⟩ => ⟨I1.kIn, ?_⟩) he hpl) hdb)⟩
  have hl : us.length = ps.length := by
    rw [← r.length]
    exact F.len _ _ _ _ q
  have bd := hb s1 us I1.kIn (by rw [List.append_nil]; exact hl)
  rw [List.append_nil] at bd
  refine wpAny_call (codeAny_mono (F.run X.A X.stack s1 H1 ⟨us, []⟩ us vs Q (E σ) hr hgd I1.env0 bd r q) fun r s' hq => ?_)
  cases r with
  | error e => exact hx σ pins H1 s1 e s' I1 hq
  | ok fl =>
    cases fl with
    | ret u => exact I1.after hq
    | _ => exact hq.elim
end
/-- a def by its body, the guards at hand -/
theorem fnG_of {P : Program} {w : World} {K : Fr} {mg : Str → Option Value} {base : Heap} {k : Nat} {x qual : Str} {st : Stmt} {f : Addr} {fd : FuncData} {N ps : List Str} {sp : Sp} (F : L2.Fun K x qual st f fd) (S : FnScope N ps (defScope st)) (len : ∀ vs H Q E, sp vs H Q E → vs.length = ps.length)
    (hbody : ∀ (cdv : Value) (A : Around) (outer : List PySem.Env) (s : Shared) (H : Hp) (vs : List V) (Q : VK) (E : XK), Room k (A.deeper (envOfC qual (defScope st) s.heap.objs.size f cdv)) → A.guards = some [] → sp vs H Q E →
      ∃ t, PSs (cxOf (L2.CX P w) P w K mg base N qual (defScope st) f cdv A outer s H E) (defBody st) t ∧ t { nx := fun _ H' => Q .non H', rt := Q } (L2.start N vs) H) : FnG P w K mg base (k + 1) f fd ps sp := by
  obtain ⟨oc, od, kV, doc, pm, an, cdv, ct, osl, rfl, lk, hcd⟩ := F.ex
  refine ⟨len, fun A outer s H args us vs Q E hr hgd e0 hb r hsp => ?_⟩
  have kin : K.In s.heap := e0.mod.kin.keeps fun b o e => (e0.bs b o e).1
  have par : ∀ y ∈ ps.zip us, (defScope st).names.lookup y.1 = some .local ∨ ((defScope st).names.lookup y.1 = some .cell ∧ ((cellsFrom (s.heap.objs.size + 1) (defScope st).names []).lookup y.1).isSome = true) := by
    intro y hy
    exact (S.par y.1 (List.of_mem_zip hy).1).imp id fun q => ⟨q, PySem.W.cellsFrom_some _ _ _ (.inl q)⟩
  refine codeAny_call_function hr.depth (kin _ _ lk) rfl S.co S.gen rfl (PySem.W.codeRec_of kin hcd) (hb _ _ _ _ (wpAny_newFunctionEnv_cells S.kind par fun env he s1 z => ?_))
  subst he
  refine ⟨(e0.mod.nolimit.keeps fun b o e => (e0.bs b o e).1).keeps z.toInCall.keep, codeAny_func ?_⟩
  obtain ⟨t, ht, hq⟩ := hbody cdv A outer s H vs Q E (hr.deeper _) hgd hsp
  refine wpAny_mono (ht.run [] s1 (L2.start N vs) H _ (inv_start S hr.hd e0 (len _ _ _ _ hsp) r z) hq) (fun fl s' hs => ?_) fun _ _ hs => hs
  cases fl with
  | ret u =>
    obtain ⟨v, σ', H', J, rv, q⟩ := hs
    exact ⟨v, H', J.os, J.bare, J.base, J.hok, rv, q⟩
  | next =>
    obtain ⟨σ', H', J, q⟩ := hs
    exact ⟨.non, H', J.os, J.bare, J.base, J.hok, rfl, q⟩
  | brk =>
    obtain ⟨_, _, _, q⟩ := hs
    exact q.elim
  | cont =>
    obtain ⟨_, _, _, q⟩ := hs
    exact q.elim
/-! repr of a list or a tuple -/
def rReprG (K : Fr) : List V → Hp → VK → Prop := fun vs H Q => ∃ (a : Addr) (d : PyData), vs = [.ref a] ∧ Dp K H (.ref a) d ∧ d.showable = true ∧ d.hasDict = false ∧ d.depth ≤ 60 ∧ d.shown.length ≤ 1000000 ∧ Q (.str d.shown) H
theorem cr_reprG {X : Cx} (hgd : X.A.guards = some []) (hu : X.A.units + 64 < cLine) : CallR X (.builtin "repr") (rReprG X.K) := by
  intro pins s σ H vs us Q I r h
  obtain ⟨a, d, rfl, hd, sh, nd, dp, sz, q⟩ := h
  obtain ⟨u, rfl, r1⟩ := vals1 r
  cases r1
  obtain ⟨as, q1⟩ := Dp.reads I d (.ref a) _ hd rfl
  exact PySem.repr_of_reads' q1 sh (fun e => by rw [nd] at e; cases e) hgd (by omega) (fun _ _ e => e) (fun h' u tk k => ⟨.str d.shown, H, I.kept k, ⟨_, rfl⟩, q⟩) (by rw [sizeLine_eq]; omega)
def isSq : D → Bool
  | .lst _ => true
  | .tup _ => true
  | _ => false
def reprG : List D → Option D
  | [.bl b] => some (.str (if b then "True" else "False"))
  | [x] => if (isSq x && isData x && (py x).showable && !(py x).hasDict && decide ((py x).depth ≤ 60) && decide ((py x).shown.length ≤ 1000000)) = true then some (.str (py x).shown) else none
  | _ => none
def rReprA (K : Fr) : List V → Hp → VK → Prop := fun vs H Q => (∃ b, vs = [.bl b] ∧ Q (.str (if b then "True" else "False")) H) ∨ rReprG K vs H Q
theorem rc_reprG {K : Fr} : RC K (rReprA K) reprG := by
  intro F os ρ σ H s Q vs ds d st r e q
  have go : ∀ x, ds = [x] → (if (isSq x && isData x && (py x).showable && !(py x).hasDict && decide ((py x).depth ≤ 60) && decide ((py x).shown.length ≤ 1000000)) = true then some (D.str (py x).shown) else none) = some d → rReprA K vs H Q := fun x ex e2 => by
    subst ex
    split at e2
    · next g =>
      cases e2
      simp only [Bool.and_eq_true, decide_eq_true_eq, Bool.not_eq_true'] at g
      obtain ⟨⟨⟨⟨⟨g1, g2⟩, g3⟩, g4⟩, g5⟩, g6⟩ := g
      obtain ⟨v, rfl, r1⟩ := one_arg r
      have dp := data_dp g2 r1
      have ev : ∃ a, v = .ref a := by
        cases x <;> first | (cases g1; done) | exact ⟨_, r1.choose_spec.choose_spec.1⟩
      obtain ⟨a, rfl⟩ := ev
      exact .inr ⟨a, _, rfl, dp, g3, g4, g5, g6, q _ H Mw.refl st rfl⟩
    · cases e2
  match ds, e, go with
  | [], e, _ => cases e
  | [x], e, go =>
    cases x with
    | bl b =>
      obtain ⟨v, rfl, r1⟩ := one_arg r
      cases e
      exact .inl ⟨b, by rw [show v = .bl b from r1], q _ H Mw.refl st rfl⟩
    | _ => exact go _ rfl e
  | x :: y :: l, e, _ => cases x <;> cases e
section
variable {P : Program} {w : World} {K : Fr} {mg : Str → Option Value} {base : Heap} {cl : Str → Addr} {E : SK} {Φ : Cxs P w K mg base E} {O : List Nat}
variable {e : Expr} {es : List Expr} {fs : Dm.Env → M (List D)} {pos p : Pos}
theorem me_reprG (hgd : ∀ j, (Φ.X j).A.guards = some []) (hg : ∀ j, Gl (Φ.X j) "repr") (hm : mg "repr" = none) (ha : MA Φ cl O [e] fs) (he : ∀ env, starEach [e] env = (false, eval e env) :: starEach [] env := by intro _; rfl) : ME Φ cl O (.Call (.Name "repr" p) [e] [] pos) (fCall reprG fs) := me_callB (fun j => by
  have z := CallR.or (call_repr_bl (X := Φ.X j)) (cr_reprG (hgd j) (Φ.u64 j))
  rwa [Φ.hK j] at z) rc_reprG hg hm (by decide +kernel) ha (he := he)
theorem me_ownG {x : Str} {fa : Addr} {fd : FuncData} {ps : List Str} {k : Nat} {n : Nat} {m : List D → M D} (Fn : FnG P w K mg base k fa fd ps (spD K cl n m)) (hk : k ≤ Φ.lv) (hgd : ∀ j, (Φ.X j).A.guards = some []) (hg : ∀ j, Gl (Φ.X j) x) (hm : mg x = some (.ref fa)) (kp : PySem.W.keepIn K (.ref fa) = true)
    (hb : Binds K fd ps []) (ha : MA Φ cl O (e :: es) fs) (hdb : (x == ("__debug__" : Str)) = false := by decide) (he : ∀ env, starEach (e :: es) env = (false, eval e env) :: starEach es env := by intro _; rfl) (hpl : ∀ env, (backTo pos (starEach es env)).any (·.1) = false := by intro _; rfl) :
    ME Φ cl O (.Call (.Name x p) (e :: es) [] pos) (fOwn n m fs) := by
  obtain ⟨t, pa, ra⟩ := ha
  refine ⟨_, fun j => ?_, r_own ra⟩
  have Fn2 : FnG (Φ.X j).prog (Φ.X j).w (Φ.X j).K (Φ.X j).mg (Φ.X j).base k fa fd ps (spD K cl n m) := by
    rw [Φ.hP, Φ.hw, Φ.hK, Φ.hmg, Φ.hb]
    exact Fn
  exact pe_callG (E := E) Fn2 ((Φ.room j).mono hk) (hgd j) (hg j) (by rw [Φ.hmg]; exact hm) (by rw [Φ.hK]; exact kp) (by rw [Φ.hK]; exact hb) (Φ.pass j) (pa j) hdb (he _) (hpl _)
end
end Dm

namespace Dm
open PySem PySem.Spec PyProof.Rows L2 My
section
variable {P : Program} {w : World} {K : Fr} {mg : Str → Option Value} {base : Heap} {cl : Str → Addr}
theorem okG {x qual : Str} {st : Stmt} {f : Addr} {fd : FuncData} {N ps : List Str} {k : Nat} (Fn : L2.Fun K x qual st f fd) (S : FnScope N ps (defScope st)) (hN : N.length ≤ 900) (m : Env → M Out) {O' : List Nat}
    (hb : ∀ (cdv : Value) (A : Around) (outer : List PySem.Env) (s : Shared) (H : Hp) (E : XK) (hr : Room k (A.deeper (envOfC qual (defScope st) s.heap.objs.size f cdv))) (hgd : A.guards = some []), MSs (defCx P w K mg base N S.nd qual (defScope st) f k cdv A outer s H E hr) cl [] O' [] (defBody st) m) :
    FnG P w K mg base (k + 1) f fd ps (spD K cl ps.length (fnM N.length m)) := by
  refine fnG_of Fn S (fun vs H Q E h => ?_) (fun cdv A outer s H vs Q E hr hgd h => ?_)
  · obtain ⟨F, s, ds, _, _, _, r, hl, _⟩ := h
    rw [← r.len]
    exact hl
  · obtain ⟨F, b, ds, eH, fok, bag, r, hl, q⟩ := h
    obtain ⟨t, p, rs⟩ := hb cdv A outer s H E hr hgd
    refine ⟨t, p (), ?_⟩
    subst eH
    have st0 : StOk K (F.at fun _ => none) [] (ds.map some ++ List.replicate (N.length - ds.length) none) (L2.start N vs) F.H0 b := by
      have e1 := r.len
      refine ⟨Mw.refl, ⟨fok.qW, fok.cW, fok.cq, fok.wild⟩, bag, (fun p hp => nomatch hp), (fun p hp => nomatch hp), List.nodup_nil, ?_, ?_, (fun a o e => nomatch e), fun i d e => ?_⟩
      · unfold L2.start
        rw [List.length_append, List.length_append, List.length_map, List.length_map, List.length_replicate, List.length_replicate, e1]
      · have h1 : ps.length ≤ N.length := by
          have h3 := congrArg List.length S.pre
          rw [List.length_take] at h3
          omega
        rw [List.length_append, List.length_map, List.length_replicate]
        omega
      · exact start_slots r i d e
    refine rs (F.at fun _ => none) [] _ _ F.H0 b _ rfl st0 ?_
    unfold fnM at q
    cases e : m (ds.map some ++ List.replicate (N.length - ds.length) none) b with
    | bad =>
      simp only [e] at q
      exact q
    | exc nm fs s1 =>
      simp only [e] at q
      exact q
    | ok o s1 =>
      cases o with
      | nx ρ' =>
        simp only [e] at q
        exact fun os' σ' H' hO st' => q .non H' st'.mv st'.bag rfl
      | rt d =>
        simp only [e] at q
        exact q
      | bk _ =>
        simp only [e] at q
        exact q.elim
      | ct _ =>
        simp only [e] at q
        exact q.elim
theorem ok_lawG {x qual p0 : Str} {st st0 : Stmt} {rest : List Stmt} {f : Addr} {fd : FuncData} {N : List Str} {k i : Nat} {T : List (Addr × Str)} (Fn : L2.Fun K x qual st f fd) (S : FnScope N [p0] (defScope st)) (hN : N.length ≤ 900) (hi : i < N.length) (m : Dm.Env → M Out) {O' : List Nat}
    (hbd : defBody st = st0 :: rest)
    (h1 : ∀ (cdv : Value) (A : Around) (outer : List PySem.Env) (s : Shared) (H : Hp) (E : XK) (hr : Room k (A.deeper (envOfC qual (defScope st) s.heap.objs.size f cdv))),
      ∃ t1, PS (cxOf (L2.CX P w) P w K mg base N qual (defScope st) f cdv A outer s H E) st0 (tAsg t1 (gName i)) ∧ ∀ σ H Q v, σ[0]? = some (some v) → sp_bagD K [v] H Q C8.E0 → t1 σ H Q)
    (hb : ∀ (cdv : Value) (A : Around) (outer : List PySem.Env) (s : Shared) (H : Hp) (E : XK) (hr : Room k (A.deeper (envOfC qual (defScope st) s.heap.objs.size f cdv))) (hgd : A.guards = some []), MSs (defCx P w K mg base N S.nd qual (defScope st) f k cdv A outer s H E hr) cl [] O' [] rest m)
    (hm : ∀ (q : Addr) (cells : List Int), ∃ s', m ((List.replicate N.length none).set i (some (.ref q))) ⟨q, cells, 0, 0, T⟩ = .ok (.rt (.bl true)) s') :
    FnG P w K mg base (k + 1) f fd [p0] (sp_lawD K (T.map (·.1))) := by
  refine fnG_of Fn S (fun vs H Q E h => ?_) (fun cdv A outer s H vs Q E hr hgd h => ?_)
  · obtain ⟨a, ns, rfl, _⟩ := h
    rfl
  · obtain ⟨a, ns, rfl, hS, hl, hT, want⟩ := h
    obtain ⟨t, p, rs⟩ := hb cdv A outer s H E hr hgd
    rw [hbd]
    obtain ⟨t1, p1, r1⟩ := h1 cdv A outer s H E hr
    refine ⟨_, pss_cons p1 (p ()), ?_⟩
    have nN : 1 ≤ N.length := by
      have h3 := congrArg List.length S.pre
      rw [List.length_take] at h3
      have : [p0].length = 1 := rfl
      omega
    refine r1 _ _ _ (.ref a) (by unfold L2.start; rfl) ⟨a, ns, rfl, hS, by omega, fun H1 q c cells sm eq ec cq => ?_⟩
    have tabs : LamX.Tabs T H1 := fun pr hpr => by
      have e := sm _ _ (hT pr.1 (List.mem_map.mpr ⟨pr, hpr, rfl⟩))
      exact LamX.TabS.nil e
    have st0 : StOk K ⟨[q, c], H1, q, c, fun _ => none, T⟩ [] ((List.replicate N.length none).set i (some (.ref q))) ((L2.start N [.ref a]).set i (some (.ref q))) H1 ⟨q, cells, 0, 0, T⟩ := by
      refine ⟨Mw.refl, ⟨List.mem_cons_self, List.mem_cons_of_mem _ List.mem_cons_self, cq, fun b hb => ?_⟩, ⟨rfl, tabs, rfl, eq, ec⟩, (fun p hp => nomatch hp), (fun p hp => nomatch hp), List.nodup_nil, ?_, ?_, (fun a o e => nomatch e), fun j d e => ?_⟩
      · rcases List.mem_cons.mp hb with z | z
        · exact ⟨_, by rw [z]; exact eq, rfl⟩
        · rw [List.mem_singleton.mp z]
          exact ⟨_, ec, rfl⟩
      · rw [List.length_set, List.length_set, List.length_replicate]
        unfold L2.start
        rw [List.length_append, List.length_map, List.length_replicate]
        show 1 + (N.length - 1) = _
        omega
      · rw [List.length_set, List.length_replicate]
        exact hN
      · have hls : (L2.start N [V.ref a]).length = N.length := by
          unfold L2.start
          rw [List.length_append, List.length_map, List.length_replicate]
          show 1 + (N.length - 1) = _
          omega
        by_cases cj : i = j
        · subst cj
          rw [List.getElem?_set_self (by rw [List.length_replicate]; exact hi)] at e
          have e : d = .ref q := (Option.some.inj (Option.some.inj e)).symm
          subst e
          exact ⟨.ref q, List.getElem?_set_self (by rw [hls]; exact hi), rfl⟩
        · rw [List.getElem?_set_ne cj] at e
          have h2 := List.mem_of_getElem? e
          have h3 := List.eq_of_mem_replicate h2
          cases h3
    obtain ⟨s', es⟩ := hm q cells
    refine rs ⟨[q, c], H1, q, c, fun _ => none, T⟩ [] _ _ H1 _ _ rfl st0 ?_
    rw [es]
    exact fun v H' _ _ r => by
      rw [show v = .bl true from r]
      exact want H'
end
end Dm

namespace Dm
open PySem PySem.Spec PyProof.Rows L2 My LamX
/-! the end of a law that is called with its guards -/
/-- what is tracked at the head: the tables, and the script where the program does not hold it -/
def headH (hid : Bool) (a : Addr) (o : Obj) (xs : List V) (T : List Addr) : Hp := fun b => if b ∈ T then some (.tbl #[]) else if hid = true ∧ b = a then some (.frz o (.lst xs)) else none
theorem headH_tab {hid : Bool} {a b : Addr} {o : Obj} {xs : List V} {T : List Addr} (h : b ∈ T) : headH hid a o xs T b = some (.tbl #[]) := if_pos h
theorem headH_some {hid : Bool} {a b : Addr} {o : Obj} {xs : List V} {T : List Addr} {u : HO} (h : headH hid a o xs T b = some u) : (b ∈ T ∧ u = .tbl #[]) ∨ (hid = true ∧ b = a ∧ u = .frz o (.lst xs)) := by
  unfold headH at h
  split at h
  · next c => exact .inl ⟨c, (Option.some.inj h).symm⟩
  · split at h
    · next c => exact .inr ⟨c.1, c.2, (Option.some.inj h).symm⟩
    · cases h
theorem headH_none {hid : Bool} {a b : Addr} {o : Obj} {xs : List V} {T : List Addr} (h1 : b ∉ T) (h2 : hid = true → b ≠ a) : headH hid a o xs T b = none := by
  cases e : headH hid a o xs T b with
  | none => rfl
  | some u =>
    rcases headH_some e with ⟨m, _⟩ | ⟨h, m, _⟩
    · exact absurd m h1
    · exact absurd m (h2 h)
section
variable {P : Program} {w : World} {K : Fr} {mg mb : Str → Option Value} {k : Nat} {fa a : Addr} {cs : List (Addr × Addr)} {fd : FuncData} {x : Str} {sp : Sp} {s₁ : Shared} {vs : List Value} {ns : List Int}
theorem law_callG (KX : K.In s₁.heap) (hns : s₁.heap.Ns mainGlobals mg) (hb : s₁.heap.Ns builtinsNs mb) (hbb : ∀ x : Str, x ≠ "__name__" → mb x = bootBuiltins x) (hlim : s₁.heap.NoLimit) (hg : s₁.gens = #[])
    (hT : ∀ p ∈ cs, s₁.heap.get? p.2 = some { cls := .none, data := .fields #[] }) (nT : ∀ p ∈ cs, K.lookup p.2 = none) (C : ∀ p ∈ cs, PySem.W.CodeHd s₁.heap p.1 p.2)
    (hbm : ∃ (bm : Addr) (ob : Obj), mg "__builtins__" = some (.ref bm) ∧ bm ≠ builtinsNs ∧ s₁.heap.get? bm = some ob ∧ ob.cls = .type "module" ∧ ob.dict = some builtinsNs ∧ ob.data = .plain)
    (ha : s₁.heap.get? a = some { cls := .type "list", data := .seq vs.toArray }) (hi : IntsAre vs ns) (hl : ns.length ≤ sizeLine) (hr : Room k callerA)
    (F : ∀ base : Heap, K.In base → base.Ns mainGlobals mg → (∀ p ∈ cs, TabB base mg p.1 p.2) → FnG P w K mg base k fa fd [x] sp) (hbind : ∀ (s : Shared) (u : Value), BindsTo s fd ⟨[u], []⟩ [(x, u)])
    (hsp : ∀ H : Hp, (∀ p ∈ cs, H p.2 = some (.tbl #[])) → SqL K H a (ns.map V.int) → sp [.ref a] H (fun v _ => v = .bl true) fun _ _ _ => False) :
    codeAny (model P w) callerA (.call (.ref fa) ⟨[.ref a], []⟩) (fun r s' => r = .ok (.ret (.bool true)) ∧ OldK s₁.heap s'.heap ∧ s'.os = s₁.os ∧ AllBare s'.gens) s₁ := by
  have rv := vals_ints hi
  let T := cs.map (·.2)
  let lo : Obj := { cls := .type "list", data := .seq vs.toArray }
  let hd := (K.lookup a).isNone
  let H := headH hd a lo (ns.map V.int) T
  have atT : ∀ b, b ∈ T → s₁.heap.get? b = some { cls := .none, data := .fields #[] } ∧ K.lookup b = none := fun b m => by
    obtain ⟨p, hp, rfl⟩ := List.mem_map.mp m
    exact ⟨hT p hp, nT p hp⟩
  have inT : ∀ p ∈ cs, p.2 ∈ T := fun p hp => List.mem_map.mpr ⟨p, hp, rfl⟩
  have na : a ∉ T := fun m => by
    have e := (atT a m).1
    rw [ha] at e
    cases e
  -- whatever is no list and no empty table is free
  have free : ∀ {b : Addr} {o : Obj}, s₁.heap.get? b = some o → o.data ≠ .seq vs.toArray → o.data ≠ .fields #[] → H b = none := fun {b o} e n1 n2 => headH_none
    (fun m => by
      rw [(atT b m).1] at e
      cases e
      exact n2 rfl)
    (fun _ m => by
      rw [m, ha] at e
      cases e
      exact n1 rfl)
  have up : ∀ {b : Addr} {o : Obj}, s₁.heap.get? b = some o → H b = none → (hidT s₁.heap H).get? b = some o := fun e n => hidT_get e n
  have nsp : ∀ {b : Addr} {m : Str → Option Value}, s₁.heap.Ns b m → (hidT s₁.heap H).Ns b m := fun {b m} ⟨o, es, ep, e, d, r⟩ => ⟨o, es, ep, up e (free e (by rw [d]; exact fun z => nomatch z) (by rw [d]; exact fun z => nomatch z)), d, r⟩
  have kin : K.In (hidT s₁.heap H) := fun b o e => up (KX b o e) (headH_none (fun m => by rw [(atT b m).2] at e; cases e) fun h m => by
    rw [m] at e
    have h : (K.lookup a).isNone = true := h
    rw [e] at h
    cases h)
  have sq : SqL K H a (ns.map V.int) := by
    cases hk : K.lookup a with
    | none =>
      refine .inl (.inr ⟨lo, ?_⟩)
      show headH hd a lo (ns.map V.int) T a = _
      unfold headH
      rw [if_neg na, if_pos ⟨by show (K.lookup a).isNone = true; rw [hk]; rfl, rfl⟩]
    | some o =>
      have e := KX a o hk
      rw [ha] at e
      cases e
      exact .inr ⟨_, vs.toArray, _, hk, rfl, rfl, rfl, by rw [List.size_toArray, hi.length]; exact hl, by simpa using rv⟩
  have hok : HOk P w H s₁.heap := fun b u z => by
    rcases headH_some z with ⟨m, rfl⟩ | ⟨_, rfl, rfl⟩
    · exact (atT b m).1
    · exact ⟨ha, by rw [List.length_map]; exact hl, vs, _, rv, ha⟩
  have md : L2.Mod K mg (hidT s₁.heap H) := ⟨kin, nsp hns, ⟨mb, nsp hb, hbb⟩, by
    obtain ⟨mc, h1, h2⟩ := hlim
    exact ⟨mc, nsp h1, h2⟩⟩
  have tb : ∀ p ∈ cs, TabB (hidT s₁.heap H) mg p.1 p.2 := fun p hp => by
    refine ⟨?_, ?_, fun z => ?_⟩
    · obtain ⟨o, us, file, tf, flags, tg, inF, text, tt, e1, r1, r2, r3, rest⟩ := C p hp
      refine ⟨o, us, file, tf, flags, tg, inF, text, tt, up e1 (free e1 (by rw [r2]; exact fun z => nomatch z) fun z => ?_), r1, r2, r3, rest⟩
      rw [r2] at z
      cases z
      simp at r3
    · obtain ⟨bm, ob, b1, b2, b3, b4, b5, b6⟩ := hbm
      refine ⟨bm, ob, b1, b2, fun q => ?_, fun q => ?_, up b3 (free b3 (by rw [b6]; exact fun z => nomatch z) (by rw [b6]; exact fun z => nomatch z)), b4, b5, b6⟩
      · obtain ⟨o, es, ep, e, d, _⟩ := hns
        rw [q, e] at b3
        cases b3
        rw [d] at b6
        cases b6
      · rw [q, hT p hp] at b3
        cases b3
        cases b6
    · obtain ⟨o, es, ep, e, d, _⟩ := hns
      rw [z, hT p hp] at e
      cases e
      cases d
  have env : Env0 P w K mg (hidT s₁.heap H) callerA [] s₁ H := ⟨rfl, md, fun b o e => of_hidT e, Nat.le_of_eq (hidT_size _ _), trivial, (fun b m => nomatch m), hok, .of_eq hg⟩
  refine codeAny_mono ((F _ kin (nsp hns) tb).run callerA [] s₁ H ⟨[.ref a], []⟩ [.ref a] [.ref a] (fun v _ => v = .bl true) (fun _ _ _ => False) hr rfl env (hbind s₁ (.ref a)) (.cons rfl .nil) (hsp H (fun p hp => headH_tab (inT p hp)) sq)) fun r s' h => ?_
  cases r with
  | error e =>
    obtain ⟨_, _, _, _, _, _, _, _, _, _, _, _, z⟩ := h
    exact z.elim
  | ok fl =>
    cases fl with
    | ret u =>
      obtain ⟨v, H', os, bare, un, hok', r', q⟩ := h
      have q : v = .bl true := q
      subst q
      obtain rfl : u = Value.bool true := r'
      have kept : ∀ b o, b ∉ T → s₁.heap.get? b = some o → s'.heap.get? b = some o := fun b o nb e => by
        cases c : H b with
        | none => exact un.keep b o e c (fun m => nomatch m) (fun m => nomatch m)
        | some u =>
          rcases headH_some c with ⟨m, _⟩ | ⟨_, rfl, rfl⟩
          · exact absurd m nb
          · have e2 := (hok' _ _ (un.frzs _ _ _ c)).1
            rw [ha] at e
            rw [← e]
            exact e2
      have grow : ∀ p ∈ cs, ∃ more : Array Value, s'.heap.get? p.2 = some { cls := .none, data := .fields more } := fun p hp => by
        obtain ⟨more, z⟩ := un.tbls p.2 #[] (headH_tab (inT p hp))
        exact ⟨_, hok' _ _ z⟩
      refine ⟨rfl, ⟨fun b o e => ?_, fun b o e => ?_⟩, os, bare⟩
      · by_cases m : b ∈ T
        · obtain ⟨p, hp, rfl⟩ := List.mem_map.mp m
          obtain ⟨more, g⟩ := grow p hp
          rw [hT p hp] at e
          cases e
          exact .inr (.inl ⟨((C p hp).tab (hT p hp)).isCodeTable, rfl, #[], more, rfl, by rw [Array.empty_append]; exact g⟩)
        · exact .inl (kept b o m e)
      · by_cases m : b ∈ T
        · obtain ⟨p, hp, rfl⟩ := List.mem_map.mp m
          obtain ⟨more, g⟩ := grow p hp
          exact ⟨_, g⟩
        · exact ⟨o, kept b o m e⟩
    | _ => exact h.elim
end
end Dm

namespace Dm
open PySem PySem.Spec PyProof.Rows L2 My LamX
/-- what the head and the walk of a law bring together, its guards known -/
structure LawG (l : PySem.W.OpenLaw) (w : World) (K : Fr) (k n : Nat) (x : Str) (mg : Str → Option Value) (fa : Addr) (h : Heap) (fd : FuncData) (cs : List (Addr × Addr)) (sp : Sp) : Prop where
  tab : ∀ p ∈ cs, h.get? p.2 = some { cls := .none, data := .fields #[] }
  out : ∀ p ∈ cs, K.lookup p.2 = none
  code : ∀ p ∈ cs, PySem.W.CodeHd h p.1 p.2
  bind : ∀ (s : Shared) (u : Value), BindsTo s fd ⟨[u], []⟩ [(x, u)]
  ask : ∀ (H : Hp) (a : Addr) (ns : List Int), ns.length ≤ n → (∀ p ∈ cs, H p.2 = some (.tbl #[])) → SqL K H a (ns.map V.int) → sp [.ref a] H (fun v _ => v = .bl true) fun _ _ _ => False
  ok : ∀ base : Heap, K.In base → base.Ns mainGlobals mg → (∀ p ∈ cs, TabB base mg p.1 p.2) → FnG l.prog w K mg base k fa fd [x] sp
def LawAtG (l : PySem.W.OpenLaw) (w : World) (K : Fr) (k n : Nat) (x : Str) (mg : Str → Option Value) (fa : Addr) (h : Heap) : Prop := ∃ (fd : FuncData) (cs : List (Addr × Addr)) (sp : Sp), LawG l w K k n x mg fa h fd cs sp
theorem walk_ofTabsG {l : PySem.W.OpenLaw} {n k : Nat} {q : Program} {loose : List Str} {XP : (Str → Option Value) → Heap → Prop} {YP : World → Heap → Prop} {d : DefRec} {K : Params → PySem.W.Frag} {x : Str}
    (hn : l.most = some n) (hn2 : n ≤ sizeLine) (hdf : d.params.defaults = []) (hr : Room k callerA) (hY : ∀ (w : World) (h : Heap), YP w h → (K w.params).In h)
    (F : ∀ (w : World) (mg : Str → Option Value) (fa : Addr) (h : Heap), YP w h → (K w.params).In h → h.Ns mainGlobals mg → mg d.name = some (.ref fa) →
      (∀ (y : Str) (f : Addr), ((recsOf q).any fun e => e.name == y) = true → mg y = some (.ref f) → OwnTab (K w.params) f h) → LawAtG l w (K w.params) k n x mg fa h) :
    PySem.W.WalkO q loose XP YP l.row.toRowW d [] (fun f vs => PySem.call f vs) := by
  refine Att.attach_callB hn hdf fun w s₀ s₁ mg mb fa o pm cd doc a vs ns G Y ho hd hcd hmg hobj hints hlen hbits hg => ?_
  have KX := hY w _ Y
  have own : ∀ (y : Str) (f : Addr), ((recsOf q).any fun e => e.name == y) = true → mg y = some (.ref f) → OwnTab (K w.params) f s₁.heap := by
    intro y f hy hf c P o1 fd1 e dd vs1 sl k1 k2 k3 k4 k5
    obtain ⟨dL, hm, hn1⟩ := List.any_eq_true.mp hy
    obtain ⟨a', o', fd', c', P', h1, h2, h3, h4, _, ⟨⟨oc, vc, e1, _, e3, e4⟩, hP⟩⟩ := G.T.tab dL hm
    rw [beq_iff_eq.mp hn1, hf] at h1
    cases h1
    rw [KX _ _ k1] at h2
    cases h2
    rw [k2] at h3
    cases h3
    rw [k3] at h4
    cases h4
    rw [KX _ _ k4] at e1
    cases e1
    cases e3
    rw [k5] at e4
    cases e4
    exact hP
  obtain ⟨fd, cs, sp, L⟩ := F w mg fa _ Y KX G.T.g hmg own
  exact law_callG KX G.T.g G.T.b G.T.builtins G.T.nolimit hg L.tab L.out L.code G.T.bmain hobj hints (Nat.le_trans hlen hn2) hr L.ok L.bind fun H hH hS => L.ask H a ns hlen hH hS
end Dm

namespace Dm
open PySem PySem.Spec PyProof.Rows L2 My
/-! an owned list is looked at: what comes of it is a number, a truth value or a text -/
def scalar : D → Bool
  | .non => true
  | .bl _ => true
  | .int _ => true
  | .str _ => true
  | _ => false
theorem scalar_rep {K : Fr} {H H' : Hp} {d : D} {v : V} (h : scalar d = true) (r : Rep K H d v) : Rep K H' d v := by
  cases d <;> first | exact r | cases h
/-- the expression f is told in a frame in which slot i is a list as any other, the other owned slots are out of sight -/
def fLook (i : Nat) (O : List Nat) (f : Dm.Env → M D) (ρ : Dm.Env) : M D := fun s => match f (maskE (drpO O i) ρ) s with
  | .ok d s' => if scalar d = true then .ok d s' else .bad
  | _ => .bad
section
variable {P : Program} {w : World} {K : Fr} {mg : Str → Option Value} {base : Heap} {cl : Str → Addr} {E : SK} {Φ : Cxs P w K mg base E} {O : List Nat}
theorem me_look (i : Nat) {e : Expr} {f : Dm.Env → M D} (h : ME Φ cl [] e f) (hi : i ∈ O := by decide) : ME Φ cl O e (fLook i O f) := by
  obtain ⟨t, p, r⟩ := h
  refine ⟨t, p, fun F os ρ σ H s Q hO st q => ?_⟩
  unfold fLook at q
  obtain ⟨a, ea⟩ := mem_lookup' (os := os) (i := i) (by rw [hO]; exact hi)
  have ma := lookup_mem ea
  have sub : ∀ x ∈ (wld F os).filter (fun x => decide (x ≠ a)), x ∈ wld F os := fun x hx => (List.mem_filter.mp hx).1
  have keep : ∀ x ∈ wld F os, x ≠ a → x ∈ (wld F os).filter (fun x => decide (x ≠ a)) := fun x hx n => List.mem_filter.mpr ⟨hx, decide_eq_true n⟩
  have na : a ∉ (wld F os).filter (fun x => decide (x ≠ a)) := fun m => of_decide_eq_true (List.mem_filter.mp m).2 rfl
  have aq : a ≠ F.q := st.own_q (p := (i, a)) ma
  have ac : a ≠ F.c := fun z => st.own_ne (p := (i, a)) ma (by rw [z]; exact st.fok.cW)
  have st2 : StOk K ⟨(wld F os).filter (fun x => decide (x ≠ a)), H, F.q, F.c, fun _ => none, F.T⟩ [] (maskE (drpO O i) ρ) σ H s := by
    refine ⟨Mw.refl, ⟨keep _ st.qW (Ne.symm aq), keep _ (List.mem_append_right _ st.fok.cW) (Ne.symm ac), st.fok.cq, fun x hx => st.wpres (sub x hx)⟩, st.bag, (fun p hp => nomatch hp), (fun p hp => nomatch hp), List.nodup_nil, by rw [mask_len]; exact st.len, by rw [mask_len]; exact st.few, (fun a o e => nomatch e), fun j d e => ?_⟩
    obtain ⟨n, e2⟩ := mask_get (drpO O i) ρ j d e
    obtain ⟨v, e3, e4⟩ := st.slots j d e2
    refine ⟨v, e3, ?_⟩
    by_cases c : j = i
    · subst c
      rw [ea] at e4
      obtain ⟨rfl, o, e5, e6⟩ := e4
      rcases e6 with ⟨l, vs, rfl, rfl, e6⟩ | ⟨l, vs, rfl, rfl, e6⟩
      · exact ⟨a, vs, rfl, hid_at na rfl e5, RepL.mono (hid_sub sub) _ e6⟩
      · exact ⟨a, vs, rfl, hid_at na rfl e5, RepT.mono (hid_sub sub) _ e6⟩
    · have no : j ∉ os.map (·.1) := fun m => n (List.mem_filter.mpr ⟨by rw [← hO]; exact m, by simpa using c⟩)
      rw [lookup_none no] at e4
      exact Rep.mono (hid_sub sub) _ e4
  refine r _ [] _ σ H s Q rfl st2 ?_
  cases e1 : f (maskE (drpO O i) ρ) s with
  | bad =>
    rw [e1] at q
    exact q.elim
  | exc nm fs s1 =>
    rw [e1] at q
    exact q.elim
  | ok d s1 =>
    rw [e1] at q
    simp only at q
    intro v H1 m1 st1 r1
    by_cases c : scalar d = true
    · rw [if_pos c] at q
      exact q v H1 m1 (st.step m1 st1.bag) (scalar_rep c r1)
    · rw [if_neg c] at q
      exact q.elim
end
end Dm

namespace Dm
open PySem PySem.Spec PyProof.Rows L2 My
/-! ### x = y.pop(e) -/
def fSetPop (i j : Nat) (f : Dm.Env → M D) (ρ : Dm.Env) : M Out := match ownL j ρ with
  | some m => bnd (f ρ) fun d => match d with
    | .int k => if (decide (0 ≤ k) && szOk m.length) = true then (match m[k.toNat]? with
      | some y => ret (.nx ((ρ.set j (some (.lst (m.eraseIdx k.toNat)))).set i (some y)))
      | none => bad) else bad
    | _ => bad
  | none => bad
section
variable {P : Program} {w : World} {K : Fr} {mg : Str → Option Value} {base : Heap} {cl : Str → Addr} {E0 : XK} {O O' OL : List Nat} {Φ : CxsE P w K mg base E0}
theorem ms_setPop (i j : Nat) {x y : Str} {e : Expr} {f : Dm.Env → M D} {pos pos' p1 a1 c1 : Pos} (he : ME Φ cl O e f) (hi : ∀ k, (Φ.X k).N[i]? = some x := by intro _; rfl) (hx : ∀ k, Loc (Φ.X k).env.scope x := by intro _; first | exact Or.inl rfl | exact Or.inr rfl)
    (hf : ∀ k, (Φ.X k).fn x = true ∨ (Φ.X k).env.scope.names.lookup x = some .local := by intro _; first | exact Or.inl rfl | exact Or.inr rfl) (hO1 : i ∉ O := by decide)
    (hNj : ∀ k, (Φ.X k).N[j]? = some y := by intro _; rfl) (hvj : ∀ k, Vis (Φ.X k).env.scope y := by intro _; first | exact Or.inl rfl | exact Or.inr (Or.inl rfl) | exact Or.inr (Or.inr rfl)) (hj : j ∈ O := by decide)
    (hb2 : ∀ k, attributeBase (.Name y p1) "pop" (Φ.X k).env (eval (.Name y p1) (Φ.X k).env) = eval (.Name y p1) (Φ.X k).env := by intro _; rfl)
    (hf2 : ∀ env, ((backTo c1 (starEach [e] env)).all (fun x => !x.1) && (backToKw c1 (keywordEach [] env)).all (fun x => x.1.isSome) && decide ([e].length + ([] : List Keyword).length + (if ([] : List Keyword).isEmpty then 0 else 1) < 30)) = true := by intro _; rfl)
    (hl2 : (a1.endLine == c1.line) = true := by rfl) (hs2 : ∀ env, starEach [e] env = (false, eval e env) :: starEach [] env := by intro _; rfl)
    (hd2 : (y == ("__debug__" : Str)) = false := by decide) (hcd2 : (y == ("__classdict__" : Str)) = false := by decide)
    (hsw : ∀ env, swapsWith (.Call (.Attribute (.Name y p1) "pop" a1) [e] [] c1) (some (.Name x pos')) pos.line env = pure false := by intro _; rfl) :
    MS Φ cl O O OL (.Assign [.Name x pos'] (.Call (.Attribute (.Name y p1) "pop" a1) [e] [] c1) pos) (fSetPop i j f) := by
  obtain ⟨t, pe, re⟩ := he
  refine ⟨tAsg (tBM K "list" rPopAt (tVar j) (tCons t tNil)) (gName i), fun k => by
    have z2 := pe_bm (X := Φ.X k) PySem.F.plainAttrs_list PySem.F.slot_list_pop PySem.F.type_list_pop mt_popAt (pe_var (pos := p1) (hNj k) (hvj k) hd2 hcd2) (pa_cons (pe k) pa_nil (hs2 _)) (hb2 k) (hf2 _) hl2 (hs2 _) rfl
    rw [Φ.hK k] at z2
    exact ps_set (Φ.nd k) (hi k) (hx k) z2 (hsw _) (hf k), fun F os ρ σ H s Dn hO st q => ?_⟩
  unfold fSetPop at q
  cases eo2 : ownL j ρ with
  | none =>
    simp only [eo2] at q
    exact q.elim
  | some m =>
    simp only [eo2] at q
    obtain ⟨b, ws, eb, f1, f2, f3⟩ := st.owned hO hj eo2
    refine ⟨_, f1, .inl ⟨rfl, _, seqL f2⟩, ?_⟩
    refine re.bind hO st hxS hbS q fun d s1 v H1 m1 st1 r1 q1 => ?_
    cases d with
    | int k =>
      simp only at q1
      cases g : (decide (0 ≤ k) && szOk m.length) with
      | false =>
        simp only [g] at q1
        exact q1.elim
      | true =>
        simp only [g] at q1
        rw [Bool.and_eq_true] at g
        have k0 := of_decide_eq_true g.1
        cases ey : m[k.toNat]? with
        | none =>
          simp only [ey] at q1
          exact q1.elim
        | some y =>
          simp only [ey] at q1
          have f4 := m1.lst (st.own_q (lookup_mem eb)) f2
          have r5 := repL_mv st m1 f3
          obtain ⟨u, eu, ru⟩ := r5.get ey
          have lt : k.toNat < m.length := (List.getElem?_eq_some_iff.mp ey).1
          have ml := szOk_lt g.2
          rw [sizeLine_eq] at ml
          have lw := f3.len
          have ek : k = ((k.toNat : Nat) : Int) := by omega
          refine ⟨b, ws, k, k.toNat, u, rfl, by rw [show v = .int k from r1], f4, by omega, by omega, ?_, eu, ?_⟩
          · rw [ek, Int.toNat_natCast]
            exact seqIx (by omega)
          have st2 := st1.upd eb (ownL_at eo2) (r5.erase k.toNat)
          have eh : hid (wld F os) (upd H1 b (.lst (ws.eraseIdx k.toNat))) = hid (wld F os) H1 := hid_upd_in (List.mem_append_left _ (List.mem_map.mpr ⟨_, lookup_mem eb, rfl⟩))
          exact q1 os _ _ hO (st2.set (lookup_none (by rw [hO]; exact hO1)) (by rw [eh]; exact ru))
    | _ => exact q1.elim
end
end Dm

namespace Dm
open PySem PySem.Spec PyProof.Rows L2 My
/-! ### sorted(xs) of data of one kind, as many as there are -/
def rSortAny (K : PySem.W.Frag) (β : Type) (enc : β → PyData) : List V → Hp → VK → Prop := fun vs H Q => ∃ (a : Addr) (xs : List V) (bs : List β) (R : V → β → Prop), vs = [V.ref a] ∧ SqL K H a xs ∧
  PySem.W.EachIs (fun x b => R x b ∧ Dp K H x (enc b)) xs bs ∧ PySem.W.AllAlike (bs.map enc) ∧ PySem.W.Sortable (bs.map enc) ∧ bs.length ≤ sizeLine ∧ (∀ b ∈ bs, (enc b).depth ≤ 60) ∧
  ∀ (ys : List V) (p : Addr), ys.length = bs.length → PySem.W.EachIs R ys (bs.mergeSort (PySem.W.dataLe false enc)) → H p = none → Q (.ref p) (upd H p (.lst ys))
theorem each_of {α β γ : Type} {R : α → β → Prop} {S : γ → α → Prop} : ∀ {xs : List α} {bs : List β} {us : List γ}, PySem.W.EachIs R xs bs → Paired (fun x u => S u x) xs us → PySem.W.EachIs (fun u b => ∃ x, S u x ∧ R x b) us bs
  | _, _, _, .nil, .nil => .nil
  | _, _, _, .cons h t, .cons g r => .cons ⟨_, g, h⟩ (each_of t r)
theorem each_back {β : Type} {R : V → β → Prop} : ∀ {us : List Value} {bs : List β}, PySem.W.EachIs (fun u b => ∃ x, L2.RelV x u ∧ R x b) us bs → ∃ xs, Vals xs us ∧ PySem.W.EachIs R xs bs
  | _, _, .nil => ⟨[], .nil, .nil⟩
  | _, _, .cons ⟨x, h1, h2⟩ t => by
    obtain ⟨xs, h3, h4⟩ := each_back t
    exact ⟨x :: xs, .cons h1 h3, .cons h2 h4⟩
theorem each_len {α β : Type} {R : α → β → Prop} : ∀ {xs : List α} {bs : List β}, PySem.W.EachIs R xs bs → xs.length = bs.length
  | _, _, .nil => rfl
  | _, _, .cons _ t => by rw [List.length_cons, List.length_cons, each_len t]
theorem each_mono {α β : Type} {R S : α → β → Prop} (h : ∀ x b, R x b → S x b) : ∀ {xs : List α} {bs : List β}, PySem.W.EachIs R xs bs → PySem.W.EachIs S xs bs
  | _, _, .nil => .nil
  | _, _, .cons g t => .cons (h _ _ g) (each_mono h t)
theorem cr_sortAny {X : Cx} {β : Type} {enc : β → PyData} (hu : X.A.units + 64 < cLine) : CallR X (.builtin "sorted") (rSortAny X.K β enc) := by
  intro pins s σ H vs us Q I r h
  obtain ⟨a, xs, bs, R, rfl, hs, he, al, so, hl, hd, q⟩ := h
  have e1 := Vals.ref1 r
  subst e1
  obtain ⟨its, rv, pl, xl⟩ := I.list hs
  have E1 : PySem.W.EachIs (fun u b => ∃ x, L2.RelV x u ∧ (R x b ∧ Dp X.K H x (enc b))) its bs := each_of (S := fun u x => L2.RelV x u) he rv
  refine PySem.W.sorted_data (R := fun u b => ∃ x, L2.RelV x u ∧ R x b) (enc := enc) (bs := bs) (vs := its) pl.isList (each_mono (fun u b ⟨x, h1, h2⟩ => ⟨x, h1, h2.1⟩) E1) (each_mono (fun u b ⟨x, h1, h2⟩ => Dp.reads I _ x u h2.2 h1) E1) al so hl (fun b hb => by
    have := hd b hb
    omega) fun out lo eo => ?_
  obtain ⟨ys, h1, h2⟩ := each_back eo
  obtain ⟨c, hc⟩ := sortedAll_at s.heap its out.toArray
  have ly : ys.length = bs.length := by
    rw [each_len h2, List.length_mergeSort]
  have kp : ∀ b u, s.heap.get? b = some u → (PyProof.Rows.sortedAll s.heap its out.toArray).get? b = some u := fun b u e => sortedAll_old e
  have I2 : Inv X pins σ (upd H (s.heap.objs.size + 1) (.lst ys)) { heap := PyProof.Rows.sortedAll s.heap its out.toArray, gens := s.gens, drawn := s.drawn, toks := s.toks, os := s.os } :=
    I.laid (t' := s.toks) kp (Nat.le_succ _) ⟨by rw [ly]; exact hl, out, c, h1, hc⟩
  exact ⟨.ref (s.heap.objs.size + 1), _, I2, rfl, q ys _ ly h2 (I.hok.fresh (Nat.le_succ _))⟩
/-! the sorted row, one item after the other -/
def insD (le : D → D → Bool) (x : D) : List D → List D
  | [] => [x]
  | y :: l => if le x y = true then x :: y :: l else y :: insD le x l
def isortD (le : D → D → Bool) : List D → List D
  | [] => []
  | x :: l => insD le x (isortD le l)
theorem insD_app {le : D → D → Bool} {x : D} : ∀ {l1 l2 : List D}, (∀ b ∈ l1, (!le x b) = true) → (∀ b, l2.head? = some b → le x b = true) → insD le x (l1 ++ l2) = l1 ++ x :: l2
  | [], [], _, _ => rfl
  | [], y :: l2, _, h => by
    show (if le x y = true then _ else _) = _
    rw [if_pos (h y rfl)]
    rfl
  | y :: l1, l2, h1, h2 => by
    show (if le x y = true then _ else _) = _
    have := h1 y List.mem_cons_self
    rw [if_neg (by simpa using this)]
    exact congrArg (y :: ·) (insD_app (fun b hb => h1 b (List.mem_cons_of_mem _ hb)) h2)
def leD' : D → D → Bool := PySem.W.dataLe false py
theorem leD_total : PySem.W.TotalLe leD' := PySem.W.sortLe_total (PyProof.Rows.listOrd PyProof.Rows.itemOrd) false (fun b : D => PySem.W.keyToks (py b))
theorem isort_merge : ∀ l : List D, isortD leD' l = l.mergeSort leD'
  | [] => by rw [List.mergeSort_nil]; rfl
  | x :: l => by
    have tot : ∀ a b, (leD' a b || leD' b a) = true := fun a b => by
      rcases leD_total.total a b with h | h
      · rw [h, Bool.true_or]
      · rw [h, Bool.or_true]
    obtain ⟨l1, l2, e1, e2, h1⟩ := List.mergeSort_cons leD_total.trans tot x l
    have ps := List.pairwise_mergeSort leD_total.trans tot (x :: l)
    rw [e1, List.pairwise_append] at ps
    show insD leD' x (isortD leD' l) = _
    rw [isort_merge l, e2, e1]
    refine insD_app h1 fun b hb => ?_
    cases l2 with
    | nil => cases hb
    | cons y l2 =>
      cases hb
      exact List.rel_of_pairwise_cons ps.2.1 List.mem_cons_self
def alikeAllB (l : List D) : Bool := l.all fun x => l.all fun y => PySem.W.alike (py x) (py y)
def tupNe : PyData → Bool
  | .tuple (_ :: _) => true
  | _ => false
def plainI : PyData → Bool
  | .tuple _ => false
  | .none => false
  | _ => true
def sortableB (l : List D) : Bool := l.all (fun x => tupNe (py x)) || l.all (fun x => plainI (py x))
def sortAnyB (l : List D) : Bool := l.all (fun x => isData x && decide ((py x).depth ≤ 60)) && alikeAllB l && sortableB l && decide (l.length ≤ 1000000)
def sortAnyD : List D → Option D
  | [.lst l] => if sortAnyB l = true then some (.lst (isortD leD' l)) else none
  | _ => none
theorem each_rep {K : Fr} {H H' : Hp} (s : Same H' H) : ∀ (l : List D) {vs : List V}, (∀ x ∈ l, isData x = true) → RepL K H' l vs → PySem.W.EachIs (fun x b => Rep K H' b x ∧ Dp K H x (py b)) vs l
  | [], _, _, h => by
    have h : _ = [] := h
    rw [h]
    exact .nil
  | d :: l, _, g, h => by
    obtain ⟨v, r, rfl, h1, h2⟩ := h
    exact .cons ⟨h1, Dp.mono2 s _ (rep_dp d (g d List.mem_cons_self) h1)⟩ (each_rep s l (fun x hx => g x (List.mem_cons_of_mem _ hx)) h2)
theorem rep_each {K : Fr} {H : Hp} : ∀ {l : List D} {vs : List V}, PySem.W.EachIs (fun x b => Rep K H b x) vs l → RepL K H l vs
  | _, _, .nil => rfl
  | _, _, .cons h t => ⟨_, _, rfl, h, rep_each t⟩
theorem rc_sortAny {K : Fr} : RC K (rSortAny K D py) sortAnyD := by
  intro F os ρ σ H s Q vs ds d st r e q
  match ds, e with
  | [x], e =>
    obtain ⟨v, rfl, r1⟩ := one_arg r
    cases x with
    | lst l =>
      obtain ⟨g, rfl⟩ := ite_some (c := sortAnyB l) (a := D.lst (isortD leD' l)) e
      obtain ⟨a, ws, rfl, h1, h2⟩ := r1
      unfold sortAnyB at g
      rw [Bool.and_eq_true, Bool.and_eq_true, Bool.and_eq_true] at g
      obtain ⟨⟨⟨g1, g2⟩, g3⟩, g4⟩ := g
      have g1 := List.all_eq_true.mp g1
      have g4 := of_decide_eq_true g4
      refine ⟨a, ws, l, fun x b => Rep K (hid (wld F os) H) b x, rfl, seqL (hid_same _ _ _ _ h1), each_rep (hid_same _ _) l (fun x hx => (Bool.and_eq_true_iff.mp (g1 x hx)).1) h2, ?_, ?_, by rw [sizeLine_eq]; omega, fun b hb => of_decide_eq_true (Bool.and_eq_true_iff.mp (g1 b hb)).2, fun ys p ly ey np => ?_⟩
      · intro x hx y hy
        obtain ⟨x2, hx2, rfl⟩ := List.mem_map.mp hx
        obtain ⟨y2, hy2, rfl⟩ := List.mem_map.mp hy
        exact List.all_eq_true.mp (List.all_eq_true.mp g2 x2 hx2) y2 hy2
      · unfold sortableB at g3
        rw [Bool.or_eq_true] at g3
        rcases g3 with g3 | g3
        · refine .inl fun x hx => ?_
          obtain ⟨x2, hx2, rfl⟩ := List.mem_map.mp hx
          have := List.all_eq_true.mp g3 x2 hx2
          cases e : py x2 with
          | tuple t =>
            rw [e] at this
            cases t with
            | nil => cases this
            | cons y t => exact ⟨y, t, rfl⟩
          | _ =>
            rw [e] at this
            cases this
        · refine .inr fun x hx => ?_
          obtain ⟨x2, hx2, rfl⟩ := List.mem_map.mp hx
          have := List.all_eq_true.mp g3 x2 hx2
          constructor
          · intro z
            rw [z] at this
            cases this
          · intro t z
            rw [z] at this
            cases this
      · have ey : PySem.W.EachIs (fun x b => Rep K (hid (wld F os) H) b x) ys (l.mergeSort leD') := ey
        rw [← isort_merge] at ey
        exact new_lst st (rep_each ey) q p np
    | _ => cases e
  | [], e => cases e
  | x1 :: x2 :: _, e => cases x1 <;> cases e
/-! both rules in one: whole numbers of a list or a tuple, or any data of one kind -/
def sortA (ds : List D) : Option D := match sortedD ds with
  | some d => some d
  | none => sortAnyD ds
theorem rc_sortA {K : Fr} : RC K (fun vs H Q => rSort2 K vs H Q ∨ rSortAny K D py vs H Q) sortA := by
  intro F os ρ σ H s Q vs ds d st r e q
  unfold sortA at e
  cases e2 : sortedD ds with
  | some d2 =>
    rw [e2] at e
    cases e
    exact .inl (rc_sorted F os ρ σ H s Q vs ds d st r e2 q)
  | none =>
    rw [e2] at e
    exact .inr (rc_sortAny F os ρ σ H s Q vs ds d st r e q)
section
variable {P : Program} {w : World} {K : Fr} {mg : Str → Option Value} {base : Heap} {cl : Str → Addr} {E : SK} {Φ : Cxs P w K mg base E} {O : List Nat}
variable {e : Expr} {fs : Env → M (List D)} {pos p : Pos}
theorem me_sortA (hg : ∀ j, Gl (Φ.X j) "sorted") (hm : mg "sorted" = none) (ha : MA Φ cl O [e] fs) (he : ∀ env, starEach [e] env = (false, eval e env) :: starEach [] env := by intro _; rfl) : ME Φ cl O (.Call (.Name "sorted" p) [e] [] pos) (fCall sortA fs) := me_callB (fun j => by
  have z := CallR.or (@cr_sort2 (Φ.X j)) (cr_sortAny (β := D) (enc := py) (Φ.u64 j))
  rwa [Φ.hK j] at z) rc_sortA hg hm (by decide +kernel) ha (he := he)
end
end Dm

namespace Dm
open PySem PySem.Spec PyProof.Rows L2 My
section
variable {P : Program} {w : World} {K : Fr} {mg : Str → Option Value} {base : Heap} {cl : Str → Addr} {E0 : XK} {O O' OL : List Nat} {Φ : CxsE P w K mg base E0}
theorem wld_snd {F : Frm} {os os' : Own} (h : os'.map (·.2) = os.map (·.2)) : wld F os' = wld F os := by
  unfold wld
  rw [h]
theorem StOk.ren {F : Frm} {os os' : Own} {ρ : Dm.Env} {σ : L2.St} {H : Hp} {s : BS} (st : StOk K F os ρ σ H s) (h : ∀ j, j < ρ.length → List.lookup j os' = List.lookup j os) (h2 : os'.map (·.2) = os.map (·.2)) : StOk K F os' ρ σ H s where
  mv := st.mv
  fok := st.fok
  bag := st.bag
  new := fun x hx => by
    have m : x.2 ∈ os.map (·.2) := by
      rw [← h2]
      exact List.mem_map.mpr ⟨x, hx, rfl⟩
    obtain ⟨y, hy, e⟩ := List.mem_map.mp m
    rw [← e]
    exact st.new y hy
  thr := fun x hx => by
    have m : x.2 ∈ os.map (·.2) := by
      rw [← h2]
      exact List.mem_map.mpr ⟨x, hx, rfl⟩
    obtain ⟨y, hy, e⟩ := List.mem_map.mp m
    rw [← e]
    exact st.thr y hy
  nd := by
    have e : os'.map Prod.snd = os.map Prod.snd := h2
    rw [e]
    exact st.nd
  len := st.len
  few := st.few
  frz := by
    rw [wld_snd h2]
    exact st.frz
  slots := fun j d e => by
    have lt : j < ρ.length := (List.getElem?_eq_some_iff.mp e).1
    rw [h j lt, wld_snd h2]
    exact st.slots j d e
/-! a, b, c = [..], e, f -/
def fParFEE (i j l : Nat) (f : Dm.Env → M (List D)) (gs : Dm.Env → M (List D)) (ρ : Dm.Env) : M Out := bnd (f ρ) fun m => bnd (gs ρ) fun ds => match ds with
  | [x, y] => ret (.nx (((ρ.set i (some (.lst m))).set j (some x)).set l (some y)))
  | _ => bad
theorem ms_parFEE {i j l : Nat} {x y z : Str} {a b c : Expr} {f : Dm.Env → M (List D)} {gs : Dm.Env → M (List D)} {pos px py pz pt : Pos} {kt k2 pt2} (hi : ∀ k, (Φ.X k).N[i]? = some x) (hj : ∀ k, (Φ.X k).N[j]? = some y) (hl : ∀ k, (Φ.X k).N[l]? = some z) (hij : i ≠ j) (hil : i ≠ l) (hjl : j ≠ l)
    (hx : ∀ k, (Φ.X k).env.scope.names.lookup x = some .local) (hy : ∀ k, (Φ.X k).env.scope.names.lookup y = some .local) (hz : ∀ k, (Φ.X k).env.scope.names.lookup z = some .local)
    (hjO : j ∉ O) (hlO : l ∉ O) (ha : MF Φ cl O a f) (hb : MA Φ cl (999 :: O) [b, c] gs) (hw : ∀ k, swappedStores [.Tuple [.Name x px, .Name y py, .Name z pz] kt pt] (.Tuple [a, b, c] k2 pt2) (Φ.X k).env = pure (some [x, y, z]))
    (he : ∀ env, starEach [a, b, c] env = (false, eval a env) :: starEach [b, c] env := by intro _; rfl)
    (hs : ∀ env, swapsWithSole [.Tuple [.Name x px, .Name y py, .Name z pz] kt pt] (.Tuple [a, b, c] k2 pt2) pos.line env = pure false := by intro _; rfl) :
    MS Φ cl O (i :: drpO O i) OL (.Assign [.Tuple [.Name x px, .Name y py, .Name z pz] kt pt] (.Tuple [a, b, c] k2 pt2) pos) (fParFEE i j l f gs) := by
  obtain ⟨t, p, r⟩ := ha
  obtain ⟨t2, p2, r2⟩ := hb
  refine ⟨_, fun k => ps_par3 (Φ.calm k) (Φ.nd k) (hi k) (hj k) (hl k) hij hil hjl (hx k) (hy k) (hz k) (pa_cons (p k) (p2 k) (he _)) (hw k) (hs _), fun F os ρ σ H s Dn hO st q => ?_⟩
  unfold fParFEE at q
  refine r F os ρ σ H s _ hO st ?_
  cases e : f ρ s with
  | bad =>
    simp only [bnd, e] at q
    exact q.elim
  | exc nm fs s1 =>
    simp only [bnd, e] at q
    exact q
  | ok m s1 =>
    simp only [bnd, e] at q
    intro a1 vs1 H1 m1 st1 e1 rp1
    refine r2 (F.at (hid (wld F ((999, a1) :: os)) H1)) ((999, a1) :: os) ρ σ H1 s1 _ (by rw [List.map_cons, hO]) (st1.into (Same.refl _)) ?_
    cases e2 : gs ρ s1 with
    | bad =>
      simp only [e2] at q
      exact q.elim
    | exc nm fs s2 =>
      simp only [e2] at q
      exact q
    | ok ds s2 =>
      simp only [e2] at q
      intro vs2 H2 m2 st2 rvs
      have few := st2.few
      have sm : Same (hid (wld F ((999, a1) :: os)) H1) (hid (wld F ((999, a1) :: os)) H2) := st2.frz
      have st3 : StOk K F ((999, a1) :: os) ρ σ H2 s2 := StOk.out (st1.frz) st2
      have e1' : H2 a1 = some (.lst vs1) := m2.lst (st1.own_q (p := (999, a1)) List.mem_cons_self) e1
      have rp1' := RepL.mono sm _ rp1
      have st5 := st3.setOwn (i := i) (by omega) e1' rp1'
      have sub : Same (hid (wld F ((999, a1) :: os)) H2) (hid (wld F ((i, a1) :: drp os i)) H2) := hid_sub fun z hz => by
        rcases List.mem_cons.mp hz with z | z
        · rw [z]
          exact List.mem_cons_self
        · refine List.mem_cons_of_mem _ ?_
          rcases List.mem_append.mp z with z | z
          · refine List.mem_append_left _ ?_
            obtain ⟨p, hp, rfl⟩ := List.mem_map.mp z
            exact List.mem_map.mpr ⟨p, drp_sub p hp, rfl⟩
          · exact List.mem_append_right _ z
      have nO : ∀ k, k ∉ O → i ≠ k → k ∉ ((i, a1) :: drp os i).map (·.1) := fun k hk n => by
        rw [List.map_cons, drp_map, hO]
        intro z
        rcases List.mem_cons.mp z with z | z
        · exact n z.symm
        · exact hk (List.mem_filter.mp z).1
      match ds, q, rvs with
      | [d1, d2], q, rvs =>
        obtain ⟨v1, r1, rfl, rv1, rr⟩ := rvs
        obtain ⟨v2, rfl, rv2⟩ := one_arg rr
        have st6 := st5.set (i := j) (lookup_none (nO j hjO hij)) (Rep.mono sub _ rv1)
        have st7 := st6.set (i := l) (lookup_none (nO l hlO hil)) (Rep.mono sub _ rv2)
        exact ⟨_, _, _, rfl, q _ _ H2 (by rw [List.map_cons, drp_map, hO]) st7⟩
      | [], q, _ => exact q.elim
      | [_], q, _ => exact q.elim
      | _ :: _ :: _ :: _, q, _ => exact q.elim
/-! a, b, c = [..], [..], e -/
def fParFFE (i j l : Nat) (f g : Dm.Env → M (List D)) (h : Dm.Env → M D) (ρ : Dm.Env) : M Out := bnd (f ρ) fun m => bnd (g ρ) fun n => bnd (h ρ) fun z => ret (.nx (((ρ.set i (some (.lst m))).set j (some (.lst n))).set l (some z)))
theorem ms_parFFE {i j l : Nat} {x y z : Str} {a b c : Expr} {f g : Dm.Env → M (List D)} {h : Dm.Env → M D} {pos px py pz pt : Pos} {kt k2 pt2} (hi : ∀ k, (Φ.X k).N[i]? = some x) (hj : ∀ k, (Φ.X k).N[j]? = some y) (hl : ∀ k, (Φ.X k).N[l]? = some z) (hij : i ≠ j) (hil : i ≠ l) (hjl : j ≠ l) (hi9 : i < 998)
    (hx : ∀ k, (Φ.X k).env.scope.names.lookup x = some .local) (hy : ∀ k, (Φ.X k).env.scope.names.lookup y = some .local) (hz : ∀ k, (Φ.X k).env.scope.names.lookup z = some .local)
    (hlO : l ∉ O) (ha : MF Φ cl O a f) (hb : MF Φ cl (999 :: O) b g) (hc : ME Φ cl (999 :: 998 :: O) c h) (hw : ∀ k, swappedStores [.Tuple [.Name x px, .Name y py, .Name z pz] kt pt] (.Tuple [a, b, c] k2 pt2) (Φ.X k).env = pure (some [x, y, z]))
    (he : ∀ env, starEach [a, b, c] env = (false, eval a env) :: starEach [b, c] env := by intro _; rfl) (he1 : ∀ env, starEach [b, c] env = (false, eval b env) :: starEach [c] env := by intro _; rfl) (he2 : ∀ env, starEach [c] env = (false, eval c env) :: starEach [] env := by intro _; rfl)
    (hs : ∀ env, swapsWithSole [.Tuple [.Name x px, .Name y py, .Name z pz] kt pt] (.Tuple [a, b, c] k2 pt2) pos.line env = pure false := by intro _; rfl) :
    MS Φ cl O (j :: i :: drpO (drpO O i) j) OL (.Assign [.Tuple [.Name x px, .Name y py, .Name z pz] kt pt] (.Tuple [a, b, c] k2 pt2) pos) (fParFFE i j l f g h) := by
  obtain ⟨t, p, r⟩ := ha
  obtain ⟨t2, p2, r2⟩ := hb
  obtain ⟨t3, p3, r3⟩ := hc
  refine ⟨_, fun k => ps_par3 (Φ.calm k) (Φ.nd k) (hi k) (hj k) (hl k) hij hil hjl (hx k) (hy k) (hz k) (pa_cons (p k) (pa_cons (p2 k) (pa_cons (p3 k) pa_nil (he2 _)) (he1 _)) (he _)) (hw k) (hs _), fun F os ρ σ H s Dn hO st q => ?_⟩
  unfold fParFFE at q
  refine r F os ρ σ H s _ hO st ?_
  cases e : f ρ s with
  | bad =>
    simp only [bnd, e] at q
    exact q.elim
  | exc nm fs s1 =>
    simp only [bnd, e] at q
    exact q
  | ok m s1 =>
    simp only [bnd, e] at q
    intro a1 vs1 H1 m1 st1 e1 rp1
    refine r2 (F.at (hid (wld F ((999, a1) :: os)) H1)) ((999, a1) :: os) ρ σ H1 s1 _ (by rw [List.map_cons, hO]) (st1.into (Same.refl _)) ?_
    cases e2 : g ρ s1 with
    | bad =>
      simp only [e2] at q
      exact q.elim
    | exc nm fs s2 =>
      simp only [e2] at q
      exact q
    | ok n s2 =>
      simp only [e2] at q
      intro a2 vs2 H2 m2 st2 e3 rp2
      have few := st2.few
      have sm : Same (hid (wld F ((999, a1) :: os)) H1) (hid (wld F ((999, a2) :: (999, a1) :: os)) H2) := st2.frz
      have st3 : StOk K F ((999, a2) :: (999, a1) :: os) ρ σ H2 s2 := StOk.out (st1.frz) st2
      have e1' : H2 a1 = some (.lst vs1) := m2.lst (st1.own_q (p := (999, a1)) List.mem_cons_self) e1
      have rp1' := RepL.mono sm _ rp1
      have st4 : StOk K F ((999, a2) :: (998, a1) :: os) ρ σ H2 s2 := st3.ren (fun k hk => by
        rw [lookup_cons_ne (by omega), lookup_cons_ne (by omega), lookup_cons_ne (by omega), lookup_cons_ne (by omega)]) rfl
      have fz4 : Same F.B (hid (wld F ((999, a2) :: (998, a1) :: os)) H2) := st4.frz
      refine r3 (F.at (hid (wld F ((999, a2) :: (998, a1) :: os)) H2)) ((999, a2) :: (998, a1) :: os) ρ σ H2 s2 _ (by rw [List.map_cons, List.map_cons, hO]) (st4.into (Same.refl _)) ?_
      cases e5 : h ρ s2 with
      | bad =>
        simp only [e5] at q
        exact q.elim
      | exc nm fs s3 =>
        simp only [e5] at q
        exact q
      | ok d s3 =>
        simp only [e5] at q
        intro v H3 m3 st5 rv
        have sm3 : Same (hid (wld F ((999, a2) :: (998, a1) :: os)) H2) (hid (wld F ((999, a2) :: (998, a1) :: os)) H3) := st5.frz
        have st6 : StOk K F ((999, a2) :: (998, a1) :: os) ρ σ H3 s3 := StOk.out fz4 st5
        have e1'' : H3 a1 = some (.lst vs1) := m3.lst (st4.own_q (p := (998, a1)) (List.mem_cons_of_mem _ List.mem_cons_self)) e1'
        have e3'' : H3 a2 = some (.lst vs2) := m3.lst (st4.own_q (p := (999, a2)) List.mem_cons_self) e3
        have rp1'' : RepL K (hid (wld F ((999, a2) :: (998, a1) :: os)) H3) m vs1 := RepL.mono sm3 _ rp1'
        have rp2'' : RepL K (hid (wld F ((999, a2) :: (998, a1) :: os)) H3) n vs2 := RepL.mono sm3 _ rp2
        have st7 : StOk K F ((998, a1) :: (999, a2) :: os) ρ σ H3 s3 := st6.swap (fun k hk => by
          rw [lookup_cons_ne (by omega), lookup_cons_ne (by omega), lookup_cons_ne (by omega), lookup_cons_ne (by omega)])
        have hsw : ∀ H, hid (wld F ((999, a2) :: (998, a1) :: os)) H = hid (wld F ((998, a1) :: (999, a2) :: os)) H := fun H => hid_swap _ _ _ _ _
        rw [hsw] at rp1''
        have few7 := st7.few
        have st8 := st7.setOwn (i := i) (by omega) e1'' rp1''
        rw [drp_cons_ne (by omega : (999 : Nat) ≠ i)] at st8
        have st9 := st8.swap (fun k hk => by
          rw [List.length_set] at hk
          rw [lookup_cons_ne (show k ≠ 999 by omega)]
          by_cases c : k = i
          · subst c
            simp only [List.lookup_cons, beq_self_eq_true]
          · rw [lookup_cons_ne c, lookup_cons_ne c, lookup_cons_ne (show k ≠ 999 by omega)])
        have sub9 : Same (hid (wld F ((999, a2) :: (998, a1) :: os)) H3) (hid (wld F ((999, a2) :: (i, a1) :: drp os i)) H3) := hid_sub fun z hz => by
          rcases List.mem_cons.mp hz with z | z
          · rw [z]
            exact List.mem_cons_self
          · refine List.mem_cons_of_mem _ ?_
            rcases List.mem_cons.mp z with z | z
            · rw [z]
              exact List.mem_cons_self
            · refine List.mem_cons_of_mem _ ?_
              rcases List.mem_append.mp z with z | z
              · refine List.mem_append_left _ ?_
                obtain ⟨p, hp, rfl⟩ := List.mem_map.mp z
                exact List.mem_map.mpr ⟨p, drp_sub p hp, rfl⟩
              · exact List.mem_append_right _ z
        have st10 := st9.setOwn (i := j) (by rw [List.length_set]; omega) e3'' (RepL.mono sub9 _ rp2'')
        rw [drp_cons_ne hij] at st10
        have sub10 : Same (hid (wld F ((999, a2) :: (998, a1) :: os)) H3) (hid (wld F ((j, a2) :: (i, a1) :: drp (drp os i) j)) H3) := hid_sub fun z hz => by
          rcases List.mem_cons.mp hz with z | z
          · rw [z]
            exact List.mem_cons_self
          · refine List.mem_cons_of_mem _ ?_
            rcases List.mem_cons.mp z with z | z
            · rw [z]
              exact List.mem_cons_self
            · refine List.mem_cons_of_mem _ ?_
              rcases List.mem_append.mp z with z | z
              · refine List.mem_append_left _ ?_
                obtain ⟨p, hp, rfl⟩ := List.mem_map.mp z
                exact List.mem_map.mpr ⟨p, drp_sub p (drp_sub p hp), rfl⟩
              · exact List.mem_append_right _ z
        have st11 := st10.set (i := l) (lookup_none (by
          rw [List.map_cons, List.map_cons, drp_map, drp_map, hO]
          intro z
          rcases List.mem_cons.mp z with z | z
          · exact hjl z.symm
          · rcases List.mem_cons.mp z with z | z
            · exact hil z.symm
            · exact hlO (List.mem_filter.mp (List.mem_filter.mp z).1).1)) (Rep.mono sub10 _ rv)
        exact ⟨_, _, _, rfl, q _ _ H3 (by rw [List.map_cons, List.map_cons, drp_map, drp_map, hO]) st11⟩
end
end Dm

namespace Dm
open PySem PySem.Spec PyProof.Rows L2 My
/-! ### tuple(range(n)), list(range(a, b)) -/
def tTupRgN (te : L2.St → Hp → (Int → Int → Hp → Prop) → Prop) : TE := fun σ H Q => te σ H fun a b H1 => RgOk a b ∧ ∀ (q : Addr) (o : Obj), H1 q = none → o.dict = none → Q (.ref q) (upd H1 q (.frz o (.tup (rgV a b))))
theorem pe_tupRgN {X : Cx} {e : Expr} {te : L2.St → Hp → (Int → Int → Hp → Prop) → Prop} {p pos : Pos} (hc : X.calm = true) (hg : Gl X "tuple") (hm : X.mg "tuple" = none) (he : PRg X e te)
    (na : starEach [e] X.env = (false, eval e X.env) :: starEach [] X.env) : PE X (.Call (.Name "tuple" p) [e] [] pos) (tTupRgN te) := by
  refine ⟨fun pins s σ H Q I h => ?_⟩
  refine Call_ (ld_blt I hg hm boot_tuple ?_)
  refine PyProof.Rows.callWith_type1 (PyProof.Rows.args_cons (thn (he pins s σ H _ I h) fun x s1 ⟨r, a, b, t, u, v, H1, ex, hr, I1, ok, q⟩ => PyProof.Rows.args_nil ?_) na) na rfl
  subst ex
  have b5 := ok.2.2.2.2
  refine call_tuple_range (I1.ok.hd hc) hr (small_one ok.1 ok.2.1 ok.2.2.1 ok.2.2.2.1) (rangeSize_nat a b) b5 fun h' tk acc hk hi => ?_
  have I2 : Inv X pins σ H1 { s1 with heap := h', toks := tk } := I1.kept hk
  have hz : (rgV a b).length ≤ sizeLine := by
    rw [rgV_length, sizeLine_eq]
    exact b5
  refine ⟨.ref h'.objs.size, _, I2.laid (t' := tk) (o := .frz { cls := .type "tuple", data := .seq acc } (.tup (rgV a b))) (fun b u e => Heap.get?_push_of_some _ e) (Nat.le_refl _) ?_, rfl, q _ _ (I2.hok.fresh (Nat.le_refl _)) rfl⟩
  exact ⟨Heap.get?_push_size _ rfl, hz, acc.toList, vals_rg hi, ⟨_, Heap.get?_push_size _ rfl, rfl, _, by rw [Array.toArray_toList]⟩⟩
def fTupRg (f : Dm.Env → M D) (ρ : Dm.Env) : M D := bnd (f ρ) fun d => match d with
  | .int n => if (decide (0 ≤ n) && decide (n ≤ 1000000)) = true then ret (.tup (rgD 0 n.toNat)) else bad
  | _ => bad
def fRgL2 (f g : Dm.Env → M D) (ρ : Dm.Env) : M (List D) := bnd (f ρ) fun d => match d with
  | .int a => bnd (g ρ) fun e => match e with
    | .int b => if (decide (0 ≤ a) && decide (a ≤ b) && decide (b ≤ 1000000)) = true then ret (rgD a (b - a).toNat) else bad
    | _ => bad
  | _ => bad
theorem rep_rg {K : Fr} {H : Hp} (a b : Int) : RepL K H (rgD a (b - a).toNat) (rgV a b) := by
  have e : rgV a b = (List.range (b - a).toNat).map fun (i : Nat) => V.int (a + (i : Int)) := rfl
  rw [e]
  unfold rgD
  generalize List.range (b - a).toNat = l
  induction l with
  | nil => rfl
  | cons x l ih => exact ⟨_, _, rfl, rfl, ih⟩
section
variable {P : Program} {w : World} {K : Fr} {mg : Str → Option Value} {base : Heap} {cl : Str → Addr} {E : SK} {Φ : Cxs P w K mg base E} {O : List Nat}
theorem me_tupRg1 {a : Expr} {p p2 pos pos2 : Pos} {f : Dm.Env → M D} (hg : ∀ j, Gl (Φ.X j) "tuple") (hm : mg "tuple" = none) (hg2 : ∀ j, Gl (Φ.X j) "range") (hm2 : mg "range" = none) (he : ME Φ cl O a f)
    (na : ∀ env, starEach [a] env = (false, eval a env) :: starEach [] env := by intro _; rfl)
    (nb : ∀ env, starEach [Expr.Call (.Name "range" p2) [a] [] pos2] env = (false, eval (.Call (.Name "range" p2) [a] [] pos2) env) :: starEach [] env := by intro _; rfl) :
    ME Φ cl O (.Call (.Name "tuple" p) [.Call (.Name "range" p2) [a] [] pos2] [] pos) (fTupRg f) := by
  obtain ⟨t, pe, re⟩ := he
  refine ⟨_, fun j => pe_tupRgN (Φ.calm j) (hg j) (by rw [Φ.hmg]; exact hm) (prg_1 (hg2 j) (by rw [Φ.hmg]; exact hm2) (pe j) (na _)) (nb _), fun F os ρ σ H s Q hO st q => ?_⟩
  refine re.bind hO st hxE hbE q fun d s1 v H1 m1 st1 r1 q1 => ?_
  cases d with
  | int n =>
    simp only at q1
    cases g : (decide (0 ≤ n) && decide (n ≤ 1000000)) with
    | false =>
      simp only [g] at q1
      exact q1.elim
    | true =>
      simp only [g] at q1
      rw [Bool.and_eq_true] at g
      have g1 := of_decide_eq_true g.1
      have g3 := of_decide_eq_true g.2
      refine ⟨n, r1, RgOk.of_le (by omega) (by omega) (by omega) (by omega), fun p o np od => ?_⟩
      have r := rep_rg (K := K) (H := hid (wld F os) H1) 0 n
      rw [Int.sub_zero] at r
      exact new_tup st1 r (fun v H' m st' r' => q1 v H' (m1.trans m) st' r') p o np od
  | _ => exact q1.elim
theorem mf_listRg2 {a b : Expr} {p p2 pos pos2 : Pos} {f g : Dm.Env → M D} (hg : ∀ j, Gl (Φ.X j) "list") (hm : mg "list" = none) (hg2 : ∀ j, Gl (Φ.X j) "range") (hm2 : mg "range" = none) (he : ME Φ cl O a f) (hb : ME Φ cl O b g)
    (na : ∀ env, starEach [a, b] env = (false, eval a env) :: starEach [b] env := by intro _; rfl) (nb : ∀ env, starEach [b] env = (false, eval b env) :: starEach [] env := by intro _; rfl) (nc : ∀ env, ((backTo pos2 (starEach [b] env)).any fun x => x.1) = false := by intro _; rfl)
    (nd : ∀ env, starEach [Expr.Call (.Name "range" p2) [a, b] [] pos2] env = (false, eval (.Call (.Name "range" p2) [a, b] [] pos2) env) :: starEach [] env := by intro _; rfl) :
    MF Φ cl O (.Call (.Name "list" p) [.Call (.Name "range" p2) [a, b] [] pos2] [] pos) (fRgL2 f g) := by
  obtain ⟨t, pe, re⟩ := he
  obtain ⟨t2, pe2, re2⟩ := hb
  refine ⟨_, fun j => pe_listRg (Φ.calm j) (hg j) (by rw [Φ.hmg]; exact hm) (prg_2 (hg2 j) (by rw [Φ.hmg]; exact hm2) (pe j) (pe2 j) (na _) (nb _) (nc _)) (nd _), fun F os ρ σ H s Q hO st q => ?_⟩
  refine re.bind hO st hxR hbR q fun d s1 v H1 m1 st1 r1 q1 => ?_
  cases d with
  | int i =>
    simp only at q1
    refine re2.bind hO st1 hxR hbR q1 fun e s2 v2 H2 m2 st2 r2 q2 => ?_
    cases e with
    | int j =>
      simp only at q2
      cases g : (decide (0 ≤ i) && decide (i ≤ j) && decide (j ≤ 1000000)) with
      | false =>
        simp only [g] at q2
        exact q2.elim
      | true =>
        simp only [g] at q2
        rw [Bool.and_eq_true, Bool.and_eq_true] at g
        have g1 := of_decide_eq_true g.1.1
        have g2 := of_decide_eq_true g.1.2
        have g3 := of_decide_eq_true g.2
        refine ⟨i, j, r1, r2, RgOk.of_le (by omega) (by omega) (by omega) (by omega), fun p np => ?_⟩
        exact new_own st2 (rep_rg i j) (fun a vs H' m st' e r' => q2 a vs H' (m1.trans (m2.trans m)) st' e r') p np
    | _ => exact q2.elim
  | _ => exact q1.elim
end
/-! ### targets with places in owned lists -/
section
variable {P : Program} {w : World} {K : Fr} {mg : Str → Option Value} {base : Heap} {cl : Str → Addr} {E0 : XK} {O O' OL : List Nat} {Φ : CxsE P w K mg base E0}
def satG (K : Fr) (cl : Str → Addr) (E0 : XK) (F : Frm) (os : Own) (H : Hp) (Q : L2.St → Hp → Prop) : Res Dm.Env → Prop
  | .ok ρ' s' => ∀ σ' H', StOk K F os ρ' σ' H' s' → Same (hid (wld F os) H) (hid (wld F os) H') → Q σ' H'
  | .exc nm fs s' => exOk K cl E0 F nm fs s'
  | .bad => False
def RGm (K : Fr) (cl : Str → Addr) (E0 : XK) (O : List Nat) (t : TG) (g : D → Dm.Env → M Dm.Env) : Prop := ∀ (F : Frm) (os : Own) (ρ : Dm.Env) (σ : L2.St) (H : Hp) (s : BS) (Q : L2.St → Hp → Prop) (d : D) (v : V), os.map (·.1) = O → StOk K F os ρ σ H s →
  Rep K (hid (wld F os) H) d v → satG K cl E0 F os H Q (g d ρ s) → t v σ H Q
def RGms (K : Fr) (cl : Str → Addr) (E0 : XK) (O : List Nat) (t : TGs) (g : List D → Dm.Env → M Dm.Env) : Prop := ∀ (F : Frm) (os : Own) (ρ : Dm.Env) (σ : L2.St) (H : Hp) (s : BS) (Q : L2.St → Hp → Prop) (d : List D) (v : List V), os.map (·.1) = O → StOk K F os ρ σ H s →
  RepL K (hid (wld F os) H) d v → satG K cl E0 F os H Q (g d ρ s) → t v σ H Q
def MGm (Φ : CxsE P w K mg base E0) (cl : Str → Addr) (O : List Nat) (tg : Expr) (g : D → Dm.Env → M Dm.Env) : Prop := ∃ t, (∀ j, PG (Φ.X j) tg t) ∧ RGm K cl E0 O t g
def MGms (Φ : CxsE P w K mg base E0) (cl : Str → Addr) (O : List Nat) (tg : List Expr) (g : List D → Dm.Env → M Dm.Env) : Prop := ∃ t, (∀ j, PGs (Φ.X j) tg t) ∧ RGms K cl E0 O t g
abbrev hxG {F : Frm} {os : Own} {H : Hp} {Q : L2.St → Hp → Prop} : ∀ nm fs s', satG K cl E0 F os H Q (.exc nm fs s') → exOk K cl E0 F nm fs s' := fun _ _ _ h => h
abbrev hbG {F : Frm} {os : Own} {H : Hp} {Q : L2.St → Hp → Prop} : ¬ satG K cl E0 F os H Q .bad := fun h => h
def gmSub (i : Nat) (fk : Dm.Env → M D) (d : D) (ρ : Dm.Env) : M Dm.Env := match ownL i ρ with
  | some l => bnd (fk ρ) fun k => match k with
    | .int k => match ixN l.length k with
      | some j => ret (ρ.set i (some (.lst (l.set j d))))
      | none => bad
    | _ => bad
  | none => bad
theorem mgm_sub (i : Nat) {x : Str} {ek : Expr} {fk : Dm.Env → M D} {p tpos : Pos} (hk : ME Φ cl O ek fk) (hN : ∀ j, (Φ.X j).N[i]? = some x := by intro _; rfl) (hv : ∀ j, Vis (Φ.X j).env.scope x := by intro _; first | exact Or.inl rfl | exact Or.inr (Or.inl rfl) | exact Or.inr (Or.inr rfl)) (hi : i ∈ O := by decide)
    (hd : (x == ("__debug__" : Str)) = false := by decide) (hcd : (x == ("__classdict__" : Str)) = false := by decide)
    (ha : ∀ env v, assign (.Subscript (.Name x p) ek tpos) env v = (do
      let ov ← holding [v] (eval (.Name x p) env)
      let iv ← holding [v, ov] (eval ek env)
      standAt tpos
      holding [v, ov, iv] (setItem ov iv v)
      release [v, ov, iv] []) := by intro _ _; rfl) : MGm Φ cl O (.Subscript (.Name x p) ek tpos) (gmSub i fk) := by
  obtain ⟨t2, pe2, re2⟩ := hk
  refine ⟨_, fun j => pg_sub (pe_var (hN j) (hv j) hd hcd) (pe2 j) set_list (ha _), fun F os ρ σ H s Q d v hO st rp q => ?_⟩
  unfold gmSub at q
  cases eo : ownL i ρ with
  | none =>
    simp only [eo] at q
    exact q.elim
  | some l =>
    simp only [eo] at q
    obtain ⟨a, vs, ea, e1, e2, e3⟩ := st.owned hO hi eo
    refine ⟨_, e1, ?_⟩
    refine re2.bind hO st hxG hbG q fun d2 s2 v2 H2 m2 st2 r2 q2 => ?_
    cases d2 with
    | int k =>
      simp only at q2
      cases ek : ixN l.length k with
      | none =>
        simp only [ek] at q2
        exact q2.elim
      | some j =>
        simp only [ek] at q2
        have e4 := m2.lst (st.own_q (lookup_mem ea)) e2
        refine ⟨a, vs, k, j, rfl, r2, e4, by rw [← e3.len]; exact ek, ?_⟩
        refine q2 σ _ (st2.upd ea (ownL_at eo) ((repL_mv st m2 e3).set j (rep_mv st m2 rp))) ?_
        have eh : hid (wld F os) (upd H2 a (.lst (vs.set j v))) = hid (wld F os) H2 := hid_upd_in (List.mem_append_left _ (List.mem_map.mpr ⟨_, lookup_mem ea, rfl⟩))
        rw [eh]
        exact hid_mv st.qW m2
    | _ => exact q2.elim
def gmOf (g : D → Dm.Env → Option Dm.Env) (d : D) (ρ : Dm.Env) : M Dm.Env := lift (g d ρ)
theorem mgm_of {tg : Expr} {vs : List Nat} {g : D → Dm.Env → Option Dm.Env} (h : MG Φ O tg vs g) : MGm Φ cl O tg (gmOf g) := by
  obtain ⟨t, p, r⟩ := h
  refine ⟨t, p, fun F os ρ σ H s Q d v hO st rp q => ?_⟩
  unfold gmOf at q
  cases e : g d ρ with
  | none =>
    simp only [lift, e] at q
    exact q.elim
  | some ρ' =>
    simp only [lift, e] at q
    exact r F os ρ σ H s _ d v ρ' hO st rp e fun σ' st' _ => q σ' H st' (Same.refl _)
def gmsNil (l : List D) (ρ : Dm.Env) : M Dm.Env := match l with
  | [] => ret ρ
  | _ => bad
def gmsCons (g : D → Dm.Env → M Dm.Env) (gs : List D → Dm.Env → M Dm.Env) (l : List D) (ρ : Dm.Env) : M Dm.Env := match l with
  | d :: l => bnd (g d ρ) fun ρ1 => gs l ρ1
  | [] => bad
theorem mgms_nil : MGms Φ cl O [] gmsNil := by
  refine ⟨_, fun j => pgs_nil, fun F os ρ σ H s Q d v hO st rp q => ?_⟩
  cases d with
  | nil => 
    have rp : v = [] := rp
    subst rp
    exact ⟨rfl, q σ H st (Same.refl _)⟩
  | cons d l => exact q.elim
theorem mgms_cons {e : Expr} {es : List Expr} {g : D → Dm.Env → M Dm.Env} {gs : List D → Dm.Env → M Dm.Env} (h : MGm Φ cl O e g) (h2 : MGms Φ cl O es gs)
    (hm : ∀ env, (assignEach (e :: es) env).map (·.2) = assign e env :: (assignEach es env).map (·.2) := by intro _; rfl) : MGms Φ cl O (e :: es) (gmsCons g gs) := by
  obtain ⟨t, p, r⟩ := h
  obtain ⟨t2, p2, r2⟩ := h2
  refine ⟨_, fun j => pgs_cons (p j) (p2 j) (hm _), fun F os ρ σ H s Q d v hO st rp q => ?_⟩
  cases d with
  | nil => exact q.elim
  | cons d l =>
    obtain ⟨u, us, rfl, ru, rus⟩ := rp
    refine ⟨u, us, rfl, ?_⟩
    refine r F os ρ σ H s _ d u hO st ru ?_
    have q : satG K cl E0 F os H Q (bnd (g d ρ) (fun ρ1 => gs l ρ1) s) := q
    cases e1 : g d ρ s with
    | bad =>
      simp only [bnd, e1] at q
      exact q.elim
    | exc nm fs s1 =>
      simp only [bnd, e1] at q
      exact q
    | ok ρ1 s1 =>
      simp only [bnd, e1] at q
      intro σ1 H1 st1 sm1
      refine r2 F os ρ1 σ1 H1 s1 _ l us hO st1 (RepL.mono sm1 _ rus) ?_
      cases e2 : gs l ρ1 s1 with
      | bad =>
        rw [e2] at q
        exact q.elim
      | exc nm fs s2 =>
        rw [e2] at q
        exact q
      | ok ρ2 s2 =>
        rw [e2] at q
        exact fun σ2 H2 st2 sm2 => q σ2 H2 st2 (sm1.trans sm2)
def gmTp (n : Nat) (gs : List D → Dm.Env → M Dm.Env) (d : D) (ρ : Dm.Env) : M Dm.Env := match d with
  | .tup l => if decide (l.length = n) = true then gs l ρ else bad
  | .tup0 l => if decide (l.length = n) = true then gs l ρ else bad
  | _ => bad
theorem mgm_tup {es : List Expr} {k n : Nat} {gs : List D → Dm.Env → M Dm.Env} {pos : Pos} (h : MGms Φ cl O es gs) (hn : ∀ env, (assignEach es env).length = n := by intro _; rfl) (hst : ∀ env, (assignEach es env).findIdx? (·.1) = none := by intro _; rfl) :
    MGm Φ cl O (.Tuple es k pos) (gmTp n gs) := by
  obtain ⟨t, p, r⟩ := h
  refine ⟨gTup K n t, fun j => by have z := pg_tup (k := k) (pos := pos) (Φ.calm j) (p j) (hn _) (hst _); rwa [Φ.hK j] at z, fun F os ρ σ H s Q d v hO st rp q => ?_⟩
  have fin : ∀ (l : List D) (a : Addr) (vs : List V), v = .ref a → SqT K H a vs → RepL K (hid (wld F os) H) l vs → satG K cl E0 F os H Q ((if decide (l.length = n) = true then gs l ρ else bad) s) → gTup K n t v σ H Q := by
    intro l a xs ev h1 h2 e
    by_cases c : l.length = n
    · rw [if_pos (decide_eq_true c)] at e
      exact ⟨a, xs, ev, h1, by rw [← h2.len]; exact c, r F os ρ σ H s Q l xs hO st h2 e⟩
    · rw [if_neg (by rw [decide_eq_false c]; exact Bool.false_ne_true)] at e
      exact e.elim
  cases d with
  | tup l =>
    obtain ⟨a, xs, ev, h1, h2⟩ := rp
    exact fin l a xs ev (seqT (.inr (h1.mono (hid_same _ _)))) h2 q
  | tup0 l =>
    obtain ⟨a, xs, ev, h1, h2⟩ := rp
    exact fin l a xs ev (sqT_mono (hid_same _ _) h1) h2 q
  | _ => exact q.elim
def fAsgM (f : Dm.Env → M D) (g : D → Dm.Env → M Dm.Env) (ρ : Dm.Env) : M Out := bnd (f ρ) fun d => bnd (g d ρ) fun ρ' => ret (.nx ρ')
theorem ms_asgM {e tg : Expr} {pos : Pos} {f : Dm.Env → M D} {g : D → Dm.Env → M Dm.Env} (he : ME Φ cl O e f) (hg : MGm Φ cl O tg g) (hw : ∀ j, swappedStores [tg] e (Φ.X j).env = pure none) (hs : ∀ env, swapsWithSole [tg] e pos.line env = pure false := by intro _; rfl)
    (h1 : ∀ env, (assignEach [tg] env).map (·.2) = [assign tg env] := by intro _; rfl) : MS Φ cl O O OL (.Assign [tg] e pos) (fAsgM f g) := by
  obtain ⟨t, p, r⟩ := he
  obtain ⟨t2, p2, r2⟩ := hg
  refine ⟨_, fun j => ps_asg (p j) (p2 j) (hs _) (hw j) (h1 _), fun F os ρ σ H s Dn hO st q => ?_⟩
  refine r.bind hO st hxS hbS q fun d s1 v H1 m1 st1 r1 q1 => ?_
  refine r2 F os ρ σ H1 s1 _ d v hO st1 r1 ?_
  cases e1 : g d ρ s1 with
  | bad =>
    simp only [bnd, e1] at q1
    exact q1.elim
  | exc nm fs s2 =>
    simp only [bnd, e1] at q1
    exact q1
  | ok ρ1 s2 =>
    simp only [bnd, e1] at q1
    exact fun σ2 H2 st2 _ => q1 os σ2 H2 hO st2
end
end Dm

namespace Dm
open PySem PySem.Spec PyProof.Rows L2 My
/-! ### statements that keep all owned lists; a loop over one of these -/
section
variable {P : Program} {w : World} {K : Fr} {mg : Str → Option Value} {base : Heap} {cl : Str → Addr} {E0 : XK} {O O' OL : List Nat} {Φ : CxsE P w K mg base E0}
def satK (K : Fr) (cl : Str → Addr) (E0 : XK) (F : Frm) (os : Own) (H : Hp) (Dn : Ends) : Res Out → Prop
  | .ok (.nx ρ') s' => ∀ σ' H', Mw F.q H H' → StOk K F os ρ' σ' H' s' → Dn.nx σ' H'
  | .ok (.rt d) s' => ∀ v H', Mw F.q F.H0 H' → BagAt F.T F.q F.c H' s' → Rep K (hid F.W H') d v → Dn.rt v H'
  | .ok (.bk ρ') s' => ∀ σ' H', Mw F.q H H' → StOk K F os ρ' σ' H' s' → Dn.bk σ' H'
  | .ok (.ct ρ') s' => ∀ σ' H', Mw F.q H H' → StOk K F os ρ' σ' H' s' → Dn.ct σ' H'
  | .exc nm fs s' => exOk K cl E0 F nm fs s'
  | .bad => False
def RK (K : Fr) (cl : Str → Addr) (E0 : XK) (O : List Nat) (t : TS) (f : Dm.Env → M Out) : Prop := ∀ (F : Frm) (os : Own) (ρ : Dm.Env) (σ : L2.St) (H : Hp) (s : BS) (Dn : Ends), os.map (·.1) = O → StOk K F os ρ σ H s → satK K cl E0 F os H Dn (f ρ s) → t Dn σ H
def KS (Φ : CxsE P w K mg base E0) (cl : Str → Addr) (O : List Nat) (st : Stmt) (f : Dm.Env → M Out) : Prop := ∃ t, (∀ j, PS (Φ.X j) st t) ∧ RK K cl E0 O t f
def KSs (Φ : CxsE P w K mg base E0) (cl : Str → Addr) (O : List Nat) (st : List Stmt) (f : Dm.Env → M Out) : Prop := ∃ t, (∀ j, PSs (Φ.X j) st t) ∧ RK K cl E0 O t f
abbrev hxK {F : Frm} {os : Own} {H : Hp} {Dn : Ends} : ∀ nm fs s', satK K cl E0 F os H Dn (.exc nm fs s') → exOk K cl E0 F nm fs s' := fun _ _ _ h => h
abbrev hbK {F : Frm} {os : Own} {H : Hp} {Dn : Ends} : ¬ satK K cl E0 F os H Dn .bad := fun h => h
theorem satK_mono {F : Frm} {os : Own} {H H1 : Hp} {Dn : Ends} (m : Mw F.q H H1) : ∀ {r : Res Out}, satK K cl E0 F os H Dn r → satK K cl E0 F os H1 Dn r
  | .ok (.nx _) _, h => fun σ' H' m' st => h σ' H' (m.trans m') st
  | .ok (.rt _) _, h => h
  | .ok (.bk _) _, h => fun σ' H' m' st => h σ' H' (m.trans m') st
  | .ok (.ct _) _, h => fun σ' H' m' st => h σ' H' (m.trans m') st
  | .exc _ _ _, h => h
  | .bad, h => h
theorem ks_nil : KSs Φ cl O [] fSkip := ⟨_, fun j => pss_nil, fun F os ρ σ H s Dn hO st q => q σ H Mw.refl st⟩
theorem ks_one {st : Stmt} {f : Dm.Env → M Out} (h : KS Φ cl O st f) : KSs Φ cl O [st] f := let ⟨t, p, r⟩ := h; ⟨t, fun j => pss_one (p j), r⟩
theorem ks_cons {st : Stmt} {rest : List Stmt} {f g : Dm.Env → M Out} (h : KS Φ cl O st f) (h2 : KSs Φ cl O rest g) : KSs Φ cl O (st :: rest) (fThen f g) := by
  obtain ⟨t, p, r⟩ := h
  obtain ⟨u, p2, r2⟩ := h2
  refine ⟨_, fun j => pss_cons (p j) (p2 j), fun F os ρ σ H s Dn hO st q => ?_⟩
  refine r F os ρ σ H s _ hO st ?_
  unfold fThen at q
  cases e : f ρ s with
  | bad =>
    simp only [e] at q
    exact q
  | exc nm fs s1 =>
    simp only [e] at q
    exact q
  | ok o s1 =>
    cases o with
    | nx ρ1 =>
      simp only [e] at q
      exact fun σ1 H1 m1 st1 => r2 F os ρ1 σ1 H1 s1 Dn hO st1 (satK_mono m1 q)
    | rt d =>
      simp only [e] at q
      exact q
    | bk d =>
      simp only [e] at q
      exact q
    | ct d =>
      simp only [e] at q
      exact q
theorem ks_set (i : Nat) {x : Str} {e : Expr} {f : Dm.Env → M D} {pos pos' : Pos} (he : ME Φ cl O e f) (hi : ∀ j, (Φ.X j).N[i]? = some x := by intro _; rfl) (hx : ∀ j, Loc (Φ.X j).env.scope x := by intro _; first | exact Or.inl rfl | exact Or.inr rfl)
    (hf : ∀ j, (Φ.X j).fn x = true ∨ (Φ.X j).env.scope.names.lookup x = some .local := by intro _; first | exact Or.inl rfl | exact Or.inr rfl) (hO1 : i ∉ O := by decide)
    (hs : ∀ env, swapsWith e (some (.Name x pos')) pos.line env = pure false := by intro _; rfl) : KS Φ cl O (.Assign [.Name x pos'] e pos) (fSet i f) := by
  obtain ⟨t, p, r⟩ := he
  refine ⟨_, fun j => ps_set (Φ.nd j) (hi j) (hx j) (p j) (hs _) (hf j), fun F os ρ σ H s Dn hO st q => ?_⟩
  refine r.bind hO st hxK hbK q fun d s1 v H1 m1 st1 r1 q1 => ?_
  exact q1 _ H1 m1 (st1.set (lookup_none (by rw [hO]; exact hO1)) r1)
theorem ks_augG {i : Nat} {x : Str} {e : Expr} {op : Operator} {r : R2} {g : D → D → Option D} {f : Dm.Env → M D} {pos pos' : Pos} (ho : ∀ j, OpR (Φ.X j) (inplaceOp op) r) (ro : RO K r g) (he : ME Φ cl O e f)
    (hi : ∀ j, (Φ.X j).N[i]? = some x) (hx : ∀ j, Loc (Φ.X j).env.scope x) (hf : ∀ j, (Φ.X j).fn x = true ∨ (Φ.X j).env.scope.names.lookup x = some .local) (hO : i ∉ O) :
    KS Φ cl O (.AugAssign (.Name x pos') op e pos) (fSet i (fOp g (fVar i) f)) := by
  obtain ⟨t, p, rt⟩ := he
  refine ⟨_, fun j => ps_aug (Φ.nd j) (hi j) (hx j) (p j) (ho j) (hf j), fun F os ρ σ H s Dn hO2 st q => ?_⟩
  unfold fSet fOp fVar at q
  cases e1 : ρ[i]? with
  | none =>
    simp only [e1] at q
    exact q.elim
  | some o =>
    cases o with
    | none =>
      simp only [e1] at q
      exact q.elim
    | some d =>
      simp only [e1] at q
      obtain ⟨v, e2, r2⟩ := st.slots i d e1
      have l0 : os.lookup i = none := lookup_none (by rw [hO2]; exact hO)
      rw [l0] at r2
      refine ⟨v, e2, ?_⟩
      have q : satK K cl E0 F os H Dn (bnd (f ρ) (fun y => bnd (lift (g d y)) fun z => ret (.nx (ρ.set i (some z)))) s) := by
        have z : (bnd (bnd (ret d) fun x => bnd (f ρ) fun y => lift (g x y)) fun d => ret (Out.nx (ρ.set i (some d)))) s = (bnd (f ρ) (fun y => bnd (lift (g d y)) fun z => ret (.nx (ρ.set i (some z)))) s) := by
          show (bnd (bnd (f ρ) fun y => lift (g d y)) fun d => ret (Out.nx (ρ.set i (some d)))) s = _
          unfold bnd
          cases f ρ s <;> rfl
        rw [← z]
        exact q
      refine rt.bind hO2 st hxK hbK q fun dy s1 u H1 m1 st1 r1 q1 => ?_
      cases eg : g d dy with
      | none =>
        simp only [lift, bnd, eg] at q1
        exact q1.elim
      | some z =>
        simp only [lift, bnd, eg] at q1
        exact ro F os ρ σ H1 s1 _ v u d dy z st1 (rep_mv st m1 r2) r1 eg fun v' H2 m2 st2 r3 => q1 _ H2 (m1.trans m2) (st2.set l0 r3)
theorem ks_augAdd (i : Nat) {x : Str} {e : Expr} {f : Dm.Env → M D} {pos pos' : Pos} (he : ME Φ cl O e f) (hi : ∀ j, (Φ.X j).N[i]? = some x := by intro _; rfl) (hx : ∀ j, Loc (Φ.X j).env.scope x := by intro _; first | exact Or.inl rfl | exact Or.inr rfl)
    (hf : ∀ j, (Φ.X j).fn x = true ∨ (Φ.X j).env.scope.names.lookup x = some .local := by intro _; first | exact Or.inl rfl | exact Or.inr rfl) (hO : i ∉ O := by decide) : KS Φ cl O (.AugAssign (.Name x pos') .Add e pos) (fSet i (fOp iaddD (fVar i) f)) :=
  ks_augG (fun j => iop_add) ro_iadd he hi hx hf hO
theorem ks_if {c : Expr} {a b : List Stmt} {pos : Pos} {fc : Dm.Env → M Bool} {f g : Dm.Env → M Out} (hc : MT Φ cl O c fc) (ha : KSs Φ cl O a f) (hb : KSs Φ cl O b g) : KS Φ cl O (.If c a b pos) (fIf fc f g) := by
  obtain ⟨tc, pc, rc⟩ := hc
  obtain ⟨ta, pa, ra⟩ := ha
  obtain ⟨tb, pb, rb⟩ := hb
  refine ⟨_, fun j => ps_if (pc j) (pa j) (pb j), fun F os ρ σ H s Dn hO st q => ?_⟩
  refine rc.bind hO st hxK hbK q fun d s1 H1 m1 st1 q1 => ?_
  cases d with
  | true => exact ra F os ρ σ H1 s1 Dn hO st1 (satK_mono m1 q1)
  | false => exact rb F os ρ σ H1 s1 Dn hO st1 (satK_mono m1 q1)
/-- for x in own: .., all owned lists kept -/
def fForO (i : Nat) (g : D → Dm.Env → Option Dm.Env) (body : Dm.Env → M Out) (ρ : Dm.Env) : M Out := match ownL i ρ with
  | some l => loopL g body l ρ
  | none => bad
theorem ms_forO (i : Nat) {x : Str} {tg : Expr} {body : List Stmt} {pos p : Pos} {vs : List Nat} {g : D → Dm.Env → Option Dm.Env} {fb : Dm.Env → M Out} (hp : ∀ j, PassesOwn (model (Φ.X j).prog (Φ.X j).w) (Φ.X j).A (Φ.X j).env (Φ.X j).xe) (hg : MG Φ O tg vs g) (hb : KSs Φ cl O body fb)
    (hN : ∀ j, (Φ.X j).N[i]? = some x := by intro _; rfl) (hv : ∀ j, Vis (Φ.X j).env.scope x := by intro _; first | exact Or.inl rfl | exact Or.inr (Or.inl rfl) | exact Or.inr (Or.inr rfl)) (hi : i ∈ O := by decide)
    (hd : (x == ("__debug__" : Str)) = false := by decide) (hcd : (x == ("__classdict__" : Str)) = false := by decide)
    (hs : ∀ env y, foldedSetIterable (.Name x p) env y = pure y := by intro _ _; rfl) : MS Φ cl O O OL (.For tg (.Name x p) body [] pos) (fForO i g fb) := by
  obtain ⟨tg', pg, rg⟩ := hg
  obtain ⟨tb, pb, rb⟩ := hb
  refine ⟨tFor (iList K (tVar i)) tg' tb, fun j => by
    have z := pi_list (tg := tg) (pe_var (X := Φ.X j) (pos := p) (hN j) (hv j) hd hcd)
    rw [Φ.hK j] at z
    exact ps_for (hp j) (Φ.calm j) z (pg j) (pb j) (hs _), fun F os ρ σ H s Dn hO st q => ?_⟩
  unfold fForO at q
  cases eo : ownL i ρ with
  | none =>
    simp only [eo] at q
    exact q.elim
  | some l =>
    simp only [eo] at q
    obtain ⟨a, ws, ea, e1, e2, e3⟩ := st.owned hO hi eo
    have aq : a ≠ F.q := st.own_q (p := (i, a)) (lookup_mem ea)
    refine ⟨_, e1, a, rfl, ⟨_, seqL e2⟩, ?_⟩
    have B0 : Same F.B (hid (wld F os) H) := st.frz
    have rB : RepL K (hid (wld F os) H) l ws := e3
    have lw := e3.len
    refine ⟨fun k m σ' H' => m = l.length - k ∧ k ≤ l.length ∧ ∃ ρ' s', Mw F.q H H' ∧ StOk K F os ρ' σ' H' s' ∧ satS K cl E0 O OL F Dn (loopL g fb (l.drop k) ρ' s'), ⟨l.length, rfl, Nat.zero_le _, ρ, s, Mw.refl, st, q⟩, ?_⟩
    rintro k m σ' H' ⟨rfl, hle, ρ', s', m', st', q'⟩
    have eH : H' a = some (.lst ws) := m'.lst aq e2
    by_cases c : k = l.length
    · subst c
      rw [List.drop_length] at q'
      exact .inl ⟨⟨ws, seqL eH, by rw [lw]; exact Nat.le_refl _⟩, q' os σ' H' hO st'⟩
    · have lt : k < l.length := by omega
      have lt2 : k < ws.length := by omega
      refine .inr ⟨⟨ws, _, seqL eH, List.getElem?_eq_getElem lt2⟩, fun σ2 H2 => ∃ ρ2 s2, Mw F.q H H2 ∧ StOk K F os ρ2 σ2 H2 s2 ∧ satS K cl E0 O OL F Dn (loopL g fb (l.drop (k + 1)) ρ2 s2), fun σ2 H2 ⟨ρ2, s2, a1, a2, a3⟩ => ⟨l.length - (k + 1), by omega, rfl, by omega, ρ2, s2, a1, a2, a3⟩, fun x H2 hy => ?_⟩
      obtain ⟨rfl, hf⟩ := hy
      have ex := hf ws (seqL eH)
      have ed : l[k]? = some l[k] := List.getElem?_eq_getElem lt
      obtain ⟨u, eu, ru⟩ := rB.get ed
      rw [eu] at ex
      have ex := Option.some.inj ex
      rw [ex] at ru
      rw [drop_at ed] at q'
      have r2 : Rep K (hid (wld F os) H2) l[k] x := Rep.mono (hid_mv st.qW m') _ ru
      have q' : satS K cl E0 O OL F Dn (match g l[k] ρ' with
        | none => .bad
        | some ρ1 => match fb ρ1 s' with
          | .ok (.nx ρ2) s2 => loopL g fb (l.drop (k + 1)) ρ2 s2
          | .ok (.ct ρ2) s2 => loopL g fb (l.drop (k + 1)) ρ2 s2
          | .ok (.bk ρ2) s2 => .ok (.nx ρ2) s2
          | .ok (.rt d) s2 => .ok (.rt d) s2
          | .exc nm fs s2 => .exc nm fs s2
          | .bad => .bad) := q'
      cases eg : g l[k] ρ' with
      | none =>
        rw [eg] at q'
        exact q'.elim
      | some ρ1 =>
        rw [eg] at q'
        simp only at q'
        refine rg F os ρ' σ' H2 s' _ l[k] x ρ1 hO st' r2 eg fun σ1 st3 _ => ?_
        refine rb F os ρ1 σ1 H2 s' _ hO st3 ?_
        cases eb : fb ρ1 s' with
        | bad =>
          rw [eb] at q'
          exact q'
        | exc nm fs s2 =>
          rw [eb] at q'
          exact q'
        | ok o s2 =>
          rw [eb] at q'
          cases o with
          | nx ρ2 => exact fun σ2 H3 m3 st4 => ⟨ρ2, s2, m'.trans m3, st4, q'⟩
          | ct ρ2 => exact fun σ2 H3 m3 st4 => ⟨ρ2, s2, m'.trans m3, st4, q'⟩
          | bk ρ2 => exact fun σ2 H3 m3 st4 => q' os σ2 H3 hO st4
          | rt d => exact q'
end
end Dm

namespace Dm
open PySem PySem.Spec PyProof.Rows L2 My
section
variable {P : Program} {w : World} {K : Fr} {mg : Str → Option Value} {base : Heap} {cl : Str → Addr} {E0 : XK} {O O' OL : List Nat} {Φ : CxsE P w K mg base E0}
/-! a, b, c = [..], e, f where one of the names is a cell: a tuple is made and taken apart -/
theorem ms_asgFEE {i j l : Nat} {x y z : Str} {a b c : Expr} {f : Dm.Env → M (List D)} {gs : Dm.Env → M (List D)} {pos px py pz pt : Pos} {kt k2 pt2} (hi : ∀ k, (Φ.X k).N[i]? = some x) (hj : ∀ k, (Φ.X k).N[j]? = some y) (hl : ∀ k, (Φ.X k).N[l]? = some z) (hij : i ≠ j) (hil : i ≠ l) (hjl : j ≠ l)
    (hjO : j ∉ O) (hlO : l ∉ O) (ha : MF Φ cl O a f) (hb : MA Φ cl (999 :: O) [b, c] gs) (hw : ∀ k, swappedStores [.Tuple [.Name x px, .Name y py, .Name z pz] kt pt] (.Tuple [a, b, c] k2 pt2) (Φ.X k).env = pure none)
    (he : ∀ env, starEach [a, b, c] env = (false, eval a env) :: starEach [b, c] env := by intro _; rfl)
    (hs : ∀ env, swapsWithSole [.Tuple [.Name x px, .Name y py, .Name z pz] kt pt] (.Tuple [a, b, c] k2 pt2) pos.line env = pure false := by intro _; rfl)
    (hx : ∀ k, Loc (Φ.X k).env.scope x := by intro _; first | exact Or.inl rfl | exact Or.inr rfl) (hy : ∀ k, Loc (Φ.X k).env.scope y := by intro _; first | exact Or.inl rfl | exact Or.inr rfl) (hz : ∀ k, Loc (Φ.X k).env.scope z := by intro _; first | exact Or.inl rfl | exact Or.inr rfl)
    (fx : ∀ k, (Φ.X k).fn x = true ∨ (Φ.X k).env.scope.names.lookup x = some .local := by intro _; first | exact Or.inl rfl | exact Or.inr rfl) (fy : ∀ k, (Φ.X k).fn y = true ∨ (Φ.X k).env.scope.names.lookup y = some .local := by intro _; first | exact Or.inl rfl | exact Or.inr rfl)
    (fz : ∀ k, (Φ.X k).fn z = true ∨ (Φ.X k).env.scope.names.lookup z = some .local := by intro _; first | exact Or.inl rfl | exact Or.inr rfl) :
    MS Φ cl O (i :: drpO O i) OL (.Assign [.Tuple [.Name x px, .Name y py, .Name z pz] kt pt] (.Tuple [a, b, c] k2 pt2) pos) (fParFEE i j l f gs) := by
  obtain ⟨t, p, r⟩ := ha
  obtain ⟨t2, p2, r2⟩ := hb
  refine ⟨_, fun k => ps_asg (pe_tupN (pa_cons (p k) (p2 k) (he _))) (by
    have z := pg_tup (X := Φ.X k) (k := kt) (pos := pt) (n := 3) (Φ.calm k) (pgs_cons (pg_name (i := i) (pos := px) (Φ.nd k) (hi k) (hx k) (fx k)) (pgs_cons (pg_name (i := j) (pos := py) (Φ.nd k) (hj k) (hy k) (fy k)) (pgs_cons (pg_name (i := l) (pos := pz) (Φ.nd k) (hl k) (hz k) (fz k)) pgs_nil rfl) rfl) rfl) rfl rfl
    rw [Φ.hK k] at z
    exact z) (hs _) (hw k) rfl, fun F os ρ σ H s Dn hO st q => ?_⟩
  unfold fParFEE at q
  refine r F os ρ σ H s _ hO st ?_
  cases e : f ρ s with
  | bad =>
    simp only [bnd, e] at q
    exact q.elim
  | exc nm fs s1 =>
    simp only [bnd, e] at q
    exact q
  | ok m s1 =>
    simp only [bnd, e] at q
    intro a1 vs1 H1 m1 st1 e1 rp1
    refine r2 (F.at (hid (wld F ((999, a1) :: os)) H1)) ((999, a1) :: os) ρ σ H1 s1 _ (by rw [List.map_cons, hO]) (st1.into (Same.refl _)) ?_
    cases e2 : gs ρ s1 with
    | bad =>
      simp only [e2] at q
      exact q.elim
    | exc nm fs s2 =>
      simp only [e2] at q
      exact q
    | ok ds s2 =>
      simp only [e2] at q
      intro vs2 H2 m2 st2 rvs
      match ds, q, rvs with
      | [d1, d2], q, rvs =>
        obtain ⟨v1, r1, rfl, rv1, rr⟩ := rvs
        obtain ⟨v2, rfl, rv2⟩ := one_arg rr
        refine ⟨by rw [sizeLine_eq]; show 3 ≤ _; omega, fun p3 o3 np3 od3 => ?_⟩
        have sm : Same (hid (wld F ((999, a1) :: os)) H1) (hid (wld F ((999, a1) :: os)) H2) := st2.frz
        have st3 : StOk K F ((999, a1) :: os) ρ σ H2 s2 := StOk.out (st1.frz) st2
        have st4 : StOk K F ((999, a1) :: os) ρ σ (upd H2 p3 (.frz o3 (.tup [.ref a1, v1, v2]))) s2 := st3.laid np3
        have sm4 : Same (hid (wld F ((999, a1) :: os)) H2) (hid (wld F ((999, a1) :: os)) (upd H2 p3 (.frz o3 (.tup [.ref a1, v1, v2])))) := hid_mv st3.qW (Mw.of (same_new np3))
        have e1' : H2 a1 = some (.lst vs1) := m2.lst (st1.own_q (p := (999, a1)) List.mem_cons_self) e1
        have e1'' : upd H2 p3 (.frz o3 (.tup [.ref a1, v1, v2])) a1 = some (.lst vs1) := same_new np3 _ _ e1'
        have rp1' := RepL.mono sm4 _ (RepL.mono sm _ rp1)
        have few := st4.few
        have st5 := st4.setOwn (i := i) (by omega) e1'' rp1'
        have sub : Same (hid (wld F ((999, a1) :: os)) (upd H2 p3 (.frz o3 (.tup [.ref a1, v1, v2])))) (hid (wld F ((i, a1) :: drp os i)) (upd H2 p3 (.frz o3 (.tup [.ref a1, v1, v2])))) := hid_sub fun z hz => by
          rcases List.mem_cons.mp hz with z | z
          · rw [z]
            exact List.mem_cons_self
          · refine List.mem_cons_of_mem _ ?_
            rcases List.mem_append.mp z with z | z
            · refine List.mem_append_left _ ?_
              obtain ⟨p, hp, rfl⟩ := List.mem_map.mp z
              exact List.mem_map.mpr ⟨p, drp_sub p hp, rfl⟩
            · exact List.mem_append_right _ z
        have nO : ∀ k, k ∉ O → i ≠ k → k ∉ ((i, a1) :: drp os i).map (·.1) := fun k hk n => by
          rw [List.map_cons, drp_map, hO]
          intro z
          rcases List.mem_cons.mp z with z | z
          · exact n z.symm
          · exact hk (List.mem_filter.mp z).1
        have st6 := st5.set (i := j) (lookup_none (nO j hjO hij)) (Rep.mono sub _ (Rep.mono sm4 _ rv1))
        have st7 := st6.set (i := l) (lookup_none (nO l hlO hil)) (Rep.mono sub _ (Rep.mono sm4 _ rv2))
        refine ⟨p3, _, rfl, seqT (.inr ⟨o3, od3, upd_same⟩), rfl, _, _, rfl, _, _, rfl, _, _, rfl, rfl, ?_⟩
        exact q _ _ _ (by rw [List.map_cons, drp_map, hO]) st7
      | [], q, _ => exact q.elim
      | [_], q, _ => exact q.elim
      | _ :: _ :: _ :: _, q, _ => exact q.elim
end
/-! name = [..] on one line, the name a cell -/
theorem sw_cell {elt : Expr} {gs : List Comprehension} {scope : Scope} {pos py : Pos} {y : Str} {l : Nat} {env : PySem.Env} (h : (env.kindOf y == some NameKind.local) = false) : swapsWith (.ListComp elt gs scope pos) (some (.Name y py)) l env = pure false := by
  show pure (env.blockKind == ScopeKind.function && env.kindOf y == some NameKind.local && _ && _) = _
  rw [h]
  cases (env.blockKind == ScopeKind.function) <;> rfl
section
variable {P : Program} {w : World} {K : Fr} {mg : Str → Option Value} {base : Heap} {cl : Str → Addr} {E0 : XK} {O O' OL : List Nat} {Φ : CxsE P w K mg base E0}
theorem ms_setC (i : Nat) {x : Str} {e : Expr} {f : Dm.Env → M D} {pos pos' : Pos} (he : ME Φ cl O e f) (hs : ∀ j, swapsWith e (some (.Name x pos')) pos.line (Φ.X j).env = pure false) (hi : ∀ j, (Φ.X j).N[i]? = some x := by intro _; rfl) (hx : ∀ j, Loc (Φ.X j).env.scope x := by intro _; first | exact Or.inl rfl | exact Or.inr rfl)
    (hf : ∀ j, (Φ.X j).fn x = true ∨ (Φ.X j).env.scope.names.lookup x = some .local := by intro _; first | exact Or.inl rfl | exact Or.inr rfl) (hO : i ∉ O := by decide) : MS Φ cl O O OL (.Assign [.Name x pos'] e pos) (fSet i f) := by
  obtain ⟨t, p, r⟩ := he
  exact ⟨_, fun j => ps_set (Φ.nd j) (hi j) (hx j) (p j) (hs j) (hf j), r_set r hO⟩
end
/-! range(a, b, c) -/
def rg3 : List D → Option (List D)
  | [.int i, .int j, .int c] => if (decide (c ≠ 0) && decide (c.natAbs < 1073741824) && Builtin.Range.small i j c && decide (0 ≤ Builtin.Range.rangeSize i j c)) = true then
      some ((List.range (Builtin.Range.rangeSize i j c).toNat).map fun (k : Nat) => D.int (i + (k : Int) * c)) else none
  | _ => none
theorem rg3_some {ds l : List D} (e : rg3 ds = some l) : ∃ i j c n, ds = [.int i, .int j, .int c] ∧ RgC i j c n ∧ l = (List.range n).map fun (k : Nat) => D.int (i + (k : Int) * c) := by
  match ds, e with
  | [.int i, .int j, .int c], e =>
    obtain ⟨g, h⟩ := ite_some (c := (decide (c ≠ 0) && decide (c.natAbs < 1073741824) && Builtin.Range.small i j c && decide (0 ≤ Builtin.Range.rangeSize i j c))) (a := (List.range (Builtin.Range.rangeSize i j c).toNat).map fun (k : Nat) => D.int (i + (k : Int) * c)) e
    rw [Bool.and_eq_true, Bool.and_eq_true, Bool.and_eq_true] at g
    have g4 := of_decide_eq_true g.2
    exact ⟨i, j, c, _, rfl, ⟨of_decide_eq_true g.1.1.1, of_decide_eq_true g.1.1.2, g.1.2, by omega⟩, h.symm⟩
  | [], e => cases e
  | [x1], e => cases x1 <;> cases e
  | [x1, x2], e => cases x1 <;> first | (cases e; done) | (cases x2 <;> cases e)
  | x1 :: x2 :: x3 :: _ :: _, e => cases x1 <;> first | (cases e; done) | (cases x2 <;> first | (cases e; done) | (cases x3 <;> cases e))
def fRg3 (fs : Dm.Env → M (List D)) (ρ : Dm.Env) : M (List D) := bnd (fs ρ) fun ds => lift (rg3 ds)
theorem itc_ok {K : Fr} {B : Hp} {lo c : Int} {n : Nat} : IterOk K B (Itc lo c n) ((List.range n).map fun (k : Nat) => D.int (lo + (k : Int) * c)) where
  stop := fun i H b e => by
    rw [List.length_map, List.length_range] at e
    rw [e]
    exact Nat.le_refl _
  go := fun i H b lt => by
    rw [List.length_map, List.length_range] at lt
    exact lt
  yld := fun i H v H' b lt y => by
    obtain ⟨rfl, rfl⟩ := y
    rw [List.length_map, List.length_range] at lt
    exact ⟨.int (lo + (i : Int) * c), by rw [List.getElem?_map, List.getElem?_range lt]; rfl, .inl ⟨rfl, rfl⟩⟩
section
variable {P : Program} {w : World} {K : Fr} {mg : Str → Option Value} {base : Heap} {cl : Str → Addr} {E : SK} {Φ : Cxs P w K mg base E} {O : List Nat}
theorem mi_range3 {tg a b c : Expr} {fs : Dm.Env → M (List D)} {p pos : Pos} (hg : ∀ j, Gl (Φ.X j) "range") (hm : mg "range" = none) (ha : MA Φ cl O [a, b, c] fs) (hs : ∀ env, starEach [a, b, c] env = (false, eval a env) :: starEach [b, c] env := by intro _; rfl)
    (hs2 : ∀ env, ((backTo pos (starEach [b, c] env)).any fun x => x.1) = false := by intro _; rfl) : MI Φ cl O tg (.Call (.Name "range" p) [a, b, c] [] pos) (fRg3 fs) := by
  obtain ⟨t, pa, ra⟩ := ha
  refine ⟨_, fun j => pi_range3 (hg j) (by rw [Φ.hmg]; exact hm) (pa j) (hs _) (hs2 _), fun F os ρ σ H s R hO st q => ?_⟩
  refine ra.bind hO st hxI hbI q fun ds s1 vs H1 m1 st1 r1 q1 => ?_
  cases e : rg3 ds with
  | none =>
    simp only [lift, e] at q1
    exact q1.elim
  | some l =>
    simp only [lift, e] at q1
    obtain ⟨i, j, c, n, rfl, g, rfl⟩ := rg3_some e
    obtain ⟨v, r, rfl, rv, r2⟩ := r1
    obtain ⟨u, u2, rfl, ru, ru2⟩ := two_args r2
    exact ⟨i, j, c, n, by rw [show v = .int i from rv, show u = .int j from ru, show u2 = .int c from ru2], g, q1 _ _ m1 st1 itc_ok⟩
end
end Dm

/-! steps of mirrors that no law's name stands in -/
namespace Dm
open PySem PySem.Spec PyProof.Rows L2 My
theorem bnd_ok {α β : Type} {m : M α} {f : α → M β} {s s' : BS} {a : α} (h : m s = .ok a s') : bnd m f s = f a s' := by
  show (match m s with | .ok a s' => f a s' | .exc nm fs s' => .exc nm fs s' | .bad => .bad) = _
  rw [h]
theorem bnd_exc {α β : Type} {m : M α} {f : α → M β} {s s' : BS} {nm : Str} {fs : List (Str × D)} (h : m s = .exc nm fs s') : bnd m f s = .exc nm fs s' := by
  show (match m s with | .ok a s' => f a s' | .exc nm fs s' => .exc nm fs s' | .bad => .bad) = _
  rw [h]
theorem szOk_of {n : Nat} (h : n ≤ 1000) : szOk n = true := by
  unfold szOk
  exact decide_eq_true (by omega)
def isI : D → Bool
  | .int _ => true
  | _ => false
def isPl (d : D) : Bool := (tyName1 d).isSome
theorem isTy_eq (n : String) : isTyD (.ty n) (.ty "int") = some (.bl (decide (n = "int"))) := rfl
theorem ty_int {d : D} (h : isPl d = true) : ∃ n, typeD [d] = some (.ty n) ∧ decide (n = "int") = isI d := by
  cases d <;> first | exact ⟨_, rfl, decide_eq_true rfl⟩ | exact ⟨_, rfl, decide_eq_false (by decide)⟩ | cases h
theorem len_of_seq {x : D} {l : List D} (h : seqOf x = some l) : lenD [x] = some (.int (l.length : Int)) := by
  cases x <;> first | (cases h; done) | (cases h; rfl)
theorem all_isInt {l : List D} : (∀ d ∈ l, isI d = true) → ∃ ns, intsOf l = some ns := by
  induction l with
  | nil => exact fun _ => ⟨[], rfl⟩
  | cons d l ih =>
    intro h
    obtain ⟨ns, e⟩ := ih fun x hx => h x (List.mem_cons_of_mem _ hx)
    have h1 := h d List.mem_cons_self
    cases d with
    | int i => exact ⟨i :: ns, by rw [intsOf, e]⟩
    | _ => cases h1
theorem rg1_n {fs : Dm.Env → M (List D)} {ρ : Dm.Env} {s s1 : BS} {n : Nat} (h : fs ρ s = .ok [.int (n : Int)] s1) (hn : n ≤ 1000000) : fRg1 fs ρ s = .ok (nD (List.range n)) s1 := by
  unfold fRg1 bnd
  rw [h]
  have e : rgOk (n : Int) = true := by
    unfold rgOk
    rw [decide_eq_true (show (-100000000 : Int) ≤ n by omega), decide_eq_true (show (n : Int) < 100000000 by omega)]
    rfl
  show (if rgOk (n : Int) = true then Dm.ret (rgD 0 ((n : Int)).toNat) else bad) s1 = _
  rw [if_pos e, Int.toNat_natCast, rgN]
theorem seq_ok {f : Dm.Env → M D} {ρ : Dm.Env} {s s1 : BS} {d : D} {l : List D} (h : f ρ s = .ok d s1) (hs : seqOf d = some l) : fSeq f ρ s = .ok l s1 := by
  unfold fSeq bnd
  rw [h]
  simp only [lift, hs]
theorem rgL_n {f : Dm.Env → M D} {ρ : Dm.Env} {s s1 : BS} {n : Nat} (h : f ρ s = .ok (.int (n : Int)) s1) (hn : n ≤ 1000000) : fRgL f ρ s = .ok (nD (List.range n)) s1 := by
  unfold fRgL bnd
  rw [h]
  show (if (decide (0 ≤ (n : Int)) && decide ((n : Int) ≤ 1000000)) = true then Dm.ret (rgD 0 ((n : Int)).toNat) else bad) s1 = _
  rw [decide_eq_true (show (0 : Int) ≤ n by omega), decide_eq_true (show (n : Int) ≤ 1000000 by omega)]
  show Res.ok (rgD 0 ((n : Int)).toNat) s1 = _
  rw [Int.toNat_natCast, rgN]
theorem idxOf_cast (b : Nat) : ∀ r : List Nat, (r.map fun (x : Nat) => (x : Int)).idxOf (b : Int) = r.idxOf b
  | [] => rfl
  | x :: r => by
    rw [List.map_cons, List.idxOf_cons, List.idxOf_cons, idxOf_cast b r]
    by_cases c : x = b
    · subst c
      simp
    · have c2 : ¬ ((x : Int) = (b : Int)) := fun z => c (Int.ofNat_inj.mp z)
      rw [beq_false_of_ne c, beq_false_of_ne c2]
theorem mem_cast {b : Nat} {r : List Nat} (h : b ∈ r) : (b : Int) ∈ r.map fun (x : Nat) => (x : Int) := List.mem_map.mpr ⟨b, h, rfl⟩
theorem nD_map {α : Type} (l : List α) (f : α → Nat) : nD (l.map f) = l.map fun x => D.int ((f x : Nat) : Int) := by
  unfold nD
  rw [List.map_map]
  rfl
theorem lenD_T (r : List Nat) : lenD [.tup (nD r)] = some (.int (r.length : Int)) := by
  rw [len_of_seq rfl, nD_len]
theorem lenD_L (r : List Nat) : lenD [.lst (nD r)] = some (.int (r.length : Int)) := by
  rw [len_of_seq rfl, nD_len]
theorem tupleD_L (l : List D) : tupleD [.lst l] = some (.tup l) := rfl
theorem tupleD_T (l : List D) : tupleD [.tup l] = some (.tup l) := rfl
theorem look_ok {i : Nat} {O : List Nat} {f : Dm.Env → M D} {ρ : Dm.Env} {s s1 : BS} {d : D} (h : f (maskE (drpO O i) ρ) s = .ok d s1) (hs : scalar d = true) : fLook i O f ρ s = .ok d s1 := by
  unfold fLook
  rw [h]
  show (if scalar d = true then Res.ok d s1 else .bad) = _
  rw [if_pos hs]
theorem eqI (i j : Int) : eqD (.int i) (.int j) = some (.bl (decide (i = j))) := by
  have e : deq (.int i) (.int j) = decide (i = j) := by
    show PyData.eqv (.int i) (.int j) = _
    rw [PyData.eqv]
    rfl
  show (if (good (.int i) && good (.int j)) = true then some (D.bl (deq (.int i) (.int j))) else none) = _
  rw [if_pos (show (good (.int i) && good (.int j)) = true from rfl), e]
theorem gt_n (i j : Nat) : gtD (.int (i : Int)) (.int (j : Int)) = some (.bl (decide (j < i))) := by
  show some (D.bl (decide ((j : Int) < (i : Int)))) = _
  by_cases h : j < i
  · rw [decide_eq_true h, decide_eq_true (by omega)]
  · rw [decide_eq_false h, decide_eq_false (by omega)]
theorem zip_range (r : List Nat) : (List.range r.length).zip r = (List.range r.length).map fun i => (i, r.getD i 0) := by
  refine List.ext_getElem? fun i => ?_
  by_cases h : i < r.length
  · rw [List.getElem?_map, List.getElem?_range h, (List.getElem?_zip_eq_some (l₁ := List.range r.length) (l₂ := r) (z := (i, r.getD i 0))).mpr ⟨List.getElem?_range h, by rw [List.getD_eq_getElem?_getD, List.getElem?_eq_getElem h]; rfl⟩]
    rfl
  · rw [List.getElem?_eq_none (by rw [List.length_zip, List.length_range]; omega), List.getElem?_eq_none (by rw [List.length_map, List.length_range]; omega)]
theorem enum_n (r : List Nat) : enumD (nD r) = (List.range r.length).map fun (i : Nat) => D.tup0 [.int (i : Int), .int ((r.getD i 0 : Nat) : Int)] := by
  unfold enumD
  rw [nD_len, rgN]
  unfold nD
  rw [List.zip_map, zip_range, List.map_map, List.map_map]
  rfl
theorem mx_n (l : List Nat) : maxDf (.lst (nD l)) (.int (0)) = some (.int ((mxN l : Nat) : Int)) := by
  show (match intsOf (nD l) with | some ns => some (D.int (mx 0 ns)) | none => none) = _
  rw [nD_ints, intsOf_map]
  exact congrArg (fun z => some (D.int z)) (mx_zz l)
theorem ixO_ok {i : Nat} {f : Dm.Env → M D} {ρ : Dm.Env} {s s1 : BS} {l : List D} {k : Int} {d : D} (ho : ownL i ρ = some l) (h : f ρ s = .ok (.int k) s1) (hz : atI l k = some d) : fIxO i f ρ s = .ok d s1 := by
  unfold fIxO
  rw [ho]
  simp only [bnd, h, lift, hz]
theorem zip_mapD (r t : List Nat) : zipD (nD r) (nD t) = (r.zip t).map fun p => D.tup0 [.int (p.1 : Int), .int (p.2 : Int)] := by
  unfold zipD nD
  rw [List.zip_map, List.map_map]
  rfl
theorem ixN_n {n x : Nat} (h : x < n) : ixN n (x : Int) = some x := by
  unfold ixN
  rw [if_pos (by omega), if_pos (by omega), Int.toNat_natCast]
theorem nD_set (r : List Nat) (i x : Nat) : (nD r).set i (.int (x : Int)) = nD (r.set i x) := by
  unfold nD
  rw [List.map_set]
theorem max_n {l : List Nat} (h : l ≠ []) : maxD [.tup (nD l)] = some (.int ((mxN l : Nat) : Int)) := by
  show (match intsOf (nD l) with | some ns => (maxI ns).map D.int | none => none) = _
  rw [nD_ints, intsOf_map]
  cases l with
  | nil => exact absurd rfl h
  | cons x l => exact congrArg (fun z => some (D.int z)) (mx_zz (x :: l))
theorem last_n (l : List Nat) (x : Nat) : atI (nD (l ++ [x])) (-1) = some (.int (x : Int)) := by
  unfold atI ixN
  rw [if_neg (by omega), if_pos (by rw [nD_len, List.length_append]; show -(((l.length + 1 : Nat) : Int)) ≤ -1; omega), nD_app]
  show (nD l ++ nD [x])[((-1 : Int) + ((nD l ++ nD [x]).length : Int)).toNat]? = _
  have e : ((-1 : Int) + ((nD l ++ nD [x]).length : Int)).toNat = (nD l).length := by
    rw [List.length_append]
    show ((-1 : Int) + (((nD l).length + 1 : Nat) : Int)).toNat = _
    omega
  rw [e, List.getElem?_append_right (Nat.le_refl _), Nat.sub_self]
  rfl
theorem idx_n {l : List Nat} {x : Nat} (h : x ∈ l) {f : Dm.Env → M D} {g : Dm.Env → M (List D)} {ρ : Dm.Env} {s : BS} (hf : f ρ s = .ok (.tup (nD l)) s) (hg : g ρ s = .ok [.int (x : Int)] s) : fIdx f g ρ s = .ok (.int ((l.idxOf x : Nat) : Int)) s := by
  have e1 : tupInts (.tup (nD l)) = some (l.map fun (x : Nat) => (x : Int)) := by
    show intsOf (nD l) = _
    rw [nD_ints, intsOf_map]
  unfold fIdx bnd
  rw [hf]
  simp only [e1, hg, lift, idxN, decide_eq_true (mem_cast h), idxOf_cast, if_true]
theorem eraseP : ∀ (l : List Nat) {i : Nat} (h : i < l.length), (l[i] :: l.eraseIdx i).Perm l
  | x :: l, 0, _ => List.Perm.refl _
  | x :: l, i + 1, h => by
    have ih := eraseP l (i := i) (by simpa using h)
    rw [List.getElem_cons_succ, List.eraseIdx_cons_succ]
    exact (List.Perm.swap _ _ _).trans (ih.cons x)
  | [], _, h => absurd h (Nat.not_lt_zero _)
theorem nD_erase : ∀ (l : List Nat) (i : Nat), (nD l).eraseIdx i = nD (l.eraseIdx i)
  | [], _ => rfl
  | x :: l, 0 => rfl
  | x :: l, i + 1 => by
    show _ :: (nD l).eraseIdx i = _ :: nD (l.eraseIdx i)
    rw [nD_erase l i]
theorem cat_n (a b : List D) (h : a.length + b.length ≤ 1000) : addD (.lst a) (.lst b) = some (.lst (a ++ b)) := by
  show (if szOk (a.length + b.length) = true then some (D.lst (a ++ b)) else none) = _
  rw [if_pos (szOk_le (by omega))]
theorem ones_emp (n : Nat) : eqD (.lst (List.replicate n (.int (1)))) (.lst []) = some (.bl (decide (n = 0))) := by
  have z := eqD_nL (List.replicate n 1) []
  have e : nD (List.replicate n 1) = List.replicate n (.int (1)) := by
    unfold nD
    rw [List.map_replicate]
    rfl
  rw [e] at z
  refine z.trans ?_
  cases n with
  | zero => rfl
  | succ n => rfl
theorem sl1 (L : List D) : slD (.lst L) (some (1)) none = some (.lst (L.drop 1)) := by
  show some (D.lst (Dm.cutD L (some (1)) none)) = _
  cases L with
  | nil => rfl
  | cons d L =>
    unfold Dm.cutD
    have e0 : HT.sIx (d :: L).length 0 (some (1)) = 1 := by
      unfold HT.sIx
      simp
      try omega
    have e1 : HT.sIx (d :: L).length (d :: L).length none = (d :: L).length := rfl
    rw [e0, e1, List.take_of_length_le (by rw [List.length_drop]; exact Nat.le_refl _)]
theorem lt_nn (i j : Nat) : ltA (.int (i : Int)) (.int (j : Int)) = some (.bl (decide (i < j))) := by
  show some (D.bl (decide ((i : Int) < (j : Int)))) = _
  by_cases h : i < j
  · rw [decide_eq_true h, decide_eq_true (by omega)]
  · rw [decide_eq_false h, decide_eq_false (by omega)]
theorem max_nL {l : List Nat} (h : l ≠ []) : maxD [.lst (nD l)] = some (.int ((mxN l : Nat) : Int)) := by
  show (match intsOf (nD l) with | some ns => (maxI ns).map D.int | none => none) = _
  rw [nD_ints, intsOf_map]
  cases l with
  | nil => exact absurd rfl h
  | cons x l => exact congrArg (fun z => some (D.int z)) (mx_zz (x :: l))
theorem lastD_n {l : List Nat} (h : l ≠ []) : ixD (.lst (nD l)) (.int (-1)) = some (.int ((l.getLastD 0 : Nat) : Int)) := by
  have e := List.dropLast_concat_getLast h
  have z := last_n l.dropLast (l.getLast h)
  rw [e] at z
  have g : l.getLastD 0 = l.getLast h := by
    cases l with
    | nil => exact absurd rfl h
    | cons x l => rfl
  rw [g]
  exact z
theorem deq_cast (i j : Nat) : decide ((i : Int) = (j : Int)) = decide (i = j) := by
  by_cases c : i = j
  · rw [decide_eq_true c, decide_eq_true (by omega)]
  · rw [decide_eq_false c, decide_eq_false (by omega)]
theorem fn_nx {n : Nat} {m : Dm.Env → M Out} {ds : List D} {ρ : Dm.Env} {s s1 : BS} (h : m (ds.map some ++ List.replicate (n - ds.length) none) s = .ok (.nx ρ) s1) : fnM n m ds s = .ok .non s1 := by
  unfold fnM
  rw [h]
theorem drop_ok {f : Dm.Env → M D} {ρ : Dm.Env} {s s1 : BS} {d : D} (h : f ρ s = .ok d s1) : fDrop f ρ s = .ok (.nx ρ) s1 := by
  unfold fDrop
  exact bnd_ok h
theorem add_nT {a b : List Nat} (h : a.length + b.length ≤ 1000) : addD (.tup (nD a)) (.tup (nD b)) = some (.tup (nD (a ++ b))) := by
  have e : addD (.tup (nD a)) (.tup (nD b)) = if szOk ((nD a).length + (nD b).length) = true then some (.tup (nD a ++ nD b)) else none := by
    unfold addD
    rfl
  rw [e, nD_len, nD_len, if_pos (szOk_le (by omega)), nD_app]
theorem max_nn (i j : Nat) : maxD [.int (i : Int), .int (j : Int)] = some (.int ((max i j : Nat) : Int)) := by
  show some (D.int (if (j : Int) > (i : Int) then (j : Int) else (i : Int))) = _
  by_cases z : j > i
  · rw [if_pos (by omega), Nat.max_eq_right (by omega)]
  · rw [if_neg (by omega), Nat.max_eq_left (by omega)]
theorem ge_nn (i j : Nat) : geD (.int (i : Int)) (.int (j : Int)) = some (.bl (decide (j ≤ i))) := by
  show some (D.bl (decide ((j : Int) ≤ (i : Int)))) = _
  by_cases h : j ≤ i
  · rw [decide_eq_true h, decide_eq_true (by omega)]
  · rw [decide_eq_false h, decide_eq_false (by omega)]
theorem cons_exc {f : Dm.Env → M D} {g : Dm.Env → M (List D)} {ρ : Dm.Env} {s s1 : BS} {nm : Str} {e : List (Str × D)} (h : f ρ s = .exc nm e s1) : fCons f g ρ s = .exc nm e s1 := bnd_exc h
theorem ownA_exc {n : Nat} {m : List D → M D} {fs : Dm.Env → M (List D)} {ρ : Dm.Env} {s s1 : BS} {nm : Str} {e : List (Str × D)} (h : fs ρ s = .exc nm e s1) : fOwn n m fs ρ s = .exc nm e s1 := bnd_exc h
theorem ret_exc {f : Dm.Env → M D} {ρ : Dm.Env} {s s1 : BS} {nm : Str} {e : List (Str × D)} (h : f ρ s = .exc nm e s1) : fRet f ρ s = .exc nm e s1 := bnd_exc h
theorem set_exc {i : Nat} {f : Dm.Env → M D} {ρ : Dm.Env} {s s1 : BS} {nm : Str} {e : List (Str × D)} (h : f ρ s = .exc nm e s1) : fSet i f ρ s = .exc nm e s1 := bnd_exc h
theorem drop_exc {f : Dm.Env → M D} {ρ : Dm.Env} {s s1 : BS} {nm : Str} {e : List (Str × D)} (h : f ρ s = .exc nm e s1) : fDrop f ρ s = .exc nm e s1 := bnd_exc h
theorem heard_exc {P2 : Addr} {qn : Str} {O : List Nat} {hd : Str → List (Str × D) → Option D} {f : Dm.Env → M D} {ρ : Dm.Env} {s s1 : BS} {nm : Str} {fs : List (Str × D)} {d : D} (ht : s.tb = [(P2, qn)]) (h : f (maskE O ρ) s = .exc nm fs s1) (hh : hd nm fs = some d) :
    fHeard P2 qn O hd f ρ s = .ok d s1 := by
  unfold fHeard
  rw [if_pos ht, h]
  simp only [hh]
theorem sorted_down {l : List Nat} (h : l.Pairwise fun a b => b ≤ a) (hl : l.length < 64) : sortedD [.lst (nD l)] = some (.lst (nD l.reverse)) := by
  show (match intsOf (nD l) with | some ns => if decide (ns.length < 64) = true then some (D.lst ((sortI ns).map D.int)) else none | none => none) = _
  rw [nD_ints, intsOf_map]
  show (if decide ((l.map fun (x : Nat) => (x : Int)).length < 64) = true then _ else none) = _
  rw [if_pos (decide_eq_true (by rw [List.length_map]; exact hl)), nD_ints]
  have e := sortI_eq (l := l.map fun (x : Nat) => (x : Int)) (m := l.reverse.map fun (x : Nat) => (x : Int)) ((List.reverse_perm l).map _) (by
    rw [List.pairwise_map, List.pairwise_reverse]
    exact h.imp fun a => by omega)
  rw [e]
theorem sortSet_all {l : List Nat} {m : Nat} (h1 : ∀ x, x < m → x ∈ l) (h2 : ∀ x ∈ l, x < m) (hl : l.length < 64) : sortSetD (.tup (nD l)) = some (.lst (nD (List.range m))) := by
  show (match intsOf (nD l) with | some ns => if decide (ns.length < 64) = true then some (D.lst ((ssetI ns).map D.int)) else none | none => none) = _
  rw [nD_ints, intsOf_map]
  show (if decide ((l.map fun (x : Nat) => (x : Int)).length < 64) = true then _ else none) = _
  rw [if_pos (decide_eq_true (by rw [List.length_map]; exact hl)), nD_ints]
  have e : ssetI (l.map fun (x : Nat) => (x : Int)) = (List.range m).map fun (x : Nat) => (x : Int) := inc_ext (ssetI_inc _) (by
    rw [List.pairwise_map]
    exact List.pairwise_lt_range.imp fun a => by omega) fun k => by
      rw [ssetI_mem, List.mem_map, List.mem_map]
      constructor
      · rintro ⟨x, hx, rfl⟩
        exact ⟨x, List.mem_range.mpr (h2 x hx), rfl⟩
      · rintro ⟨x, hx, rfl⟩
        exact ⟨x, h1 x (List.mem_range.mp hx), rfl⟩
  rw [e]
theorem le_nn (i j : Nat) : leD (.int (i : Int)) (.int (j : Int)) = some (.bl (decide (i ≤ j))) := by
  show some (D.bl (decide ((i : Int) ≤ (j : Int)))) = _
  by_cases h : i ≤ j
  · rw [decide_eq_true h, decide_eq_true (by omega)]
  · rw [decide_eq_false h, decide_eq_false (by omega)]
theorem reprD_b (b : Bool) : reprD [.bl b] = some (.str (if b then "True" else "False")) := rfl
theorem neD_reprs (b : Bool) : neD (.str (if b then "True" else "False")) (.str (if b then "True" else "False")) = some (.bl false) := by
  cases b <;> exact neD_self (by decide +kernel)
theorem perm10 {x y : D} : (permOf 0 2 [1, 0]).g [] [x, y] = [y, x] := rfl
theorem perm0 {x : D} : (permOf 0 1 [0]).g [] [x] = [x] := rfl
theorem isNot_t : isNotA (.bl true) (.bl true) = some (.bl false) := rfl
theorem le_mx : ∀ {l : List Nat} {x : Nat}, x ∈ l → x ≤ mxN l := by
  have gen : ∀ (l : List Nat) (a x : Nat), (x = a ∨ x ∈ l) → x ≤ l.foldl max a := by
    intro l
    induction l with
    | nil =>
      intro a x h
      rcases h with rfl | h
      · exact Nat.le_refl _
      · cases h
    | cons y l ih =>
      intro a x h
      rw [List.foldl_cons]
      rcases h with rfl | h
      · exact Nat.le_trans (Nat.le_max_left _ _) (ih (max x y) (max x y) (.inl rfl))
      · rcases List.mem_cons.mp h with rfl | h
        · exact Nat.le_trans (Nat.le_max_right _ _) (ih (max a x) (max a x) (.inl rfl))
        · exact ih _ _ (.inr h)
  exact @fun l x h => gen l 0 x (.inr h)
theorem comp_none {α : Type} {g : D → Dm.Env → Option Dm.Env} {ft : Dm.Env → M Bool} {fe : Dm.Env → M D} {ρ : Dm.Env} {s s1 : BS} {vs : List Nat} {fi : Dm.Env → M (List D)} (xs : List α) (ι : α → D) (hi : fi ρ s = .ok (xs.map ι) s1) (hl : xs.length ≤ 16000000)
    (H : ∀ x ∈ xs, ∃ ρ1, g (ι x) (wipeE ρ vs) = some ρ1 ∧ ft ρ1 s1 = .ok false s1) : fLc vs fi g ft fe ρ s = .ok [] s1 := by
  have z := lc_of (g := g) (ft := ft) (fe := fe) (vs := vs) xs ι (fun _ => D.non) (fun _ => false) hi hl fun x hx => by
    obtain ⟨ρ1, e1, e2⟩ := H x hx
    exact ⟨ρ1, e1, e2, fun z => nomatch z⟩
  rw [z, List.filter_eq_nil_iff.mpr fun x _ => Bool.false_ne_true]
  rfl
theorem lc_draw {vs : List Nat} {fi : Dm.Env → M (List D)} {g : D → Dm.Env → Option Dm.Env} {ft : Dm.Env → M Bool} {fe : Dm.Env → M D} {ρ : Dm.Env} {s s1 s2 : BS} {l out : List D} (hi : fi ρ s = .ok l s1) (hc : compL g ft fe (wipeE ρ vs) l s1 = .ok out s2) (hz : szOk out.length = true) :
    fLc vs fi g ft fe ρ s = .ok out s2 := by
  unfold fLc bnd
  rw [hi]
  simp only [hc]
  rw [if_pos hz]
theorem and_dec (a b : Prop) [Decidable a] [Decidable b] : (decide a && decide b) = decide (a ∧ b) := by
  by_cases h : a <;> by_cases g : b <;> simp [h, g]
theorem neI (i j : Int) : neD (.int i) (.int j) = some (.bl (!decide (i = j))) := by
  have e : deq (.int i) (.int j) = decide (i = j) := by
    show PyData.eqv (.int i) (.int j) = _
    rw [PyData.eqv]
    rfl
  show (if (good (.int i) && good (.int j)) = true then some (D.bl (!deq (.int i) (.int j))) else none) = _
  rw [if_pos (show (good (.int i) && good (.int j)) = true from rfl), e]
theorem neD_n (i j : Nat) : neD (.int (i : Int)) (.int (j : Int)) = some (.bl (!decide (i = j))) := by
  rw [neI, deq_cast]
theorem eqD_n (i j : Nat) : eqD (.int (i : Int)) (.int (j : Int)) = some (.bl (decide (i = j))) := by
  rw [eqI, deq_cast]
end Dm

namespace Dm
open PySem PySem.Spec PyProof.Rows L2 My
theorem divW2 {i : Int} {m : Nat} (h : 1 ≤ m) (h2 : m ≤ 1000000000000) : CDivW i (m : Int) :=
  wide_div (b := 40) (by omega) (by omega) (by omega) (by omega)
/-! min of a tuple of ints -/
def rMinTup (K : PySem.W.Frag) : List V → Hp → VK → Prop := fun vs H Q => ∃ (a : Addr) (n : Int) (ns : List Int), vs = [V.ref a] ∧ SqT K H a ((n :: ns).map V.int) ∧ Q (.int (ns.foldl min n)) H
theorem cr_minTup {X : Cx} (hc : X.calm = true) (hu : X.A.units + 64 < cLine) : CallR X (.builtin "min") (rMinTup X.K) := by
  intro pins s σ H vs us Q I r h
  obtain ⟨a, n, ns, rfl, hs, q⟩ := h
  have e1 := Vals.ref1 r
  subst e1
  obtain ⟨its, rv, hl, _⟩ := I.tuple hs
  have hi := rv.ints
  have hr : ReadsAll s.heap its.toArray.toList ((n :: ns).map PyData.int) [] := by
    have := hi.reads s.heap
    simpa using this
  refine PySem.W.min_tuple_data (I.ok.hd hc) (show s.heap.IsTuple a its.toArray from hl) hr (alikes (n :: ns))
    (by have := depth_ints (n :: ns); rw [List.map_cons] at this; omega) fun i v h' tk bs hv rd k => ?_
  rw [PySem.W.minD_ints] at rd
  cases rd with
  | int _ t => exact ⟨.int _, H, I.kept k, ⟨_, rfl⟩, q⟩
def minB (ds : List D) : Option D := match ds with
  | [.tup l] => match intsOf l with
    | some ns => (minI ns).map D.int
    | none => none
  | ds => minA ds
theorem rc_minB {K : Fr} : RC K (fun vs H Q => rMinB K vs H Q ∨ rMinTup K vs H Q) minB := by
  intro F os ρ σ H s Q vs ds d st r e q
  have old : minA ds = some d → rMinB K vs H Q ∨ rMinTup K vs H Q := fun e => .inl (rc_minA F os ρ σ H s Q vs ds d st r e q)
  match ds, r, e, old with
  | [], r, e, old => exact old e
  | [x], r, e, old =>
    cases x with
    | tup l =>
      obtain ⟨v, rfl, a, ws, rfl, h1, h2⟩ := one_arg r
      have e : (match intsOf l with | some ns => (minI ns).map D.int | none => none) = some d := e
      cases ei : intsOf l with
      | none =>
        rw [ei] at e
        cases e
      | some ns =>
        rw [ei] at e
        simp only at e
        obtain ⟨m, em, rfl⟩ := Option.map_eq_some_iff.mp e
        obtain ⟨ew, _⟩ := intsOf_rep ei h2
        subst ew
        cases ns with
        | nil => cases em
        | cons x l =>
          refine .inr ⟨a, x, l, rfl, seqT (.inr (h1.mono (hid_same _ _))), ?_⟩
          have em : some (l.foldl min x) = some m := em
          rw [Option.some.inj em]
          exact q (.int m) H Mw.refl st rfl
    | _ => exact old e
  | x :: y :: l, r, e, old => exact old (by cases x <;> exact e)
section
variable {P : Program} {w : World} {K : Fr} {mg : Str → Option Value} {base : Heap} {cl : Str → Addr} {E : SK} {Φ : Cxs P w K mg base E} {O : List Nat}
variable {e : Expr} {es : List Expr} {fs : Env → M (List D)} {pos p : Pos}
theorem me_minB (hg : ∀ j, Gl (Φ.X j) "min") (hm : mg "min" = none) (ha : MA Φ cl O (e :: es) fs) (he : ∀ env, starEach (e :: es) env = (false, eval e env) :: starEach es env := by intro _; rfl) (hpl : ∀ env, (backTo pos (starEach es env)).any (·.1) = false := by intro _; rfl) :
    ME Φ cl O (.Call (.Name "min" p) (e :: es) [] pos) (fCall minB fs) := me_callB (fun j => by
  have z := CallR.or (cr_minB (Φ.calm j) (Φ.u64 j)) (cr_minTup (Φ.calm j) (Φ.u64 j))
  rwa [Φ.hK j] at z) rc_minB hg hm (by decide +kernel) ha (he := he) (hpl := hpl)
end
/-- the least of some numbers is none below 0 -/
theorem minI_nn : ∀ {l : List Nat}, l ≠ [] → ∃ m : Nat, minI (l.map fun (x : Nat) => (x : Int)) = some (m : Int)
  | [], h => absurd rfl h
  | x :: l, _ => by
    have gen : ∀ (l : List Nat) (x : Nat), ∃ m : Nat, (l.map fun (x : Nat) => (x : Int)).foldl min (x : Int) = (m : Int) := by
      intro l
      induction l with
      | nil => exact fun x => ⟨x, rfl⟩
      | cons y l ih =>
        intro x
        rw [List.map_cons, List.foldl_cons, show min (x : Int) (y : Int) = ((min x y : Nat) : Int) by omega]
        exact ih _
    obtain ⟨m, e⟩ := gen l x
    exact ⟨m, congrArg some e⟩
theorem minB_n {l : List Nat} (h : l ≠ []) : ∃ m : Nat, minB [.tup (nD l)] = some (.int (m : Int)) ∧ minB [.lst (nD l)] = some (.int (m : Int)) := by
  obtain ⟨m, e⟩ := minI_nn h
  refine ⟨m, ?_, ?_⟩
  · show (match intsOf (nD l) with | some ns => (minI ns).map D.int | none => none) = _
    rw [nD_ints, intsOf_map]
    simp only [e]
    rfl
  · show (match intsOf (nD l) with | some ns => (minI ns).map D.int | none => none) = _
    rw [nD_ints, intsOf_map]
    simp only [e]
    rfl
end Dm

namespace My
open PySem PySem.Spec PyProof.Rows L2 Dm

def topS (i : Nat) : Stmt := PySem.Challenge.pw_fromsize_k27_rises_and_colours.main.body.getD i (.Pass ⟨0, 0, 0, 0⟩)
def initOf : Stmt → Stmt
  | .ClassDef _ _ _ b _ _ _ _ _ _ _ => b.getD 0 (.Pass ⟨0, 0, 0, 0⟩)
  | s => s
abbrev s_bt : Stmt := initOf (topS 2)
theorem sc_bt : FnScope ["self", "part"] ["self", "part"] (defScope s_bt) :=
  ⟨rfl, rfl, rfl, by decide +kernel, rfl, by decide +kernel, by decide +kernel⟩
abbrev s_bn : Stmt := initOf (topS 3)
theorem sc_bn : FnScope ["self", "part"] ["self", "part"] (defScope s_bn) :=
  ⟨rfl, rfl, rfl, by decide +kernel, rfl, by decide +kernel, by decide +kernel⟩
abbrev s_is_integer : Stmt := topS 5
theorem sc_is_integer : FnScope ["value"] ["value"] (defScope s_is_integer) :=
  ⟨rfl, rfl, rfl, by decide +kernel, rfl, by decide +kernel, by decide +kernel⟩
abbrev s_is_within : Stmt := topS 6
theorem sc_is_within : FnScope ["value", "least", "most"] ["value", "least", "most"] (defScope s_is_within) :=
  ⟨rfl, rfl, rfl, by decide +kernel, rfl, by decide +kernel, by decide +kernel⟩
abbrev s_is_list : Stmt := topS 7
theorem sc_is_list : FnScope ["value"] ["value"] (defScope s_is_list) :=
  ⟨rfl, rfl, rfl, by decide +kernel, rfl, by decide +kernel, by decide +kernel⟩
abbrev s_is_numbers : Stmt := topS 8
theorem sc_is_numbers : FnScope ["value", "one"] ["value"] (defScope s_is_numbers) :=
  ⟨rfl, rfl, rfl, by decide +kernel, rfl, by decide +kernel, by decide +kernel⟩
abbrev s_is_size : Stmt := topS 9
theorem sc_is_size : FnScope ["value"] ["value"] (defScope s_is_size) :=
  ⟨rfl, rfl, rfl, by decide +kernel, rfl, by decide +kernel, by decide +kernel⟩
abbrev s_need_size : Stmt := topS 10
theorem sc_need_size : FnScope ["size"] ["size"] (defScope s_need_size) :=
  ⟨rfl, rfl, rfl, by decide +kernel, rfl, by decide +kernel, by decide +kernel⟩
abbrev s_is_ties : Stmt := topS 13
theorem sc_is_ties : FnScope ["value", "end", "other"] ["value"] (defScope s_is_ties) :=
  ⟨rfl, rfl, rfl, by decide +kernel, rfl, by decide +kernel, by decide +kernel⟩
abbrev s_are_ends_many : Stmt := topS 14
theorem sc_are_ends_many : FnScope ["value"] ["value"] (defScope s_are_ends_many) :=
  ⟨rfl, rfl, rfl, by decide +kernel, rfl, by decide +kernel, by decide +kernel⟩
abbrev s_need_ties : Stmt := topS 15
theorem sc_need_ties : FnScope ["value", "part"] ["value", "part"] (defScope s_need_ties) :=
  ⟨rfl, rfl, rfl, by decide +kernel, rfl, by decide +kernel, by decide +kernel⟩
abbrev s_tie_colours : Stmt := topS 17
theorem sc_tie_colours : FnScope ["ties"] ["ties"] (defScope s_tie_colours) :=
  ⟨rfl, rfl, rfl, by decide +kernel, rfl, by decide +kernel, by decide +kernel⟩
abbrev s_longest_rise : Stmt := topS 18
theorem sc_longest_rise : FnScope ["ties"] ["ties"] (defScope s_longest_rise) :=
  ⟨rfl, rfl, rfl, by decide +kernel, rfl, by decide +kernel, by decide +kernel⟩
abbrev s_ties_kept : Stmt := topS 19
theorem sc_ties_kept : FnScope ["ties", "size", "told"] ["ties", "size"] (defScope s_ties_kept) :=
  ⟨rfl, rfl, rfl, by decide +kernel, rfl, by decide +kernel, by decide +kernel⟩
abbrev s_end_colours : Stmt := topS 20
theorem sc_end_colours : FnScope ["row", "found", "end", "partner", "ahead", "other"] ["row"] (defScope s_end_colours) :=
  ⟨rfl, rfl, rfl, by decide +kernel, rfl, by decide +kernel, by decide +kernel⟩
abbrev s_rise_of : Stmt := topS 21
theorem sc_rise_of : FnScope ["row", "told", "rise", "end", "before", "other"] ["row"] (defScope s_rise_of) :=
  ⟨rfl, rfl, rfl, by decide +kernel, rfl, by decide +kernel, by decide +kernel⟩
abbrev s_are_kept_at : Stmt := topS 22
theorem sc_are_kept_at : FnScope ["row", "size"] ["row", "size"] (defScope s_are_kept_at) :=
  ⟨rfl, rfl, rfl, by decide +kernel, rfl, by decide +kernel, by decide +kernel⟩
abbrev s_rise_beyond : Stmt := topS 23
theorem sc_rise_beyond : FnScope ["row", "size", "rises", "lasts", "found", "end", "partner", "many", "last", "rise"] ["row", "size"] (defScope s_rise_beyond) :=
  ⟨rfl, rfl, rfl, by decide +kernel, rfl, by decide +kernel, by decide +kernel⟩
abbrev s_l_spool : Stmt := topS 25
theorem sc_l_spool : FnScope ["_law_script", "_law_cell"] ["_law_script"] (defScope s_l_spool) :=
  ⟨rfl, rfl, rfl, by decide +kernel, rfl, by decide +kernel, by decide +kernel⟩
abbrev s_l_draw : Stmt := topS 26
theorem sc_l_draw : FnScope ["_law_spool_here", "_law_many", "_law_rest", "_law_turn", "_law_cell", "_law_mixed"] ["_law_spool_here", "_law_many"] (defScope s_l_draw) :=
  ⟨rfl, rfl, rfl, by decide +kernel, rfl, by decide +kernel, by decide +kernel⟩
abbrev s_l_pick : Stmt := topS 27
theorem sc_l_pick : FnScope ["_law_spool_here", "_law_some"] ["_law_spool_here", "_law_some"] (defScope s_l_pick) :=
  ⟨rfl, rfl, rfl, by decide +kernel, rfl, by decide +kernel, by decide +kernel⟩
abbrev s_l_ties : Stmt := topS 28
theorem sc_l_ties : FnScope ["_law_spool_here", "_law_many", "_law_left", "_law_row", "_law_way", "_law_turn", "_law_one", "_law_at", "_law_other"] ["_law_spool_here", "_law_many"] (defScope s_l_ties) :=
  ⟨rfl, rfl, rfl, by decide +kernel, rfl, by decide +kernel, by decide +kernel⟩
abbrev s_l_all_ties : Stmt := topS 29
theorem sc_l_all_ties : FnScope ["_law_many", "_law_found", "_law_turn", "_law_longer", "_law_pairs", "_law_left", "_law_at", "_law_rows", "_law_row", "_law_one", "_law_other"] ["_law_many"] (defScope s_l_all_ties) :=
  ⟨rfl, rfl, rfl, by decide +kernel, rfl, by decide +kernel, by decide +kernel⟩
abbrev s_l_longest : Stmt := topS 30
theorem sc_l_longest : FnScope ["_law_ties_here", "_law_begun", "_law_end", "_law_later"] ["_law_ties_here"] (defScope s_l_longest) :=
  ⟨rfl, rfl, rfl, by decide +kernel, rfl, by decide +kernel, by decide +kernel⟩
abbrev s_l_levels : Stmt := topS 31
theorem sc_l_levels : FnScope ["_law_ties_here", "_law_found", "_law_left", "_law_level", "_law_first", "_law_end", "_law_ahead"] ["_law_ties_here"] (defScope s_l_levels) :=
  ⟨rfl, rfl, rfl, by decide +kernel, rfl, by decide +kernel, by decide +kernel⟩
abbrev s_l_takes : Stmt := topS 32
theorem sc_l_takes : FnScope ["_law_ties_here", "_law_setting", "_law_end", "_law_its"] ["_law_ties_here", "_law_setting"] (defScope s_l_takes) :=
  ⟨rfl, rfl, rfl, by decide +kernel, rfl, by decide +kernel, by decide +kernel⟩
abbrev s_l_rise_right : Stmt := topS 33
theorem sc_l_rise_right : FnScope ["_law_ties_here", "_law_told", "_law_many", "_law_end", "_law_one"] ["_law_ties_here", "_law_told", "_law_many"] (defScope s_l_rise_right) :=
  ⟨rfl, rfl, rfl, by decide +kernel, rfl, by decide +kernel, by decide +kernel⟩
abbrev s_l_told_right : Stmt := topS 34
theorem sc_l_told_right : FnScope ["_law_spool_here", "_law_ties_here", "_law_due", "_law_longest_here", "_law_told", "_law_rise", "_law_colour", "_law_ends", "_law_size", "_law_kept", "_law_end", "_law_its"] ["_law_spool_here", "_law_ties_here"] (defScope s_l_told_right) :=
  ⟨rfl, rfl, rfl, by decide +kernel, rfl, by decide +kernel, by decide +kernel⟩
abbrev s_l_latest_right : Stmt := topS 35
theorem sc_l_latest_right : FnScope ["_law_ties_here", "_law_every", "_law_told", "_law_some", "_law_due", "_law_colour", "_law_odd", "_law_other", "_law_end"] ["_law_ties_here", "_law_every"] (defScope s_l_latest_right) :=
  ⟨rfl, rfl, rfl, by decide +kernel, rfl, by decide +kernel, by decide +kernel⟩
abbrev s_l_heard : Stmt := topS 36
theorem sc_l_heard : FnScope ["_law_ask", "_law_caught", "error"] ["_law_ask"] (defScope s_l_heard) :=
  ⟨rfl, rfl, rfl, by decide +kernel, rfl, by decide +kernel, by decide +kernel⟩
abbrev s_l_refused_right : Stmt := topS 37
theorem sc_l_refused_right : FnScope ["_law_spool_here", "_law_ties_here", "_law_odd", "_law_bad", "_law_heard_here"] ["_law_spool_here", "_law_ties_here"] (defScope s_l_refused_right) :=
  ⟨rfl, rfl, rfl, by decide +kernel, rfl, by decide +kernel, by decide +kernel⟩
abbrev s_law : Stmt := topS 38
theorem sc_law : FnScope ["_law_script", "_law_spool_here", "_law_turn", "_law_ties_here", "_law_every"] ["_law_script"] (defScope s_law) :=
  ⟨rfl, rfl, rfl, by decide +kernel, rfl, by decide +kernel, by decide +kernel⟩
structure Txt (K : PySem.W.Frag) (mg : Str → Option Value) where
  a_is_integer : Addr
  fd_is_integer : FuncData
  F_is_integer : Fun K "is_integer" "is_integer" s_is_integer a_is_integer fd_is_integer
  g_is_integer : mg "is_integer" = some (.ref a_is_integer)
  b_is_integer : Binds K fd_is_integer ["value"] []
  a_is_within : Addr
  fd_is_within : FuncData
  F_is_within : Fun K "is_within" "is_within" s_is_within a_is_within fd_is_within
  g_is_within : mg "is_within" = some (.ref a_is_within)
  b_is_within : Binds K fd_is_within ["value", "least", "most"] []
  a_is_list : Addr
  fd_is_list : FuncData
  F_is_list : Fun K "is_list" "is_list" s_is_list a_is_list fd_is_list
  g_is_list : mg "is_list" = some (.ref a_is_list)
  b_is_list : Binds K fd_is_list ["value"] []
  a_is_numbers : Addr
  fd_is_numbers : FuncData
  F_is_numbers : Fun K "is_numbers" "is_numbers" s_is_numbers a_is_numbers fd_is_numbers
  g_is_numbers : mg "is_numbers" = some (.ref a_is_numbers)
  b_is_numbers : Binds K fd_is_numbers ["value"] []
  a_is_size : Addr
  fd_is_size : FuncData
  F_is_size : Fun K "is_size" "is_size" s_is_size a_is_size fd_is_size
  g_is_size : mg "is_size" = some (.ref a_is_size)
  b_is_size : Binds K fd_is_size ["value"] []
  a_need_size : Addr
  fd_need_size : FuncData
  F_need_size : Fun K "need_size" "need_size" s_need_size a_need_size fd_need_size
  g_need_size : mg "need_size" = some (.ref a_need_size)
  b_need_size : Binds K fd_need_size ["size"] []
  a_is_ties : Addr
  fd_is_ties : FuncData
  F_is_ties : Fun K "is_ties" "is_ties" s_is_ties a_is_ties fd_is_ties
  g_is_ties : mg "is_ties" = some (.ref a_is_ties)
  b_is_ties : Binds K fd_is_ties ["value"] []
  a_are_ends_many : Addr
  fd_are_ends_many : FuncData
  F_are_ends_many : Fun K "are_ends_many" "are_ends_many" s_are_ends_many a_are_ends_many fd_are_ends_many
  g_are_ends_many : mg "are_ends_many" = some (.ref a_are_ends_many)
  b_are_ends_many : Binds K fd_are_ends_many ["value"] []
  a_need_ties : Addr
  fd_need_ties : FuncData
  F_need_ties : Fun K "need_ties" "need_ties" s_need_ties a_need_ties fd_need_ties
  g_need_ties : mg "need_ties" = some (.ref a_need_ties)
  b_need_ties : Binds K fd_need_ties ["value", "part"] []
  a_tie_colours : Addr
  fd_tie_colours : FuncData
  F_tie_colours : Fun K "tie_colours" "tie_colours" s_tie_colours a_tie_colours fd_tie_colours
  g_tie_colours : mg "tie_colours" = some (.ref a_tie_colours)
  b_tie_colours : Binds K fd_tie_colours ["ties"] []
  a_longest_rise : Addr
  fd_longest_rise : FuncData
  F_longest_rise : Fun K "longest_rise" "longest_rise" s_longest_rise a_longest_rise fd_longest_rise
  g_longest_rise : mg "longest_rise" = some (.ref a_longest_rise)
  b_longest_rise : Binds K fd_longest_rise ["ties"] []
  a_ties_kept : Addr
  fd_ties_kept : FuncData
  F_ties_kept : Fun K "ties_kept" "ties_kept" s_ties_kept a_ties_kept fd_ties_kept
  g_ties_kept : mg "ties_kept" = some (.ref a_ties_kept)
  b_ties_kept : Binds K fd_ties_kept ["ties", "size"] []
  a_end_colours : Addr
  fd_end_colours : FuncData
  F_end_colours : Fun K "end_colours" "end_colours" s_end_colours a_end_colours fd_end_colours
  g_end_colours : mg "end_colours" = some (.ref a_end_colours)
  b_end_colours : Binds K fd_end_colours ["row"] []
  a_rise_of : Addr
  fd_rise_of : FuncData
  F_rise_of : Fun K "rise_of" "rise_of" s_rise_of a_rise_of fd_rise_of
  g_rise_of : mg "rise_of" = some (.ref a_rise_of)
  b_rise_of : Binds K fd_rise_of ["row"] []
  a_are_kept_at : Addr
  fd_are_kept_at : FuncData
  F_are_kept_at : Fun K "are_kept_at" "are_kept_at" s_are_kept_at a_are_kept_at fd_are_kept_at
  g_are_kept_at : mg "are_kept_at" = some (.ref a_are_kept_at)
  b_are_kept_at : Binds K fd_are_kept_at ["row", "size"] []
  a_rise_beyond : Addr
  fd_rise_beyond : FuncData
  F_rise_beyond : Fun K "rise_beyond" "rise_beyond" s_rise_beyond a_rise_beyond fd_rise_beyond
  g_rise_beyond : mg "rise_beyond" = some (.ref a_rise_beyond)
  b_rise_beyond : Binds K fd_rise_beyond ["row", "size"] []
  a_l_spool : Addr
  fd_l_spool : FuncData
  F_l_spool : Fun K "_law_spool" "_law_spool" s_l_spool a_l_spool fd_l_spool
  g_l_spool : mg "_law_spool" = some (.ref a_l_spool)
  b_l_spool : Binds K fd_l_spool ["_law_script"] []
  a_l_draw : Addr
  fd_l_draw : FuncData
  F_l_draw : Fun K "_law_draw" "_law_draw" s_l_draw a_l_draw fd_l_draw
  g_l_draw : mg "_law_draw" = some (.ref a_l_draw)
  b_l_draw : Binds K fd_l_draw ["_law_spool_here", "_law_many"] []
  a_l_pick : Addr
  fd_l_pick : FuncData
  F_l_pick : Fun K "_law_pick" "_law_pick" s_l_pick a_l_pick fd_l_pick
  g_l_pick : mg "_law_pick" = some (.ref a_l_pick)
  b_l_pick : Binds K fd_l_pick ["_law_spool_here", "_law_some"] []
  a_l_ties : Addr
  fd_l_ties : FuncData
  F_l_ties : Fun K "_law_ties" "_law_ties" s_l_ties a_l_ties fd_l_ties
  g_l_ties : mg "_law_ties" = some (.ref a_l_ties)
  b_l_ties : Binds K fd_l_ties ["_law_spool_here", "_law_many"] []
  a_l_all_ties : Addr
  fd_l_all_ties : FuncData
  F_l_all_ties : Fun K "_law_all_ties" "_law_all_ties" s_l_all_ties a_l_all_ties fd_l_all_ties
  g_l_all_ties : mg "_law_all_ties" = some (.ref a_l_all_ties)
  b_l_all_ties : Binds K fd_l_all_ties ["_law_many"] []
  a_l_longest : Addr
  fd_l_longest : FuncData
  F_l_longest : Fun K "_law_longest" "_law_longest" s_l_longest a_l_longest fd_l_longest
  g_l_longest : mg "_law_longest" = some (.ref a_l_longest)
  b_l_longest : Binds K fd_l_longest ["_law_ties_here"] []
  a_l_levels : Addr
  fd_l_levels : FuncData
  F_l_levels : Fun K "_law_levels" "_law_levels" s_l_levels a_l_levels fd_l_levels
  g_l_levels : mg "_law_levels" = some (.ref a_l_levels)
  b_l_levels : Binds K fd_l_levels ["_law_ties_here"] []
  a_l_takes : Addr
  fd_l_takes : FuncData
  F_l_takes : Fun K "_law_takes" "_law_takes" s_l_takes a_l_takes fd_l_takes
  g_l_takes : mg "_law_takes" = some (.ref a_l_takes)
  b_l_takes : Binds K fd_l_takes ["_law_ties_here", "_law_setting"] []
  a_l_rise_right : Addr
  fd_l_rise_right : FuncData
  F_l_rise_right : Fun K "_law_rise_right" "_law_rise_right" s_l_rise_right a_l_rise_right fd_l_rise_right
  g_l_rise_right : mg "_law_rise_right" = some (.ref a_l_rise_right)
  b_l_rise_right : Binds K fd_l_rise_right ["_law_ties_here", "_law_told", "_law_many"] []
  a_l_told_right : Addr
  fd_l_told_right : FuncData
  F_l_told_right : Fun K "_law_told_right" "_law_told_right" s_l_told_right a_l_told_right fd_l_told_right
  g_l_told_right : mg "_law_told_right" = some (.ref a_l_told_right)
  b_l_told_right : Binds K fd_l_told_right ["_law_spool_here", "_law_ties_here"] []
  a_l_latest_right : Addr
  fd_l_latest_right : FuncData
  F_l_latest_right : Fun K "_law_latest_right" "_law_latest_right" s_l_latest_right a_l_latest_right fd_l_latest_right
  g_l_latest_right : mg "_law_latest_right" = some (.ref a_l_latest_right)
  b_l_latest_right : Binds K fd_l_latest_right ["_law_ties_here", "_law_every"] []
  a_l_heard : Addr
  fd_l_heard : FuncData
  F_l_heard : Fun K "_law_heard" "_law_heard" s_l_heard a_l_heard fd_l_heard
  g_l_heard : mg "_law_heard" = some (.ref a_l_heard)
  b_l_heard : Binds K fd_l_heard ["_law_ask"] []
  a_l_refused_right : Addr
  fd_l_refused_right : FuncData
  F_l_refused_right : Fun K "_law_refused_right" "_law_refused_right" s_l_refused_right a_l_refused_right fd_l_refused_right
  g_l_refused_right : mg "_law_refused_right" = some (.ref a_l_refused_right)
  b_l_refused_right : Binds K fd_l_refused_right ["_law_spool_here", "_law_ties_here"] []
  a_law : Addr
  fd_law : FuncData
  F_law : Fun K "law" "law" s_law a_law fd_law
  g_law : mg "law" = some (.ref a_law)
  b_law : Binds K fd_law ["_law_script"] []
  t_MOST_ENDS : Tok
  c_MOST_ENDS : mg "MOST_ENDS" = some (.int 10 t_MOST_ENDS)
  z_isinstance : mg "isinstance" = none
  z_int : mg "int" = none
  z_bool : mg "bool" = none
  z_list : mg "list" = none
  z_tuple : mg "tuple" = none
  z_all : mg "all" = none
  z_len : mg "len" = none
  z_sorted : mg "sorted" = none
  z_range : mg "range" = none
  z_enumerate : mg "enumerate" = none
  z_zip : mg "zip" = none
  z_max : mg "max" = none
  z_min : mg "min" = none
  z_abs : mg "abs" = none
  z_repr : mg "repr" = none
  z_type : mg "type" = none
  k_tie_colours_ties : KBinds K fd_tie_colours ["ties"] ["ties"] (permOf 0 1 [0]).g (permOf 0 1 [0]).g
  k_longest_rise_ties : KBinds K fd_longest_rise ["ties"] ["ties"] (permOf 0 1 [0]).g (permOf 0 1 [0]).g
  k_ties_kept_size_ties : KBinds K fd_ties_kept ["ties", "size"] ["size", "ties"] (permOf 0 2 [1, 0]).g (permOf 0 2 [1, 0]).g
  cS : Addr
  gS : mg "SizeError" = some (.ref cS)
  cB : Addr
  gB : mg "BadTies" = some (.ref cB)
  fB : Addr
  fdB : FuncData
  FB : Fun K "__init__" "BadTies.__init__" s_bt fB fdB
  bB : Binds K fdB ["self", "part"] []
  iB : PySem.W.findIn K (.ref cB) "__init__" = some (some (.ref fB))
  tB : PySem.W.typeIn K (.ref fB) = some (.type "function")
  eB : ErrK K cB
  xB : PySem.W.exmOne K (.ref cB) (.ref cS) = some true
  nB_part : PySem.W.findIn K (.ref cB) "part" = some none
  nnB : PySem.W.kitOne K (.type "NoneType") (.ref cB) = some false
  cN : Addr
  gN : mg "BadNumber" = some (.ref cN)
  fN : Addr
  fdN : FuncData
  FN : Fun K "__init__" "BadNumber.__init__" s_bn fN fdN
  bN : Binds K fdN ["self", "part"] []
  iN : PySem.W.findIn K (.ref cN) "__init__" = some (some (.ref fN))
  tN : PySem.W.typeIn K (.ref fN) = some (.type "function")
  eN : ErrK K cN
  xN : PySem.W.exmOne K (.ref cN) (.ref cS) = some true
  nN_part : PySem.W.findIn K (.ref cN) "part" = some none
  nnN : PySem.W.kitOne K (.type "NoneType") (.ref cN) = some false
  noBN : PySem.W.kitOne K (.ref cB) (.ref cN) = some false
  noNB : PySem.W.kitOne K (.ref cN) (.ref cB) = some false
  cL : Addr
  pL : Addr
  lL : ∃ (oc : Value) (od : Option Addr) (kV doc pm : Value) (an : Option Addr) (ct : Value) (osl : Array (Option Value)),
    fd_l_refused_right = PySem.W.fnOf "_law_refused_right" "_law_refused_right" (defArgs s_l_refused_right) (defBody s_l_refused_right) (defScope s_l_refused_right) .none kV doc pm an (.ref cL) ct ∧ K.lookup a_l_refused_right = some ⟨oc, od, .func fd_l_refused_right, osl⟩ ∧ PySem.W.codeIn K (.ref cL) "_law_refused_right" = true
section
variable {P : Program} {w : World} {K : PySem.W.Frag} {mg : Str → Option Value} {base : Heap}
def clOf {K : PySem.W.Frag} {mg : Str → Option Value} (T : Txt K mg) : Str → Addr := fun nm => (([("BadTies", T.cB), ("BadNumber", T.cN)] : List (Str × Addr)).lookup nm).getD 0
theorem ok_eB (T : Txt K mg) : FnOk P w K mg base CX0 1 T.fB T.fdB ["self", "part"] (sp_initL T.cB ["part"]) := by
  refine T.FB.ok sc_bt (fun vs H Q E h => ?_) (fun cdv A outer s H vs Q E hr h => ?_)
  · obtain ⟨a, ws, rfl, hl, _⟩ := h
    rw [List.length_cons, hl]
    rfl
  · obtain ⟨a, ws, rfl, hl, ha, q⟩ := h
    obtain ⟨v, rfl⟩ := List.length_eq_one_iff.mp hl
    refine ⟨_, pss_one (ps_ost (pv 0) (pv 1)), ?_⟩
    exact ⟨_, rfl, _, rfl, a, T.cB, rfl, T.eB.oex, T.nB_part, .inl ⟨ha, fun dx n ne => q dx n ne⟩⟩
theorem ok_eN (T : Txt K mg) : FnOk P w K mg base CX0 1 T.fN T.fdN ["self", "part"] (sp_initL T.cN ["part"]) := by
  refine T.FN.ok sc_bn (fun vs H Q E h => ?_) (fun cdv A outer s H vs Q E hr h => ?_)
  · obtain ⟨a, ws, rfl, hl, _⟩ := h
    rw [List.length_cons, hl]
    rfl
  · obtain ⟨a, ws, rfl, hl, ha, q⟩ := h
    obtain ⟨v, rfl⟩ := List.length_eq_one_iff.mp hl
    refine ⟨_, pss_one (ps_ost (pv 0) (pv 1)), ?_⟩
    exact ⟨_, rfl, _, rfl, a, T.cN, rfl, T.eN.oex, T.nN_part, .inl ⟨ha, fun dx n ne => q dx n ne⟩⟩
def m_is_integer : Dm.Env → M Out := (fRet (fAndV (fCall isiD (fCons (fVar 0) (fCons (fC (.ty "int")) fNil))) (fNotV (fCall isiD (fCons (fVar 0) (fCons (fC (.ty "bool")) fNil))))))
def f_is_integer : List D → M D := fnM 1 m_is_integer
theorem ok_is_integer (T : Txt K mg) : FnOk P w K mg base (L2.CX P w) 1 T.a_is_integer T.fd_is_integer ["value"] (spD K (clOf T) 1 f_is_integer) :=
  okD (O' := []) T.F_is_integer sc_is_integer (by decide) m_is_integer fun cdv A outer s H E hr => (mss_one (ms_ret (me_and (me_isi (fun _ => by rfl) T.z_isinstance (ma_cons (me_v 0) (ma_cons (me_ty (fun _ => by rfl) T.z_int (by decide +kernel)) ma_nil))) (me_one
    (me_not (me_isi (fun _ => by rfl) T.z_isinstance (ma_cons (me_v 0) (ma_cons (me_ty (fun _ => by rfl) T.z_bool (by decide +kernel)) ma_nil))))))))

def m_is_list : Dm.Env → M Out := (fRet (fIsiT ["list", "tuple"] (fVar 0)))
def f_is_list : List D → M D := fnM 1 m_is_list
theorem ok_is_list (T : Txt K mg) : FnOk P w K mg base (L2.CX P w) 1 T.a_is_list T.fd_is_list ["value"] (spD K (clOf T) 1 f_is_list) :=
  okD (O' := []) T.F_is_list sc_is_list (by decide) m_is_list fun cdv A outer s H E hr => (mss_one (ms_ret (me_isiTy (fun _ => by rfl) T.z_isinstance (me_v 0) (fun _ => by rfl) T.z_list (by decide +kernel) (fun _ => by rfl) T.z_tuple (by decide +kernel))))

def m_end_colours : Dm.Env → M Out := (fThen (fSetF 1 (fF fNil)) (fThen (fFor (fEnum (fCons (fVar 0) fNil)) (gTp 2 (gsCons (gNm 2) (gsCons (gNm 3) gsNil))) (fThen (fSetF 4 (fLc [5] (fRg1 (fCons (fVar 2)
    fNil)) (gNm 5) (fTr (fOp ltA (fOp ixD (fVar 0) (fVar 5)) (fVar 3))) (fOp addD (fIxO 1 (fVar 5)) (fC (.int (1)))))) (fApp 1 (fOp maxDf (fVar 4) (fC (.int (0)))))))
    (fRet (fCall tupleD (fCons (fVar 1) fNil)))))
def f_end_colours : List D → M D := fnM 6 m_end_colours
theorem ok_end_colours (T : Txt K mg) : FnOk P w K mg base (L2.CX P w) 1 T.a_end_colours T.fd_end_colours ["row"] (spD K (clOf T) 1 f_end_colours) :=
  okD (O' := []) T.F_end_colours sc_end_colours (by decide) m_end_colours fun cdv A outer s H E hr => (mss_cons (ms_setFV 1 (mf_lst ma_nil)) (mss_cons (ms_for (fun _ => passes_of rfl) (mi_enum (fun _ => by rfl) T.z_enumerate (ma_cons (me_v 0) ma_nil)) (mg_tup (mgs_cons
    (mg_n 2) (mgs_cons (mg_n 3) mgs_nil))) (mss_cons (ms_setLc (i := 4) (fun _ => rfl) (fun _ => rfl) (fun _ => sw_true rfl rfl rfl (by decide +kernel)) (own :=
    [("other", 5)]) (mi_range1 (fun _ => by rfl) T.z_range (ma_cons (me_v 2) ma_nil)) (fun _ => blkOk_by (N := ["row", "found", "end", "partner", "ahead", "other"]) (sc
    := defScope s_end_colours) (own := [("other", 5)]) (by decide +kernel)) (mg_n 5) (mts_one (mt_ltA (me_ixA (me_v 0) (me_v 5) (fun _ _ => rfl)) (me_v 3))) (me_add
    (me_ixO 1 (me_v 5) (fun _ _ => rfl)) me_int)) (mss_freeze 4 (mss_one (ms_appendV 1 (me_maxDf (fun _ => by rfl) T.z_max (me_v 4) me_int)))))) (mss_freeze 1 (mss_one
    (ms_ret (me_tuple (fun _ => by rfl) T.z_tuple (ma_cons (me_v 1) ma_nil)))))))

def m_rise_beyond : Dm.Env → M Out := (fThen (fSetF 2 (fF fNil)) (fThen (fSetF 3 (fF fNil)) (fThen (fSet 4 (fTup fNil)) (fThen (fFor (fEnum (fCons (fVar 0) fNil)) (gTp 2 (gsCons (gNm 5) (gsCons (gNm 6)
    gsNil))) (fIf (fTr (fOp ltA (fVar 5) (fVar 6))) (fThen (fSet 7 (fC (.int (0)))) (fThen (fForO 3 (gNm 8) (fIf (fTr (fOp ltA (fVar 8) (fVar 6))) (fSet 7 (fOp iaddD
    (fVar 7) (fC (.int (1))))) fSkip)) (fThen (fSet 9 (fIf (fTr (fOp gtD (fVar 7) (fC (.int (0))))) (fOp addD (fIxO 2 (fOp subD (fVar 7) (fC (.int (1))))) (fTup (fCons
    (fVar 5) fNil))) (fTup (fCons (fVar 5) fNil)))) (fThen (fSetSl 2 (fVar 7) (fOp addD (fVar 7) (fC (.int (1)))) (fLst (fCons (fVar 9) fNil))) (fThen (fSetSl 3 (fVar 7)
    (fOp addD (fVar 7) (fC (.int (1)))) (fLst (fCons (fVar 6) fNil))) (fIf (fAndT (fTr (fOp geD (fVar 7) (fVar 1))) (fOrT (fTr (fOp eqD (fVar 4) (fTup fNil))) (fTr (fOp
    ltA (fOp ixD (fVar 0) (fOp ixD (fVar 4) (fUn negD (fC (.int (1)))))) (fVar 6))))) (fSet 4 (fOp addD (fSl (fVar 9) fPartN (fPart (fVar 1))) (fTup (fCons (fVar 5)
    fNil)))) fSkip)))))) fSkip)) (fRet (fVar 4))))))
def f_rise_beyond : List D → M D := fnM 10 m_rise_beyond
theorem ok_rise_beyond (T : Txt K mg) : FnOk P w K mg base (L2.CX P w) 1 T.a_rise_beyond T.fd_rise_beyond ["row", "size"] (spD K (clOf T) 2 f_rise_beyond) :=
  okD (O' := []) T.F_rise_beyond sc_rise_beyond (by decide) m_rise_beyond fun cdv A outer s H E hr => (mss_cons (ms_setFV 2 (mf_lst ma_nil)) (mss_cons (ms_setFV 3 (mf_lst ma_nil)) (mss_cons (ms_setV 4 (me_tup ma_nil)) (mss_cons (ms_for (fun _ => passes_of rfl) (mi_enum
    (fun _ => by rfl) T.z_enumerate (ma_cons (me_v 0) ma_nil)) (mg_tup (mgs_cons (mg_n 5) (mgs_cons (mg_n 6) mgs_nil))) (mss_one (ms_if (mt_ltA (me_v 5) (me_v 6))
    (mss_cons (ms_setV 7 me_int) (mss_cons (ms_forO 3 (fun _ => passes_of rfl) (mg_n 8) (ks_one (ks_if (mt_ltA (me_v 8) (me_v 6)) (ks_one (ks_augAdd 7 me_int)) ks_nil)))
    (mss_cons (ms_setV 9 (me_ifExp (mt_gt (me_v 7) me_int) (me_add (me_ixO 2 (me_sub (me_v 7) me_int) (fun _ _ => rfl)) (me_tup (ma_cons (me_v 5) ma_nil))) (me_tup
    (ma_cons (me_v 5) ma_nil)))) (mss_cons (ms_setSl 2 (me_v 7) (me_add (me_v 7) me_int) (me_lst (ma_cons (me_v 9) ma_nil))) (mss_cons (ms_setSl 3 (me_v 7) (me_add (me_v
    7) me_int) (me_lst (ma_cons (me_v 6) ma_nil))) (mss_one (ms_if (mw_pt (mw_and (mt_ge (me_v 7) (me_v 1)) (mw_and1 (mw_pt (mw_or (mt_eq (me_v 4) (me_tup ma_nil))
    (mw_or1 (mt_ltA (me_ixA (me_v 0) (me_ixA (me_v 4) (me_neg me_int) (fun _ _ => rfl)) (fun _ _ => rfl)) (me_v 6)))))))) (mss_one (ms_setV 4 (me_add (me_slice (me_v 9)
    mo_none (mo_some (me_v 1))) (me_tup (ma_cons (me_v 5) ma_nil))))) mss_nil))))))) mss_nil))) (mss_one (ms_ret (me_v 4)))))))

theorem ok_l_spool (T : Txt K mg) : FnOk P w K mg base CX0 1 T.a_l_spool T.fd_l_spool ["_law_script"] (sp_bagD K) := by
  refine T.F_l_spool.ok sc_l_spool (fun vs H Q E h => ?_) (fun cdv A outer s0 H vs Q E hr h => ?_)
  · obtain ⟨a, ns, rfl, _⟩ := h
    rfl
  · obtain ⟨a, ns, rfl, hS, hl, q⟩ := h
    refine ⟨_, (pss_one (ps_ret (pe_lst (pa_cons (pe_lc (own := [("_law_cell", 1)]) (g := gName 1) (by rfl) sc_l_spool.nd (pi_list (pe_slice sl_list (pv 0) po_none (po_some pe_int)))
    (blkOk_by (N := ["_law_script", "_law_cell"]) (sc := defScope s_l_spool) (own := [("_law_cell", 1)]) (by decide +kernel)) (fun _ _ _ _ _ => pg_name (i := 1) sc_l_spool.nd
    rfl (Or.inl rfl)) (fun _ _ _ _ _ => pts_nil) (fun _ _ _ _ _ => (pe_callTy call_int1 (by rfl) T.z_int (by decide +kernel) (pa_cons (pv 1) pa_nil)))) (pa_cons pe_int
    (pa_cons pe_int pa_nil)))))), ?_⟩
    refine ⟨_, rfl, _, rfl, a, _, rfl, hS, fun p np => ?_⟩
    obtain ⟨ms, em, lm⟩ := cut_ints ns none (some 59)
    rw [em]
    have s1 := same_new (o := .lst (ms.map V.int)) np
    refine ⟨p, rfl, ⟨_, seqL upd_same⟩, ?_⟩
    refine lcL (xs := ms.map V.int) upd_same (fun i => (ms.take i).map V.int) rfl
      (fun i hi => small_of (by rw [List.length_map, List.length_take]; omega)) (fun i x H Kt Kf hx s kt kf => ?_) (fun D H2 s2 nD e => ?_)
    · rw [List.getElem?_map] at hx
      obtain ⟨z, hz, rfl⟩ := Option.map_eq_some_iff.mp hx
      refine ⟨rfl, tyes ?_⟩
      refine iteT ⟨_, rfl, .inl ⟨z, rfl, kt _ _ (Same.refl _) ?_⟩⟩
      rw [List.take_add_one, hz, List.map_append]
      rfl
    · rw [List.length_map, List.take_length] at e
      refine ⟨by show 3 ≤ sizeLine; decide, fun z nz => ?_⟩
      exact q _ z D ms (s1.trans (s2.trans (same_new nz))) upd_same (same_new nz _ _ e) (ne_of_none e nz)

def gcs : GC := ⟨51031, 7013, 2147483563, 62011, 7013, 2147483629, 1213, 51031, 62011, 2147483579⟩
def f_l_draw : List D → M D := grabD gcs
theorem ok_l_draw (T : Txt K mg) : FnOk P w K mg base (L2.CX P w) 1 T.a_l_draw T.fd_l_draw ["_law_spool_here", "_law_many"] (spD K (clOf T) 2 f_l_draw) := by
  refine T.F_l_draw.okX sc_l_draw (fun vs H Q E h => ?_) (fun cdv A outer s0 H vs Q E hr h => ?_)
  · obtain ⟨F, s, ds, _, _, _, r, hl, _⟩ := h
    rw [← r.len]
    exact hl
  · obtain ⟨F, bs, ds, rfl, fok, bag, r, hl, want⟩ := h
    obtain ⟨m, q, cells, turn, rest, tb, rfl, rfl, etb, tabs, eqq, eq, ec, ncq, m1, m2, t0, t1, r0, wantG⟩ := grab_in fok bag r want
    clear want
    subst eqq
    have mpos : (0 : Int) < (m : Int) := by omega
    refine ⟨_, (pss_cons (ps_if (pt_cmpR op_gt (pe_ix ix_list (pv 0) pe_int (fun _ _ => rfl)) pe_int (nomark _)) (pss_cons (ps_set (i := 2) sc_l_draw.nd rfl (.inl rfl) (pe_ix ix_list
    (pv 0) pe_int (fun _ _ => rfl))) (pss_cons (ps_asg (pe_op op_fdivW (pe_callTy call_int1 (by rfl) T.z_int (by decide +kernel) (pa_cons (pv 2) pa_nil)) (pv 1)) (pg_sub
    (pv 0) pe_int set_list)) (pss_one (ps_ret (pe_op op_mod (pe_callTy call_int1 (by rfl) T.z_int (by decide +kernel) (pa_cons (pv 2) pa_nil)) (pv 1)))))) pss_nil)
    (pss_cons (ps_set (i := 3) sc_l_draw.nd rfl (.inl rfl) (pe_ix ix_list (pv 0) pe_int (fun _ _ => rfl))) (pss_cons (ps_asg (pe_op op_add (pv 3) pe_int) (pg_sub (pv 0)
    pe_int set_list)) (pss_cons (ps_set (i := 4) sc_l_draw.nd rfl (.inl rfl) (pe_op op_add (pe_op op_mul pe_int (pv 3)) pe_int)) (C8.pss_cut (ps_if (pt_cmpR (op_neD
    hr.units) (pe_ix ix_list (pv 0) pe_int (fun _ _ => rfl)) (pe_lst pa_nil) (nomark _)) (pss_one (ps_set (i := 4) sc_l_draw.nd rfl (.inl rfl) (pe_ix ix_list (pe_ix
    ix_list (pv 0) pe_int (fun _ _ => rfl)) (pe_op op_mod (pe_callTy call_int1 (by rfl) T.z_int (by decide +kernel) (pa_cons (pv 3) pa_nil)) (pe_callB call_len_seq
    (by rfl) T.z_len PySem.boot_len (pa_cons (pe_ix ix_list (pv 0) pe_int (fun _ _ => rfl)) pa_nil))) (fun _ _ => rfl)))) pss_nil) (C8.pss_cut (ps_if (PW.pt (pw_and
    (pt_cmpR op_lt (pv 3) (pe_callB call_len_seq (by rfl) T.z_len PySem.boot_len (pa_cons (pe_ix ix_list (pv 0) pe_int (fun _ _ => rfl)) pa_nil)) (nomark _)) (pw_and1
    (pt_cmpR op_ge (pe_callB call_abs (by rfl) T.z_abs (by decide +kernel) (pa_cons (pv 4) pa_nil)) (pe_op op_pow pe_int pe_int) (nomark _))))) (pss_cons (ps_set (i := 2)
    sc_l_draw.nd rfl (.inl rfl) (pe_op op_add (pe_op op_mul pe_int (pe_op op_sub (pe_callB call_abs (by rfl) T.z_abs (by decide +kernel) (pa_cons (pv 4) pa_nil)) (pe_op
    op_pow pe_int pe_int))) (pe_callTy call_int1 (by rfl) T.z_int (by decide +kernel) (pa_cons (pe_cmpR op_lt (pv 4) pe_int (nomark _)) pa_nil)))) (pss_cons (ps_asg
    (pe_op op_fdivW (pe_callTy call_int1 (by rfl) T.z_int (by decide +kernel) (pa_cons (pv 2) pa_nil)) (pv 1)) (pg_sub (pv 0) pe_int set_list)) (pss_one (ps_ret (pe_op
    op_mod (pe_callTy call_int1 (by rfl) T.z_int (by decide +kernel) (pa_cons (pv 2) pa_nil)) (pv 1)))))) pss_nil) (pss_cons (ps_set (i := 5) sc_l_draw.nd rfl (.inl rfl)
    (pe_op op_mod (pe_callTy call_int1 (by rfl) T.z_int (by decide +kernel) (pa_cons (pe_op op_pow (pe_op op_add (pe_op op_add (pe_op op_mod (pe_callTy call_int1 (by rfl)
    T.z_int (by decide +kernel) (pa_cons (pv 4) pa_nil)) pe_int) (pe_op op_mul pe_int (pv 3))) pe_int) pe_int) pa_nil)) pe_int)) (pss_cons (ps_set (i := 5) sc_l_draw.nd
    rfl (.inl rfl) (pe_op op_mod (pe_callTy call_int1 (by rfl) T.z_int (by decide +kernel) (pa_cons (pe_op op_pow (pe_op op_add (pe_op op_add (pe_op op_mul (pv 5) (pe_op
    op_add (pe_op op_mul pe_int (pv 3)) pe_int)) (pe_op op_mul (pe_op op_mul pe_int (pv 3)) (pv 3))) pe_int) pe_int) pa_nil)) pe_int)) (pss_one (ps_ret (pe_op op_mod
    (pe_callTy call_int1 (by rfl) T.z_int (by decide +kernel) (pa_cons (pe_op op_fdivW (pv 5) pe_int) pa_nil)) (pv 1)))))))))))), ?_⟩
    refine ⟨_, rfl, F.q, _, 2, .int rest, rfl, rfl, seqL eq, rfl, _, _, rfl, rfl, _, rfl, ?_⟩
    refine ite2 (fun pos => ?_) (fun pos => ?_)
    · -- what is left of a great cell
      have want := grab_1 (of_decide_eq_true pos) wantG
      refine ⟨_, rfl, F.q, _, 2, .int rest, rfl, rfl, seqL eq, rfl, ?_⟩
      refine ⟨_, rfl, .inl ⟨_, rfl, _, rfl, _, _, rfl, rfl, divW2 m1 m2, ?_⟩⟩
      refine ⟨_, rfl, F.q, _, 2, 2, rfl, rfl, eq, rfl, ?_⟩
      refine ⟨_, rfl, .inl ⟨_, rfl, _, rfl, _, _, rfl, rfl, mpos, ?_⟩⟩
      refine want _ _ (mw_updq eq) ⟨etb, tabs_updL tabs eq, rfl, upd_same, ?_⟩ rfl
      rw [upd_ne ncq]
      exact ec
    · have npos : ¬ rest > 0 := fun z => pos (decide_eq_true z)
      refine ⟨_, rfl, F.q, _, 1, .int turn, rfl, rfl, seqL eq, rfl, ?_⟩
      refine ⟨_, rfl, _, _, rfl, rfl, ?_⟩
      refine ⟨_, rfl, F.q, _, 1, 1, rfl, rfl, eq, rfl, ?_⟩
      refine ⟨_, rfl, _, _, rfl, rfl, .inl ⟨by decide, by decide⟩, _, _, rfl, rfl, ?_⟩
      -- the heap behind the count
      have eq1 : (upd F.H0 F.q (.lst [.ref F.c, .int (turn + 1), .int rest])) F.q = some (.lst [.ref F.c, .int (turn + 1), .int rest]) := upd_same
      have ec1 : (upd F.H0 F.q (.lst [.ref F.c, .int (turn + 1), .int rest])) F.c = some (.lst (cells.map V.int)) := by
        rw [upd_ne ncq]
        exact ec
      have tabs1 := tabs_updL (vs' := [.ref F.c, .int (turn + 1), .int rest]) tabs eq
      have mv1 : Mw F.q F.H0 (upd F.H0 F.q (.lst [.ref F.c, .int (turn + 1), .int rest])) := mw_updq eq
      refine ⟨fun σ H' => ∃ (y : Option V), σ = [some (.ref F.q), some (.int (m : Int)), none, some (.int turn), some (.int (cellB gcs ⟨F.q, cells, turn, rest, tb⟩)), y] ∧
        Same (upd F.H0 F.q (.lst [.ref F.c, .int (turn + 1), .int rest])) H', ?_, ?_⟩
      · refine ⟨_, rfl, F.q, _, 0, .ref F.c, rfl, rfl, seqL eq1, rfl, Nat.zero_le _, fun l nl => ?_⟩
        have sl := same_new (o := .lst []) nl
        refine ⟨.list (cells.map PyData.int), .list (([] : List Int).map PyData.int), .lst (seqL (sl _ _ ec1)) (dp_ints _), .lst (seqL upd_same) .nil, shaped_lst _, shaped_lst [], _, rfl, ?_⟩
        refine ite2 (fun ne => ?_) (fun ne => ?_)
        · have hne : cells ≠ [] := fun z => by
            subst z
            cases ne
          have hlen : 1 ≤ cells.length := by
            cases cells with
            | nil => exact absurd rfl hne
            | cons x r => exact Nat.le_add_left 1 _
          obtain ⟨j, hj, ej⟩ := mod_nat turn hlen
          refine ⟨_, rfl, F.q, _, 0, .ref F.c, rfl, rfl, seqL (sl _ _ eq1), rfl, ?_⟩
          refine ⟨_, rfl, .inl ⟨_, rfl, ?_⟩⟩
          refine ⟨_, rfl, F.q, _, 0, .ref F.c, rfl, rfl, seqL (sl _ _ eq1), rfl, F.c, _, rfl, .inl (seqL (sl _ _ ec1)), ?_⟩
          refine ⟨_, _, rfl, rfl, by rw [List.length_map]; omega, ?_⟩
          have hx : cells[j]? = some (cells[j]'hj) := List.getElem?_eq_getElem hj
          refine ⟨F.c, _, _, .int (cells[j]'hj), rfl, rfl, seqL (sl _ _ ec1), ?_, ?_⟩
          · rw [List.length_map, ej]
            refine atI_nat ?_
            rw [List.getElem?_map, hx]
            rfl
          · refine ⟨none, ?_, sl⟩
            rw [cellB_of hne ej hx]
            rfl
        · have he : cells = [] := by
            cases cells with
            | nil => rfl
            | cons x r => exact absurd rfl ne
          subst he
          exact ⟨none, rfl, sl⟩
      · rintro σ H' ⟨y, rfl, sm⟩
        generalize ex : cellB gcs ⟨F.q, cells, turn, rest, tb⟩ = x
        have eq2 := sm _ _ eq1
        have ec2 := sm _ _ ec1
        have tabs2 := tabs1.ext sm
        have mv2 : Mw F.q F.H0 H' := mv1.trans (Mw.of sm)
        refine ⟨fun σ H'' => ∃ (y : Option V), σ = [some (.ref F.q), some (.int (m : Int)), none, some (.int turn), some (.int x), y] ∧ H'' = H' ∧ ¬ (turn < (cells.length : Int) ∧ 10 ^ (Int.toNat 18) ≤ absI x), ?_, ?_⟩
        · refine ⟨_, rfl, _, rfl, F.q, _, 0, .ref F.c, rfl, rfl, seqL eq2, rfl, F.c, _, rfl, .inl (seqL ec2), _, _, rfl, rfl, _, rfl, ?_⟩
          rw [List.length_map]
          refine ite2 (fun c1 => ?_) (fun c1 => ?_)
          · refine ⟨_, rfl, _, rfl, _, _, rfl, rfl, ⟨by decide, by decide, by decide⟩, _, _, rfl, rfl, _, rfl, ?_⟩
            refine ite2 (fun c2 => ?_) (fun c2 => ?_)
            · have big : (10 : Int) ^ (Int.toNat 18) ≤ absI x := of_decide_eq_true c2
              have want := grab_2 npos ex (of_decide_eq_true c1) big wantG
              refine ⟨_, rfl, _, rfl, _, _, rfl, rfl, ⟨by decide, by decide, by decide⟩, _, _, rfl, rfl, _, _, rfl, rfl, .inl ⟨by decide, by decide⟩, ?_⟩
              refine ⟨_, rfl, _, _, rfl, rfl, .inr ⟨_, rfl, _, _, rfl, rfl, ?_⟩⟩
              refine ⟨_, rfl, .inl ⟨_, rfl, _, rfl, _, _, rfl, rfl, divW2 m1 m2, ?_⟩⟩
              refine ⟨_, rfl, F.q, _, 2, 2, rfl, rfl, eq2, rfl, ?_⟩
              refine ⟨_, rfl, .inl ⟨_, rfl, _, rfl, _, _, rfl, rfl, mpos, ?_⟩⟩
              refine want _ _ (mv2.trans (mw_updq eq2)) ⟨etb, tabs_updL tabs2 eq2, rfl, upd_same, ?_⟩ rfl
              rw [upd_ne ncq]
              exact ec2
            · exact ⟨y, rfl, rfl, fun z => c2 (decide_eq_true z.2)⟩
          · exact ⟨y, rfl, rfl, fun z => c1 (decide_eq_true z.1)⟩
        · rintro σ H'' ⟨y, rfl, rfl, nbig⟩
          have want := grab_3 npos ex nbig wantG
          have a1 := mod_lo x (m := 2147483563) (by decide)
          have a2 := mod_hi x (m := 2147483563) (by decide)
          refine ⟨_, rfl, .inl ⟨_, rfl, _, _, rfl, rfl, pos_c (by decide), _, rfl, _, _, rfl, rfl, .inl ⟨by decide, by decide⟩, _, _, rfl, rfl, _, _, rfl, rfl, ?_⟩⟩
          refine ⟨_, _, rfl, rfl, ⟨by decide, by decide, natAbs_small (by omega) (by omega)⟩, .inl ⟨_, rfl, _, _, rfl, rfl, pos_c (by decide), ?_⟩⟩
          dsimp only
          have b1 : 0 ≤ ((x % 2147483563 + 62011 * turn + 7013) ^ (Int.toNat 5)) % 2147483629 := mod_lo _ (by decide)
          have b2 : ((x % 2147483563 + 62011 * turn + 7013) ^ (Int.toNat 5)) % 2147483629 < 2147483629 := mod_hi _ (by decide)
          have want : satF K (clOf T) E F Q (.ok (.int ((((((x % 2147483563 + 62011 * turn + 7013) ^ (Int.toNat 5)) % 2147483629) * (2 * turn + 1213) + 51031 * turn * turn + 62011) ^ (Int.toNat 3)) % 2147483579 / 64 % (m : Int))) ⟨F.q, cells, turn + 1, rest, tb⟩) := want
          generalize ((x % 2147483563 + 62011 * turn + 7013) ^ (Int.toNat 5)) % 2147483629 = M at b1 b2 want ⊢
          have d1 : 0 ≤ M * (2 * turn + 1213) := Int.mul_nonneg b1 (by omega)
          have d2 : M * (2 * turn + 1213) ≤ 2147483629 * (20000 + 1213) := Int.mul_le_mul (by omega) (by omega) (by omega) (by omega)
          have e1 := (turn_sq t0 t1).1
          have e2 := (turn_sq t0 t1).2
          have e3 : 51031 * turn * turn = 51031 * (turn * turn) := Int.mul_assoc _ _ _
          refine ⟨_, rfl, _, rfl, _, _, rfl, rfl, .inl ⟨by decide, by decide⟩, _, _, rfl, rfl, _, _, rfl, rfl, .inl ⟨by omega, by omega⟩, ?_⟩
          refine ⟨_, rfl, _, _, rfl, rfl, .inl ⟨by decide, by decide⟩, _, rfl, _, _, rfl, rfl, .inl ⟨by omega, by omega⟩, _, _, rfl, rfl, _, _, rfl, rfl, ?_⟩
          refine ⟨_, _, rfl, rfl, ⟨by decide, by decide, natAbs_small (by omega) (by omega)⟩, .inl ⟨_, rfl, _, _, rfl, rfl, pos_c (by decide), ?_⟩⟩
          refine ⟨_, rfl, _, _, rfl, rfl, divW (m := 64) (by decide) (by decide), .inl ⟨_, rfl, _, rfl, _, _, rfl, rfl, mpos, ?_⟩⟩
          dsimp only
          exact want _ _ mv2 ⟨etb, tabs2, rfl, eq2, ec2⟩ rfl

def m_l_all_ties : Dm.Env → M Out := (fThen (fSet 1 (fLst (fCons (fTup (fCons (fTup fNil) (fCons (fTupRg (fVar 0)) fNil))) fNil))) (fThen (fFor (fRg1 (fCons (fOp divD (fVar 0) (fC (.int (2)))) fNil)) (gNm 2)
    (fThen (fSetF 3 (fF fNil)) (fThen (fFor (fSeq (fVar 1)) (gTp 2 (gsCons (gNm 4) (gsCons (gNm 5) gsNil))) (fFor (fRg2 (fCons (fC (.int (1))) (fCons (fCall lenD (fCons
    (fVar 5) fNil)) fNil))) (gNm 6) (fApp 3 (fTup (fCons (fOp addD (fVar 4) (fTup (fCons (fTup (fCons (fOp ixD (fVar 5) (fC (.int (0)))) (fCons (fOp ixD (fVar 5) (fVar
    6)) fNil))) fNil))) (fCons (fOp addD (fSl (fVar 5) (fPart (fC (.int (1)))) (fPart (fVar 6))) (fSl (fVar 5) (fPart (fOp addD (fVar 6) (fC (.int (1))))) fPartN))
    fNil)))))) (fSet 1 (fVar 3))))) (fThen (fSetF 7 (fF fNil)) (fThen (fFor (fSeq (fVar 1)) (gTp 2 (gsCons (gNm 4) (gsCons (gNm 5) gsNil))) (fThen (fSetF 8 (fRep (fLst
    (fCons (fC (.int (0))) fNil)) (fVar 0))) (fThen (fFor (fSeq (fVar 4)) (gTp 2 (gsCons (gNm 9) (gsCons (gNm 10) gsNil))) (fAsgM (fTup (fCons (fVar 10) (fCons (fVar 9)
    fNil))) (gmTp 2 (gmsCons (gmSub 8 (fVar 9)) (gmsCons (gmSub 8 (fVar 10)) gmsNil))))) (fApp 7 (fCall tupleD (fCons (fVar 8) fNil)))))) (fRet (fCall sortA (fCons (fVar
    7) fNil)))))))
def f_l_all_ties : List D → M D := fnM 11 m_l_all_ties
theorem ok_l_all_ties (T : Txt K mg) : FnOk P w K mg base (L2.CX P w) 1 T.a_l_all_ties T.fd_l_all_ties ["_law_many"] (spD K (clOf T) 1 f_l_all_ties) :=
  okD (O' := []) T.F_l_all_ties sc_l_all_ties (by decide) m_l_all_ties fun cdv A outer s H E hr => (mss_cons (ms_setV 1 (me_lst (ma_cons (me_tup (ma_cons (me_tup ma_nil) (ma_cons (me_tupRg1 (fun _ => by rfl) T.z_tuple (fun _ => by rfl) T.z_range (me_v 0)) ma_nil)))
    ma_nil))) (mss_cons (ms_for (fun _ => passes_of rfl) (mi_range1 (fun _ => by rfl) T.z_range (ma_cons (me_div (me_v 0) me_int) ma_nil)) (mg_n 2) (mss_cons (ms_setFV 3
    (mf_lst ma_nil)) (mss_cons (ms_for (fun _ => passes_of rfl) (mi_seq (me_v 1)) (mg_tup (mgs_cons (mg_n 4) (mgs_cons (mg_n 5) mgs_nil))) (mss_one (ms_for (fun _ =>
    passes_of rfl) (mi_range2 (fun _ => by rfl) T.z_range (ma_cons me_int (ma_cons (me_len (fun _ => by rfl) T.z_len (ma_cons (me_v 5) ma_nil)) ma_nil))) (mg_n 6)
    (mss_one (ms_appendV 3 (me_tup (ma_cons (me_add (me_v 4) (me_tup (ma_cons (me_tup (ma_cons (me_ixA (me_v 5) me_int (fun _ _ => rfl)) (ma_cons (me_ixA (me_v 5) (me_v
    6) (fun _ _ => rfl)) ma_nil))) ma_nil))) (ma_cons (me_add (me_slice (me_v 5) (mo_some me_int) (mo_some (me_v 6))) (me_slice (me_v 5) (mo_some (me_add (me_v 6)
    me_int)) mo_none)) ma_nil)))))))) (mss_freeze 3 (mss_one (ms_setV 1 (me_v 3))))))) (mss_cons (ms_setFV 7 (mf_lst ma_nil)) (mss_cons (ms_for (fun _ => passes_of rfl)
    (mi_seq (me_v 1)) (mg_tup (mgs_cons (mg_n 4) (mgs_cons (mg_n 5) mgs_nil))) (mss_cons (ms_setFV 8 (mf_rep (me_lst (ma_cons me_int ma_nil)) (me_v 0))) (mss_cons (ms_for
    (fun _ => passes_of rfl) (mi_seq (me_v 4)) (mg_tup (mgs_cons (mg_n 9) (mgs_cons (mg_n 10) mgs_nil))) (mss_one (ms_asgM (me_tup (ma_cons (me_v 10) (ma_cons (me_v 9)
    ma_nil))) (mgm_tup (mgms_cons (mgm_sub 8 (me_v 9)) (mgms_cons (mgm_sub 8 (me_v 10)) mgms_nil))) (fun _ => by rfl)))) (mss_freeze 8 (mss_one (ms_appendV 7 (me_tuple
    (fun _ => by rfl) T.z_tuple (ma_cons (me_v 8) ma_nil)))))))) (mss_freeze 7 (mss_one (ms_ret (me_sortA (fun _ => by rfl) T.z_sorted (ma_cons (me_v 7) ma_nil)))))))))

def m_l_longest : Dm.Env → M Out := (fThen (fSetF 1 (fRep (fLst (fCons (fC (.int (0))) fNil)) (fCall lenD (fCons (fVar 0) fNil)))) (fThen (fFor (fSeq (fUn revD (fL (fRgL (fCall lenD (fCons (fVar 0)
    fNil)))))) (gNm 2) (fSetI 1 (fVar 2) (fOp addD (fC (.int (1))) (fCall maxD (fCons (fOp addD (fLst (fCons (fC (.int (0))) fNil)) (fL (fLc [3] (fRg2 (fCons (fOp addD
    (fVar 2) (fC (.int (1)))) (fCons (fCall lenD (fCons (fVar 0) fNil)) fNil))) (gNm 3) (fTr (fOp gtD (fOp ixD (fVar 0) (fVar 3)) (fOp ixD (fVar 0) (fVar 2)))) (fIxO 1
    (fVar 3))))) fNil))))) (fRet (fCall maxD (fCons (fVar 1) fNil)))))
def f_l_longest : List D → M D := fnM 4 m_l_longest
theorem ok_l_longest (T : Txt K mg) : FnOk P w K mg base (L2.CX P w) 1 T.a_l_longest T.fd_l_longest ["_law_ties_here"] (spD K (clOf T) 1 f_l_longest) :=
  okD (O' := []) T.F_l_longest sc_l_longest (by decide) m_l_longest fun cdv A outer s H E hr => (mss_cons (ms_setFV 1 (mf_rep (me_lst (ma_cons me_int ma_nil)) (me_len (fun _ => by rfl) T.z_len (ma_cons (me_v 0) ma_nil)))) (mss_cons (ms_for (fun _ => passes_of rfl)
    (mi_seq (me_revL (me_ofF (mf_listRg1 (fun _ => by rfl) T.z_list (fun _ => by rfl) T.z_range (me_len (fun _ => by rfl) T.z_len (ma_cons (me_v 0) ma_nil)))))) (mg_n 2)
    (mss_one (ms_setItemV 1 (me_v 2) (me_add me_int (me_max (fun _ => by rfl) T.z_max (ma_cons (me_add (me_lst (ma_cons me_int ma_nil)) (me_ofF (mf_lc (own :=
    [("_law_later", 3)]) (mi_range2 (fun _ => by rfl) T.z_range (ma_cons (me_add (me_v 2) me_int) (ma_cons (me_len (fun _ => by rfl) T.z_len (ma_cons (me_v 0) ma_nil))
    ma_nil))) (fun _ => blkOk_by (N := ["_law_ties_here", "_law_begun", "_law_end", "_law_later"]) (sc := defScope s_l_longest) (own := [("_law_later", 3)])
    (by decide +kernel)) (mg_n 3) (mts_one (mt_gt (me_ixA (me_v 0) (me_v 3) (fun _ _ => rfl)) (me_ixA (me_v 0) (me_v 2) (fun _ _ => rfl)))) (me_ixO 1 (me_v 3) (fun _ _ =>
    rfl))))) ma_nil)))))) (mss_freeze 1 (mss_one (ms_ret (me_max (fun _ => by rfl) T.z_max (ma_cons (me_v 1) ma_nil)))))))

def m_l_levels : Dm.Env → M Out := (fThen (fParFEE 1 2 3 (fRep (fLst (fCons (fC (.int (0))) fNil)) (fCall lenD (fCons (fVar 0) fNil))) (fCons (fL (fRgL (fCall lenD (fCons (fVar 0) fNil)))) (fCons (fC (.int
    (0))) fNil))) (fThen (loopW (fTr (fOp neD (fVar 2) (fLst fNil))) (fThen (fSet 4 (fL (fLc [5] (fSeq (fVar 2)) (gNm 5) (fTr (fOp eqD (fL (fLc [6] (fSeq (fVar 2)) (gNm
    6) (fAndT (fTr (fOp ltA (fVar 6) (fVar 5))) (fTr (fOp ltA (fOp ixD (fVar 0) (fVar 6)) (fOp ixD (fVar 0) (fVar 5))))) (fC (.int (1))))) (fLst fNil))) (fVar 5))))
    (fThen (fFor (fSeq (fVar 4)) (gNm 5) (fSetI 1 (fVar 5) (fVar 3))) (fAsg (fTup (fCons (fL (fLc [5] (fSeq (fVar 2)) (gNm 5) (fTr (fOp notInD (fVar 5) (fVar 4))) (fVar
    5))) (fCons (fOp addD (fVar 3) (fC (.int (1)))) fNil))) (gTp 2 (gsCons (gNm 2) (gsCons (gNm 3) gsNil)))))) 1000) (fRet (fCall tupleD (fCons (fVar 1) fNil)))))
def f_l_levels : List D → M D := fnM 7 m_l_levels
theorem ok_l_levels (T : Txt K mg) : FnOk P w K mg base (L2.CX P w) 1 T.a_l_levels T.fd_l_levels ["_law_ties_here"] (spD K (clOf T) 1 f_l_levels) :=
  okD (O' := []) T.F_l_levels sc_l_levels (by decide) m_l_levels fun cdv A outer s H E hr => (mss_cons (ms_asgFEE (i := 1) (j := 2) (l := 3) (fun _ => rfl) (fun _ => rfl) (fun _ => rfl) (by decide) (by decide) (by decide) (by decide) (by decide) (mf_rep (me_lst
    (ma_cons me_int ma_nil)) (me_len (fun _ => by rfl) T.z_len (ma_cons (me_v 0) ma_nil))) (ma_cons (me_ofF (mf_listRg1 (fun _ => by rfl) T.z_list (fun _ => by rfl)
    T.z_range (me_len (fun _ => by rfl) T.z_len (ma_cons (me_v 0) ma_nil)))) (ma_cons me_int ma_nil)) (fun _ => by rfl)) (mss_cons (ms_while 1000 (fun _ => passes_of rfl)
    (mt_ne (me_v 2) (me_lst ma_nil)) (mss_cons (ms_setC 4 (me_ofF (mf_lc (own := [("_law_end", 5)]) (mi_seq (me_v 2)) (fun _ => blkOk_by (N := ["_law_ties_here",
    "_law_found", "_law_left", "_law_level", "_law_first", "_law_end", "_law_ahead"]) (sc := defScope s_l_levels) (own := [("_law_end", 5)]) (by decide +kernel)) (mg_n 5)
    (mts_one (mt_eq (me_ofF (mf_lc (own := [("_law_ahead", 6)]) (mi_seq (me_v 2)) (fun _ => blkOk_by (by kernel_rfl)) (mg_n 6) (mts_one (mw_pt (mw_and (mt_ltA (me_v 6)
    (me_v 5)) (mw_and1 (mt_ltA (me_ixA (me_v 0) (me_v 6) (fun _ _ => rfl)) (me_ixA (me_v 0) (me_v 5) (fun _ _ => rfl))))))) me_int)) (me_lst ma_nil))) (me_v 5))) (fun _
    => sw_cell rfl)) (mss_cons (ms_for (fun _ => passes_of rfl) (mi_seq (me_v 4)) (mg_n 5) (mss_one (ms_setItemV 1 (me_v 5) (me_v 3)))) (mss_one (ms_asgX (me_tup (ma_cons
    (me_ofF (mf_lc (own := [("_law_end", 5)]) (mi_seq (me_v 2)) (fun _ => blkOk_by (N := ["_law_ties_here", "_law_found", "_law_left", "_law_level", "_law_first",
    "_law_end", "_law_ahead"]) (sc := defScope s_l_levels) (own := [("_law_end", 5)]) (by decide +kernel)) (mg_n 5) (mts_one (mt_notIn (me_v 5) (me_v 4))) (me_v 5)))
    (ma_cons (me_add (me_v 3) me_int) ma_nil))) (mg_tup (mgs_cons (mg_n 2) (mgs_cons (mg_n 3) mgs_nil))) (fun _ => by rfl)))))) (mss_freeze 1 (mss_one (ms_ret (me_tuple
    (fun _ => by rfl) T.z_tuple (ma_cons (me_v 1) ma_nil)))))))

def m_l_takes : Dm.Env → M Out := (fRet (fOp eqD (fL (fLc [2, 3] (fEnum (fCons (fVar 0) fNil)) (gTp 2 (gsCons (gNm 2) (gsCons (gNm 3) gsNil))) (fTr (fOp neD (fOp ixD (fVar 1) (fVar 2)) (fOp ixD (fVar 1)
    (fVar 3)))) (fC (.int (1))))) (fLst fNil)))
def f_l_takes : List D → M D := fnM 4 m_l_takes
theorem ok_l_takes (T : Txt K mg) : FnOk P w K mg base (L2.CX P w) 1 T.a_l_takes T.fd_l_takes ["_law_ties_here", "_law_setting"] (spD K (clOf T) 2 f_l_takes) :=
  okD (O' := []) T.F_l_takes sc_l_takes (by decide) m_l_takes fun cdv A outer s H E hr => (mss_one (ms_ret (me_eq (me_ofF (mf_lc (own := [("_law_end", 2), ("_law_its", 3)]) (mi_enum (fun _ => by rfl) T.z_enumerate (ma_cons (me_v 0) ma_nil)) (fun _ => blkOk_by
    (N := ["_law_ties_here", "_law_setting", "_law_end", "_law_its"]) (sc := defScope s_l_takes) (own := [("_law_end", 2), ("_law_its", 3)]) (by decide +kernel)) (mg_tup
    (mgs_cons (mg_n 2) (mgs_cons (mg_n 3) mgs_nil))) (mts_one (mt_ne (me_ixA (me_v 1) (me_v 2) (fun _ _ => rfl)) (me_ixA (me_v 1) (me_v 3) (fun _ _ => rfl)))) me_int))
    (me_lst ma_nil))))

def m_l_rise_right : Dm.Env → M Out := (fThen (fIf (fOrT (fNotT (fTr (fCall isiD (fCons (fVar 1) (fCons (fC (.ty "tuple")) fNil))))) (fOrT (fTr (fOp neD (fCall lenD (fCons (fVar 1) fNil)) (fVar 2))) (fTr (fOp
    neD (fL (fLc [3] (fSeq (fVar 1)) (gNm 3) (fOrT (fNotT (fTr (fCall isiD (fCons (fVar 3) (fCons (fC (.ty "int")) fNil))))) (fTr (fCall isiD (fCons (fVar 3) (fCons (fC
    (.ty "bool")) fNil))))) (fVar 3))) (fLst fNil))))) (fRet (fC (.bl false))) fSkip) (fThen (fIf (fTr (fOp neD (fL (fLc [3] (fSeq (fVar 1)) (gNm 3) (fNotT (fTr (fChain
    leD ltD (fC (.int (0))) (fVar 3) (fCall lenD (fCons (fVar 0) fNil))))) (fVar 3))) (fLst fNil))) (fRet (fC (.bl false))) fSkip) (fRet (fOp eqD (fL (fLc [4, 3] (fZip
    (fCons (fVar 1) (fCons (fSl (fVar 1) (fPart (fC (.int (1)))) fPartN) fNil))) (gTp 2 (gsCons (gNm 4) (gsCons (gNm 3) gsNil))) (fOrT (fTr (fOp geD (fVar 4) (fVar 3)))
    (fTr (fOp geD (fOp ixD (fVar 0) (fVar 4)) (fOp ixD (fVar 0) (fVar 3))))) (fC (.int (1))))) (fLst fNil)))))
def f_l_rise_right : List D → M D := fnM 5 m_l_rise_right
theorem ok_l_rise_right (T : Txt K mg) : FnOk P w K mg base (L2.CX P w) 1 T.a_l_rise_right T.fd_l_rise_right ["_law_ties_here", "_law_told", "_law_many"] (spD K (clOf T) 3 f_l_rise_right) :=
  okD (O' := []) T.F_l_rise_right sc_l_rise_right (by decide) m_l_rise_right fun cdv A outer s H E hr => (mss_cons (ms_if (mw_pt (mw_or (mt_not (mt_val (me_isi (fun _ => by rfl) T.z_isinstance (ma_cons (me_v 1) (ma_cons (me_ty (fun _ => by rfl) T.z_tuple (by decide +kernel))
    ma_nil))))) (mw_or (mt_ne (me_len (fun _ => by rfl) T.z_len (ma_cons (me_v 1) ma_nil)) (me_v 2)) (mw_or1 (mt_ne (me_ofF (mf_lc (own := [("_law_end", 3)]) (mi_seq
    (me_v 1)) (fun _ => blkOk_by (N := ["_law_ties_here", "_law_told", "_law_many", "_law_end", "_law_one"]) (sc := defScope s_l_rise_right) (own := [("_law_end", 3)])
    (by decide +kernel)) (mg_n 3) (mts_one (mw_pt (mw_or (mt_not (mt_val (me_isi (fun _ => by rfl) T.z_isinstance (ma_cons (me_v 3) (ma_cons (me_ty (fun _ => by rfl)
    T.z_int (by decide +kernel)) ma_nil))))) (mw_or1 (mt_val (me_isi (fun _ => by rfl) T.z_isinstance (ma_cons (me_v 3) (ma_cons (me_ty (fun _ => by rfl) T.z_bool
    (by decide +kernel)) ma_nil)))))))) (me_v 3))) (me_lst ma_nil)))))) (mss_one (ms_ret me_bl)) mss_nil) (mss_cons (ms_if (mt_ne (me_ofF (mf_lc (own := [("_law_end",
    3)]) (mi_seq (me_v 1)) (fun _ => blkOk_by (N := ["_law_ties_here", "_law_told", "_law_many", "_law_end", "_law_one"]) (sc := defScope s_l_rise_right) (own :=
    [("_law_end", 3)]) (by decide +kernel)) (mg_n 3) (mts_one (mt_not (mt_chain (fun _ => op_le) ro_le (fun _ => op_lt) ro_lt me_int (me_v 3) (me_len (fun _ => by rfl)
    T.z_len (ma_cons (me_v 0) ma_nil))))) (me_v 3))) (me_lst ma_nil)) (mss_one (ms_ret me_bl)) mss_nil) (mss_one (ms_ret (me_eq (me_ofF (mf_lc (own := [("_law_one", 4),
    ("_law_end", 3)]) (mi_zip (fun _ => by rfl) T.z_zip (ma_cons (me_v 1) (ma_cons (me_slice (me_v 1) (mo_some me_int) mo_none) ma_nil))) (fun _ => blkOk_by (N :=
    ["_law_ties_here", "_law_told", "_law_many", "_law_end", "_law_one"]) (sc := defScope s_l_rise_right) (own := [("_law_one", 4), ("_law_end", 3)]) (by decide +kernel))
    (mg_tup (mgs_cons (mg_n 4) (mgs_cons (mg_n 3) mgs_nil))) (mts_one (mw_pt (mw_or (mt_ge (me_v 4) (me_v 3)) (mw_or1 (mt_ge (me_ixA (me_v 0) (me_v 4) (fun _ _ => rfl))
    (me_ixA (me_v 0) (me_v 3) (fun _ _ => rfl))))))) me_int)) (me_lst ma_nil))))))

def m_is_within : Dm.Env → M Out := (fThen (fIf (fNotT (fTr (fOwn 1 f_is_integer (fCons (fVar 0) fNil)))) (fRet (fC (.bl false))) fSkip) (fRet (fAndV (fOrV (fOp isD (fVar 1) (fC .non)) (fOp leD (fVar 1)
    (fVar 0))) (fOrV (fOp isD (fVar 2) (fC .non)) (fOp leD (fVar 0) (fVar 2))))))
def f_is_within : List D → M D := fnM 3 m_is_within
theorem ok_is_within (T : Txt K mg) : FnOk P w K mg base (L2.CX P w) 2 T.a_is_within T.fd_is_within ["value", "least", "most"] (spD K (clOf T) 3 f_is_within) :=
  okD (O' := []) T.F_is_within sc_is_within (by decide) m_is_within fun cdv A outer s H E hr => (mss_cons (ms_if (mt_not (mt_val (me_own (ok_is_integer T) (Nat.le_of_ble_eq_true rfl) (fun _ => by rfl) T.g_is_integer T.F_is_integer.kp T.b_is_integer (ma_cons (me_v 0)
    ma_nil)))) (mss_one (ms_ret me_bl)) mss_nil) (mss_one (ms_ret (me_and (me_or (me_is (me_v 1) me_non) (me_one (me_le (me_v 1) (me_v 0)))) (me_one (me_or (me_is (me_v
    2) me_non) (me_one (me_le (me_v 0) (me_v 2)))))))))

def m_is_numbers : Dm.Env → M Out := (fRet (fAndV (fOwn 1 f_is_list (fCons (fVar 0) fNil)) (fCall allD (fCons (fL (fLc [1] (fSeq (fVar 0)) (gNm 1) fYes (fOrV (fOp isTyD (fCall typeD (fCons (fVar 1) fNil))
    (fC (.ty "int"))) (fOwn 1 f_is_integer (fCons (fVar 1) fNil))))) fNil))))
def f_is_numbers : List D → M D := fnM 2 m_is_numbers
theorem ok_is_numbers (T : Txt K mg) : FnOk P w K mg base (L2.CX P w) 2 T.a_is_numbers T.fd_is_numbers ["value"] (spD K (clOf T) 1 f_is_numbers) :=
  okD (O' := []) T.F_is_numbers sc_is_numbers (by decide) m_is_numbers fun cdv A outer s H E hr => (mss_one (ms_ret (me_and (me_own (ok_is_list T) (Nat.le_of_ble_eq_true rfl) (fun _ => by rfl) T.g_is_list T.F_is_list.kp T.b_is_list (ma_cons (me_v 0) ma_nil)) (me_one
    (me_all (fun _ => by rfl) T.z_all (ma_cons (me_ofF (mf_lc (own := [("one", 1)]) (mi_seq (me_v 0)) (fun _ => blkOk_by (N := ["value", "one"]) (sc := defScope
    s_is_numbers) (own := [("one", 1)]) (by decide +kernel)) (mg_n 1) mts_nil (me_or (me_isTy (me_typeC (fun _ => by rfl) T.z_type (ma_cons (me_v 1) ma_nil)) (me_ty (fun
    _ => by rfl) T.z_int (by decide +kernel))) (me_one (me_own (ok_is_integer T) (Nat.le_of_ble_eq_true rfl) (fun _ => by rfl) T.g_is_integer T.F_is_integer.kp
    T.b_is_integer (ma_cons (me_v 1) ma_nil)))))) ma_nil))))))

def m_rise_of : Dm.Env → M Out := (fThen (fSet 1 (fOwn 1 f_end_colours (fCons (fVar 0) fNil))) (fThen (fSetF 2 (fF (fCons (fIdx (fVar 1) (fCons (fCall maxD (fCons (fVar 1) fNil)) fNil)) fNil))) (fThen
    (loopW (fTr (fOp gtD (fOp ixD (fVar 1) (fIxO 2 (fUn negD (fC (.int (1)))))) (fC (.int (0))))) (fThen (fSet 3 (fIxO 2 (fUn negD (fC (.int (1)))))) (fThen (fSetF 4 (fLc
    [5] (fRg1 (fCons (fVar 3) fNil)) (gNm 5) (fAndT (fTr (fOp ltA (fOp ixD (fVar 0) (fVar 5)) (fOp ixD (fVar 0) (fVar 3)))) (fTr (fOp eqD (fOp ixD (fVar 1) (fVar 5)) (fOp
    subD (fOp ixD (fVar 1) (fVar 3)) (fC (.int (1))))))) (fVar 5))) (fApp 2 (fIxO 4 (fC (.int (0))))))) 1000) (fRet (fCall tupleD (fCons (fUn revD (fVar 2)) fNil))))))
def f_rise_of : List D → M D := fnM 6 m_rise_of
theorem ok_rise_of (T : Txt K mg) : FnOk P w K mg base (L2.CX P w) 2 T.a_rise_of T.fd_rise_of ["row"] (spD K (clOf T) 1 f_rise_of) :=
  okD (O' := []) T.F_rise_of sc_rise_of (by decide) m_rise_of fun cdv A outer s H E hr => (mss_cons (ms_setV 1 (me_own (ok_end_colours T) (Nat.le_of_ble_eq_true rfl) (fun _ => by rfl) T.g_end_colours T.F_end_colours.kp T.b_end_colours (ma_cons (me_v 0)
    ma_nil))) (mss_cons (ms_setFV 2 (mf_lst (ma_cons (me_tidx (me_v 1) (ma_cons (me_max (fun _ => by rfl) T.z_max (ma_cons (me_v 1) ma_nil)) ma_nil)) ma_nil))) (mss_cons
    (ms_while 1000 (fun _ => passes_of rfl) (mt_gt (me_ixA (me_v 1) (me_ixO 2 (me_neg me_int) (fun _ _ => rfl)) (fun _ _ => rfl)) me_int) (mss_end 4 (mss_cons (ms_setV 3
    (me_ixO 2 (me_neg me_int) (fun _ _ => rfl))) (mss_cons (ms_setLc (i := 4) (fun _ => rfl) (fun _ => rfl) (fun _ => sw_true rfl rfl rfl (by decide +kernel)) (own :=
    [("other", 5)]) (mi_range1 (fun _ => by rfl) T.z_range (ma_cons (me_v 3) ma_nil)) (fun _ => blkOk_by (N := ["row", "told", "rise", "end", "before", "other"]) (sc :=
    defScope s_rise_of) (own := [("other", 5)]) (by decide +kernel)) (mg_n 5) (mts_one (mw_pt (mw_and (mt_ltA (me_ixA (me_v 0) (me_v 5) (fun _ _ => rfl)) (me_ixA (me_v 0)
    (me_v 3) (fun _ _ => rfl))) (mw_and1 (mt_eq (me_ixA (me_v 1) (me_v 5) (fun _ _ => rfl)) (me_sub (me_ixA (me_v 1) (me_v 3) (fun _ _ => rfl)) me_int)))))) (me_v 5))
    (mss_one (ms_appendV 2 (me_ixO 4 me_int (fun _ _ => rfl)))))) rfl)) (mss_freeze 2 (mss_one (ms_ret (me_tuple (fun _ => by rfl) T.z_tuple (ma_cons (me_revL (me_v 2))
    ma_nil))))))))

def m_are_kept_at : Dm.Env → M Out := (fRet (fOp eqD (fOwn 2 f_rise_beyond (fCons (fVar 0) (fCons (fVar 1) fNil))) (fTup fNil)))
def f_are_kept_at : List D → M D := fnM 2 m_are_kept_at
theorem ok_are_kept_at (T : Txt K mg) : FnOk P w K mg base (L2.CX P w) 2 T.a_are_kept_at T.fd_are_kept_at ["row", "size"] (spD K (clOf T) 2 f_are_kept_at) :=
  okD (O' := []) T.F_are_kept_at sc_are_kept_at (by decide) m_are_kept_at fun cdv A outer s H E hr => (mss_one (ms_ret (me_eq (me_own (ok_rise_beyond T) (Nat.le_of_ble_eq_true rfl) (fun _ => by rfl) T.g_rise_beyond T.F_rise_beyond.kp T.b_rise_beyond (ma_cons (me_v 0)
    (ma_cons (me_v 1) ma_nil))) (me_tup ma_nil))))

def m_l_pick : Dm.Env → M Out := (fRet (fOp ixD (fVar 1) (fOwn 2 f_l_draw (fCons (fVar 0) (fCons (fCall lenD (fCons (fVar 1) fNil)) fNil)))))
def f_l_pick : List D → M D := fnM 2 m_l_pick
theorem ok_l_pick (T : Txt K mg) : FnOk P w K mg base (L2.CX P w) 2 T.a_l_pick T.fd_l_pick ["_law_spool_here", "_law_some"] (spD K (clOf T) 2 f_l_pick) :=
  okD (O' := []) T.F_l_pick sc_l_pick (by decide) m_l_pick fun cdv A outer s H E hr => (mss_one (ms_ret (me_ixA (me_v 1) (me_own (ok_l_draw T) (Nat.le_of_ble_eq_true rfl) (fun _ => by rfl) T.g_l_draw T.F_l_draw.kp T.b_l_draw (ma_cons (me_v 0) (ma_cons
    (me_len (fun _ => by rfl) T.z_len (ma_cons (me_v 1) ma_nil)) ma_nil))) (fun _ _ => rfl))))

def m_l_ties : Dm.Env → M Out := (fThen (fParFFE 2 3 4 (fRgL (fVar 1)) (fRep (fLst (fCons (fC (.int (0))) fNil)) (fVar 1)) (fOwn 2 f_l_draw (fCons (fVar 0) (fCons (fC (.int (4))) fNil)))) (fThen (fFor
    (fRg1 (fCons (fOp divD (fVar 1) (fC (.int (2)))) fNil)) (gNm 5) (fThen (fSetPop 6 2 (fC (.int (0)))) (fThen (fSet 7 (fOwn 2 f_l_draw (fCons (fVar 0) (fCons (fLenO 2)
    fNil)))) (fThen (fIf (fAndT (fTr (fOp gtD (fVar 4) (fC (.int (0))))) (fTr (fOp gtD (fOwn 2 f_l_draw (fCons (fVar 0) (fCons (fC (.int (4))) fNil))) (fC (.int (0))))))
    (fSet 7 (fOp ixD (fLst (fCons (fC (.int (0))) (fCons (fOp subD (fLenO 2) (fC (.int (1)))) (fCons (fOp divD (fLenO 2) (fC (.int (2)))) fNil)))) (fOp subD (fVar 4) (fC
    (.int (1)))))) fSkip) (fThen (fSetPop 8 2 (fVar 7)) (fAsgM (fTup (fCons (fVar 8) (fCons (fVar 6) fNil))) (gmTp 2 (gmsCons (gmSub 3 (fVar 6)) (gmsCons (gmSub 3 (fVar
    8)) gmsNil))))))))) (fRet (fCall tupleD (fCons (fVar 3) fNil)))))
def f_l_ties : List D → M D := fnM 9 m_l_ties
theorem ok_l_ties (T : Txt K mg) : FnOk P w K mg base (L2.CX P w) 2 T.a_l_ties T.fd_l_ties ["_law_spool_here", "_law_many"] (spD K (clOf T) 2 f_l_ties) :=
  okD (O' := []) T.F_l_ties sc_l_ties (by decide) m_l_ties fun cdv A outer s H E hr => (mss_cons (ms_parFFE (i := 2) (j := 3) (l := 4) (fun _ => rfl) (fun _ => rfl) (fun _ => rfl) (by decide) (by decide) (by decide) (by decide) (fun _ => rfl) (fun _ => rfl)
    (fun _ => rfl) (by decide) (mf_listRg1 (fun _ => by rfl) T.z_list (fun _ => by rfl) T.z_range (me_v 1)) (mf_rep (me_lst (ma_cons me_int ma_nil)) (me_v 1)) (me_own
    (ok_l_draw T) (Nat.le_of_ble_eq_true rfl) (fun _ => by rfl) T.g_l_draw T.F_l_draw.kp T.b_l_draw (ma_cons (me_v 0) (ma_cons me_int ma_nil))) (fun _ => by rfl))
    (mss_cons (ms_for (fun _ => passes_of rfl) (mi_range1 (fun _ => by rfl) T.z_range (ma_cons (me_div (me_v 1) me_int) ma_nil)) (mg_n 5) (mss_cons (ms_setPop 6 2 me_int)
    (mss_cons (ms_setV 7 (me_own (ok_l_draw T) (Nat.le_of_ble_eq_true rfl) (fun _ => by rfl) T.g_l_draw T.F_l_draw.kp T.b_l_draw (ma_cons (me_v 0) (ma_cons (me_lenO 2
    (fun _ => by rfl) T.z_len) ma_nil)))) (mss_cons (ms_if (mw_pt (mw_and (mt_gt (me_v 4) me_int) (mw_and1 (mt_gt (me_own (ok_l_draw T) (Nat.le_of_ble_eq_true rfl) (fun _
    => by rfl) T.g_l_draw T.F_l_draw.kp T.b_l_draw (ma_cons (me_v 0) (ma_cons me_int ma_nil))) me_int)))) (mss_one (ms_setV 7 (me_ixA (me_lst (ma_cons me_int (ma_cons
    (me_sub (me_lenO 2 (fun _ => by rfl) T.z_len) me_int) (ma_cons (me_div (me_lenO 2 (fun _ => by rfl) T.z_len) me_int) ma_nil)))) (me_sub (me_v 4) me_int) (fun _ _ =>
    rfl)))) mss_nil) (mss_cons (ms_setPop 8 2 (me_v 7)) (mss_one (ms_asgM (me_tup (ma_cons (me_v 8) (ma_cons (me_v 6) ma_nil))) (mgm_tup (mgms_cons (mgm_sub 3 (me_v 6))
    (mgms_cons (mgm_sub 3 (me_v 8)) mgms_nil))) (fun _ => by rfl)))))))) (mss_freeze 3 (mss_one (ms_ret (me_tuple (fun _ => by rfl) T.z_tuple (ma_cons (me_v 3)
    ma_nil)))))))

def m_is_size : Dm.Env → M Out := (fRet (fOwn 3 f_is_within (fCons (fVar 0) (fCons (fC (.int (1))) (fCons (fC .non) fNil)))))
def f_is_size : List D → M D := fnM 1 m_is_size
theorem ok_is_size (T : Txt K mg) : FnOk P w K mg base (L2.CX P w) 3 T.a_is_size T.fd_is_size ["value"] (spD K (clOf T) 1 f_is_size) :=
  okD (O' := []) T.F_is_size sc_is_size (by decide) m_is_size fun cdv A outer s H E hr => (mss_one (ms_ret (me_own (ok_is_within T) (Nat.le_of_ble_eq_true rfl) (fun _ => by rfl) T.g_is_within T.F_is_within.kp T.b_is_within (ma_cons (me_v 0) (ma_cons me_int
    (ma_cons me_non ma_nil))))))

def m_are_ends_many : Dm.Env → M Out := (fRet (fAndV (fOwn 3 f_is_within (fCons (fVar 0) (fCons (fC (.int (2))) (fCons (fC (.int (10))) fNil)))) (fOp eqD (fOp modD (fVar 0) (fC (.int (2)))) (fC (.int (0))))))
def f_are_ends_many : List D → M D := fnM 1 m_are_ends_many
theorem ok_are_ends_many (T : Txt K mg) : FnOk P w K mg base (L2.CX P w) 3 T.a_are_ends_many T.fd_are_ends_many ["value"] (spD K (clOf T) 1 f_are_ends_many) :=
  okD (O' := []) T.F_are_ends_many sc_are_ends_many (by decide) m_are_ends_many fun cdv A outer s H E hr => (mss_one (ms_ret (me_and (me_own (ok_is_within T) (Nat.le_of_ble_eq_true rfl) (fun _ => by rfl) T.g_is_within T.F_is_within.kp T.b_is_within (ma_cons (me_v 0) (ma_cons
    me_int (ma_cons (me_globI (fun _ => by rfl) T.c_MOST_ENDS) ma_nil)))) (me_one (me_eq (me_mod (me_v 0) me_int) me_int)))))

def m_need_size : Dm.Env → M Out := (fIf (fNotT (fTr (fOwn 1 f_is_size (fCons (fVar 0) fNil)))) (fRaise "BadNumber" ["part"] (fCons (fC (.str "size")) fNil)) fSkip)
def f_need_size : List D → M D := fnM 1 m_need_size
theorem ok_need_size (T : Txt K mg) : FnOk P w K mg base (L2.CX P w) 4 T.a_need_size T.fd_need_size ["size"] (spD K (clOf T) 1 f_need_size) :=
  okD (O' := []) T.F_need_size sc_need_size (by decide) m_need_size fun cdv A outer s H E hr => (mss_one (ms_if (mt_not (mt_val (me_own (ok_is_size T) (Nat.le_of_ble_eq_true rfl) (fun _ => by rfl) T.g_is_size T.F_is_size.kp T.b_is_size (ma_cons (me_v 0) ma_nil))))
    (mss_one (ms_raise (nm := "BadNumber") (names := ["part"]) rfl ⟨T.gN, T.eN⟩ T.iN T.tN (ok_eN T) (Nat.le_of_ble_eq_true rfl) T.bN (fun _ => by rfl) (ma_cons me_str
    ma_nil) (fun _ => takes_of rfl rfl rfl rfl))) mss_nil))

def m_is_ties : Dm.Env → M Out := (fThen (fIf (fOrT (fNotT (fTr (fOwn 1 f_is_numbers (fCons (fVar 0) fNil)))) (fNotT (fTr (fOwn 1 f_are_ends_many (fCons (fCall lenD (fCons (fVar 0) fNil)) fNil))))) (fRet
    (fC (.bl false))) fSkip) (fThen (fIf (fOrT (fTr (fOp ltA (fCall minB (fCons (fVar 0) fNil)) (fC (.int (0))))) (fTr (fOp geD (fCall maxD (fCons (fVar 0) fNil)) (fCall
    lenD (fCons (fVar 0) fNil))))) (fRet (fC (.bl false))) fSkip) (fRet (fCall allD (fCons (fL (fLc [1, 2] (fEnum (fCons (fVar 0) fNil)) (gTp 2 (gsCons (gNm 1) (gsCons
    (gNm 2) gsNil))) fYes (fAndV (fOp eqD (fOp ixD (fVar 0) (fVar 2)) (fVar 1)) (fOp neD (fVar 2) (fVar 1))))) fNil)))))
def f_is_ties : List D → M D := fnM 3 m_is_ties
theorem ok_is_ties (T : Txt K mg) : FnOk P w K mg base (L2.CX P w) 4 T.a_is_ties T.fd_is_ties ["value"] (spD K (clOf T) 1 f_is_ties) :=
  okD (O' := []) T.F_is_ties sc_is_ties (by decide) m_is_ties fun cdv A outer s H E hr => (mss_cons (ms_if (mw_pt (mw_or (mt_not (mt_val (me_own (ok_is_numbers T) (Nat.le_of_ble_eq_true rfl) (fun _ => by rfl) T.g_is_numbers T.F_is_numbers.kp T.b_is_numbers
    (ma_cons (me_v 0) ma_nil)))) (mw_or1 (mt_not (mt_val (me_own (ok_are_ends_many T) (Nat.le_of_ble_eq_true rfl) (fun _ => by rfl) T.g_are_ends_many T.F_are_ends_many.kp
    T.b_are_ends_many (ma_cons (me_len (fun _ => by rfl) T.z_len (ma_cons (me_v 0) ma_nil)) ma_nil))))))) (mss_one (ms_ret me_bl)) mss_nil) (mss_cons (ms_if (mw_pt (mw_or
    (mt_ltA (me_minB (fun _ => by rfl) T.z_min (ma_cons (me_v 0) ma_nil)) me_int) (mw_or1 (mt_ge (me_max (fun _ => by rfl) T.z_max (ma_cons (me_v 0) ma_nil)) (me_len (fun
    _ => by rfl) T.z_len (ma_cons (me_v 0) ma_nil)))))) (mss_one (ms_ret me_bl)) mss_nil) (mss_one (ms_ret (me_all (fun _ => by rfl) T.z_all (ma_cons (me_ofF (mf_lc (own
    := [("end", 1), ("other", 2)]) (mi_enum (fun _ => by rfl) T.z_enumerate (ma_cons (me_v 0) ma_nil)) (fun _ => blkOk_by (N := ["value", "end", "other"]) (sc := defScope
    s_is_ties) (own := [("end", 1), ("other", 2)]) (by decide +kernel)) (mg_tup (mgs_cons (mg_n 1) (mgs_cons (mg_n 2) mgs_nil))) mts_nil (me_and (me_eq (me_ixA (me_v 0)
    (me_v 2) (fun _ _ => rfl)) (me_v 1)) (me_one (me_ne (me_v 2) (me_v 1)))))) ma_nil))))))

def m_need_ties : Dm.Env → M Out := (fThen (fIf (fNotT (fTr (fOwn 1 f_is_ties (fCons (fVar 0) fNil)))) (fRaise "BadTies" ["part"] (fCons (fVar 1) fNil)) fSkip) (fRet (fCall tupleD (fCons (fVar 0) fNil))))
def f_need_ties : List D → M D := fnM 2 m_need_ties
theorem ok_need_ties (T : Txt K mg) : FnOk P w K mg base (L2.CX P w) 5 T.a_need_ties T.fd_need_ties ["value", "part"] (spD K (clOf T) 2 f_need_ties) :=
  okD (O' := []) T.F_need_ties sc_need_ties (by decide) m_need_ties fun cdv A outer s H E hr => (mss_cons (ms_if (mt_not (mt_val (me_own (ok_is_ties T) (Nat.le_of_ble_eq_true rfl) (fun _ => by rfl) T.g_is_ties T.F_is_ties.kp T.b_is_ties (ma_cons (me_v 0) ma_nil))))
    (mss_one (ms_raise (nm := "BadTies") (names := ["part"]) rfl ⟨T.gB, T.eB⟩ T.iB T.tB (ok_eB T) (Nat.le_of_ble_eq_true rfl) T.bB (fun _ => by rfl) (ma_cons (me_v 1)
    ma_nil) (fun _ => takes_of rfl rfl rfl rfl))) mss_nil) (mss_one (ms_ret (me_tuple (fun _ => by rfl) T.z_tuple (ma_cons (me_v 0) ma_nil)))))

def m_tie_colours : Dm.Env → M Out := (fRet (fOwn 1 f_end_colours (fCons (fOwn 2 f_need_ties (fCons (fVar 0) (fCons (fC (.str "ties")) fNil))) fNil)))
def f_tie_colours : List D → M D := fnM 1 m_tie_colours
theorem ok_tie_colours (T : Txt K mg) : FnOk P w K mg base (L2.CX P w) 6 T.a_tie_colours T.fd_tie_colours ["ties"] (spD K (clOf T) 1 f_tie_colours) :=
  okD (O' := []) T.F_tie_colours sc_tie_colours (by decide) m_tie_colours fun cdv A outer s H E hr => (mss_one (ms_ret (me_own (ok_end_colours T) (Nat.le_of_ble_eq_true rfl) (fun _ => by rfl) T.g_end_colours T.F_end_colours.kp T.b_end_colours (ma_cons (me_own
    (ok_need_ties T) (Nat.le_of_ble_eq_true rfl) (fun _ => by rfl) T.g_need_ties T.F_need_ties.kp T.b_need_ties (ma_cons (me_v 0) (ma_cons me_str ma_nil))) ma_nil))))

def m_longest_rise : Dm.Env → M Out := (fRet (fOwn 1 f_rise_of (fCons (fOwn 2 f_need_ties (fCons (fVar 0) (fCons (fC (.str "ties")) fNil))) fNil)))
def f_longest_rise : List D → M D := fnM 1 m_longest_rise
theorem ok_longest_rise (T : Txt K mg) : FnOk P w K mg base (L2.CX P w) 6 T.a_longest_rise T.fd_longest_rise ["ties"] (spD K (clOf T) 1 f_longest_rise) :=
  okD (O' := []) T.F_longest_rise sc_longest_rise (by decide) m_longest_rise fun cdv A outer s H E hr => (mss_one (ms_ret (me_own (ok_rise_of T) (Nat.le_of_ble_eq_true rfl) (fun _ => by rfl) T.g_rise_of T.F_rise_of.kp T.b_rise_of (ma_cons (me_own (ok_need_ties T)
    (Nat.le_of_ble_eq_true rfl) (fun _ => by rfl) T.g_need_ties T.F_need_ties.kp T.b_need_ties (ma_cons (me_v 0) (ma_cons me_str ma_nil))) ma_nil))))

def m_ties_kept : Dm.Env → M Out := (fThen (fSet 2 (fOwn 2 f_need_ties (fCons (fVar 0) (fCons (fC (.str "ties")) fNil)))) (fThen (fDrop (fOwn 1 f_need_size (fCons (fVar 1) fNil))) (fRet (fOwn 2
    f_are_kept_at (fCons (fVar 2) (fCons (fVar 1) fNil))))))
def f_ties_kept : List D → M D := fnM 3 m_ties_kept
theorem ok_ties_kept (T : Txt K mg) : FnOk P w K mg base (L2.CX P w) 6 T.a_ties_kept T.fd_ties_kept ["ties", "size"] (spD K (clOf T) 2 f_ties_kept) :=
  okD (O' := []) T.F_ties_kept sc_ties_kept (by decide) m_ties_kept fun cdv A outer s H E hr => (mss_cons (ms_setV 2 (me_own (ok_need_ties T) (Nat.le_of_ble_eq_true rfl) (fun _ => by rfl) T.g_need_ties T.F_need_ties.kp T.b_need_ties (ma_cons (me_v 0) (ma_cons me_str
    ma_nil)))) (mss_cons (ms_expr (me_own (ok_need_size T) (Nat.le_of_ble_eq_true rfl) (fun _ => by rfl) T.g_need_size T.F_need_size.kp T.b_need_size (ma_cons (me_v 1)
    ma_nil))) (mss_one (ms_ret (me_own (ok_are_kept_at T) (Nat.le_of_ble_eq_true rfl) (fun _ => by rfl) T.g_are_kept_at T.F_are_kept_at.kp T.b_are_kept_at (ma_cons (me_v
    2) (ma_cons (me_v 1) ma_nil)))))))

def m_l_told_right : Dm.Env → M Out := (fThen (fPar 2 3 (fCons (fOwn 1 f_l_levels (fCons (fVar 1) fNil)) (fCons (fOwn 1 f_l_longest (fCons (fVar 1) fNil)) fNil))) (fThen (fSet 4 (fOwnK 1 f_tie_colours (permOf
    0 1 [0]) fNil (fCons (fCall listA (fCons (fVar 1) fNil)) fNil))) (fThen (fIf (fOrT (fTr (fOp neD (fVar 4) (fVar 2))) (fOrT (fTr (fOp neD (fCall reprG (fCons (fVar 4)
    fNil)) (fCall reprG (fCons (fVar 2) fNil)))) (fOrT (fTr (fOp neD (fOp addD (fCall maxD (fCons (fVar 2) fNil)) (fC (.int (1)))) (fVar 3))) (fTr (fOp neD (fOwn 1
    f_tie_colours (fCons (fVar 1) fNil)) (fVar 4)))))) (fRet (fC (.bl false))) fSkip) (fThen (fSet 5 (fOwnK 1 f_longest_rise (permOf 0 1 [0]) fNil (fCons (fCall listA
    (fCons (fVar 1) fNil)) fNil))) (fThen (fIf (fOrT (fNotT (fTr (fOwn 3 f_l_rise_right (fCons (fVar 1) (fCons (fVar 5) (fCons (fVar 3) fNil)))))) (fOrT (fTr (fOp neD
    (fOwn 1 f_longest_rise (fCons (fVar 1) fNil)) (fVar 5))) (fNotT (fTr (fOwn 3 f_l_rise_right (fCons (fVar 1) (fCons (fCall tupleD (fCons (fL (fLc [10] (fSeq (fVar 5))
    (gNm 10) fYes (fOp ixD (fVar 1) (fVar 10)))) fNil)) (fCons (fVar 3) fNil)))))))) (fRet (fC (.bl false))) fSkip) (fThen (fFor (fRg1 (fCons (fVar 3) fNil)) (gNm 6)
    (fThen (fSetF 7 (fLc [10, 11] (fEnum (fCons (fVar 4) fNil)) (gTp 2 (gsCons (gNm 10) (gsCons (gNm 11) gsNil))) (fTr (fOp eqD (fVar 11) (fVar 6))) (fVar 10))) (fIf (fTr
    (fOp neD (fL (fLc [10] (fSeq (fVar 7)) (gNm 10) fYes (fOp ixD (fVar 1) (fVar 10)))) (fUn revD (fVar 7)))) (fRet (fC (.bl false))) fSkip))) (fThen (fFor (fSeq (fOp
    addD (fL (fRgL2 (fC (.int (1))) (fOp addD (fOp divD (fCall lenD (fCons (fVar 1) fNil)) (fC (.int (2)))) (fC (.int (2)))))) (fLst (fCons (fOp powD (fC (.int (10))) (fC
    (.int (30)))) (fCons (fOp addD (fC (.int (9))) (fOwn 2 f_l_draw (fCons (fVar 0) (fCons (fOp powD (fC (.int (10))) (fC (.int (9)))) fNil)))) fNil))))) (gNm 8) (fThen
    (fSet 9 (fOwnK 2 f_ties_kept (permOf 0 2 [1, 0]) fNil (fCons (fVar 8) (fCons (fCall listA (fCons (fVar 1) fNil)) fNil)))) (fIf (fOrT (fNotT (fTr (fCall isiD (fCons
    (fVar 9) (fCons (fC (.ty "bool")) fNil))))) (fTr (fOp neD (fVar 9) (fOp leD (fVar 3) (fVar 8))))) (fRet (fC (.bl false))) fSkip))) (fRet (fOwn 2 f_l_takes (fCons
    (fVar 1) (fCons (fVar 4) fNil)))))))))))
def f_l_told_right : List D → M D := fnM 12 m_l_told_right
theorem ok_l_told_right (T : Txt K mg) : FnG P w K mg base 7 T.a_l_told_right T.fd_l_told_right ["_law_spool_here", "_law_ties_here"] (spD K (clOf T) 2 f_l_told_right) :=
  okG (O' := []) T.F_l_told_right sc_l_told_right (by decide) m_l_told_right fun cdv A outer s H E hr hgd => (mss_cons (ms_par (i := 2) (j := 3) (fun _ => rfl) (fun _ => rfl) (by decide) (fun _ => rfl) (fun _ => rfl) (by decide) (by decide) (ma_cons (me_own (ok_l_levels T)
    (Nat.le_of_ble_eq_true rfl) (fun _ => by rfl) T.g_l_levels T.F_l_levels.kp T.b_l_levels (ma_cons (me_v 1) ma_nil)) (ma_cons (me_own (ok_l_longest T)
    (Nat.le_of_ble_eq_true rfl) (fun _ => by rfl) T.g_l_longest T.F_l_longest.kp T.b_l_longest (ma_cons (me_v 1) ma_nil)) ma_nil)) (fun _ => by rfl)) (mss_cons (ms_setV 4
    (me_ownK0 (ok_tie_colours T) (Nat.le_of_ble_eq_true rfl) (fun _ => by rfl) T.g_tie_colours T.F_tie_colours.kp T.k_tie_colours_ties (rep_perm 0 1 [0]) (mk_cons
    (me_listA (fun _ => by rfl) T.z_list (ma_cons (me_v 1) ma_nil)) mk_nil))) (mss_cons (ms_if (mw_pt (mw_or (mt_ne (me_v 4) (me_v 2)) (mw_or (mt_ne (me_reprG (fun _ =>
    hgd) (fun _ => by rfl) T.z_repr (ma_cons (me_v 4) ma_nil)) (me_reprG (fun _ => hgd) (fun _ => by rfl) T.z_repr (ma_cons (me_v 2) ma_nil))) (mw_or (mt_ne (me_add
    (me_max (fun _ => by rfl) T.z_max (ma_cons (me_v 2) ma_nil)) me_int) (me_v 3)) (mw_or1 (mt_ne (me_own (ok_tie_colours T) (Nat.le_of_ble_eq_true rfl) (fun _ => by rfl)
    T.g_tie_colours T.F_tie_colours.kp T.b_tie_colours (ma_cons (me_v 1) ma_nil)) (me_v 4))))))) (mss_one (ms_ret me_bl)) mss_nil) (mss_cons (ms_setV 5 (me_ownK0
    (ok_longest_rise T) (Nat.le_of_ble_eq_true rfl) (fun _ => by rfl) T.g_longest_rise T.F_longest_rise.kp T.k_longest_rise_ties (rep_perm 0 1 [0]) (mk_cons (me_listA
    (fun _ => by rfl) T.z_list (ma_cons (me_v 1) ma_nil)) mk_nil))) (mss_cons (ms_if (mw_pt (mw_or (mt_not (mt_val (me_own (ok_l_rise_right T) (Nat.le_of_ble_eq_true rfl)
    (fun _ => by rfl) T.g_l_rise_right T.F_l_rise_right.kp T.b_l_rise_right (ma_cons (me_v 1) (ma_cons (me_v 5) (ma_cons (me_v 3) ma_nil)))))) (mw_or (mt_ne (me_own
    (ok_longest_rise T) (Nat.le_of_ble_eq_true rfl) (fun _ => by rfl) T.g_longest_rise T.F_longest_rise.kp T.b_longest_rise (ma_cons (me_v 1) ma_nil)) (me_v 5)) (mw_or1
    (mt_not (mt_val (me_own (ok_l_rise_right T) (Nat.le_of_ble_eq_true rfl) (fun _ => by rfl) T.g_l_rise_right T.F_l_rise_right.kp T.b_l_rise_right (ma_cons (me_v 1)
    (ma_cons (me_tuple (fun _ => by rfl) T.z_tuple (ma_cons (me_ofF (mf_lc (own := [("_law_end", 10)]) (mi_seq (me_v 5)) (fun _ => blkOk_by (N := ["_law_spool_here",
    "_law_ties_here", "_law_due", "_law_longest_here", "_law_told", "_law_rise", "_law_colour", "_law_ends", "_law_size", "_law_kept", "_law_end", "_law_its"]) (sc :=
    defScope s_l_told_right) (own := [("_law_end", 10)]) (by decide +kernel)) (mg_n 10) mts_nil (me_ixA (me_v 1) (me_v 10) (fun _ _ => rfl)))) ma_nil)) (ma_cons (me_v 3)
    ma_nil)))))))))) (mss_one (ms_ret me_bl)) mss_nil) (mss_cons (ms_for (fun _ => passes_of rfl) (mi_range1 (fun _ => by rfl) T.z_range (ma_cons (me_v 3) ma_nil)) (mg_n
    6) (mss_cons (ms_setLc (i := 7) (fun _ => rfl) (fun _ => rfl) (fun _ => sw_true rfl rfl rfl (by decide +kernel)) (own := [("_law_end", 10), ("_law_its", 11)])
    (mi_enum (fun _ => by rfl) T.z_enumerate (ma_cons (me_v 4) ma_nil)) (fun _ => blkOk_by (N := ["_law_spool_here", "_law_ties_here", "_law_due", "_law_longest_here",
    "_law_told", "_law_rise", "_law_colour", "_law_ends", "_law_size", "_law_kept", "_law_end", "_law_its"]) (sc := defScope s_l_told_right) (own := [("_law_end", 10),
    ("_law_its", 11)]) (by decide +kernel)) (mg_tup (mgs_cons (mg_n 10) (mgs_cons (mg_n 11) mgs_nil))) (mts_one (mt_eq (me_v 11) (me_v 6))) (me_v 10)) (mss_freeze 7
    (mss_one (ms_if (mt_ne (me_ofF (mf_lc (own := [("_law_end", 10)]) (mi_seq (me_v 7)) (fun _ => blkOk_by (N := ["_law_spool_here", "_law_ties_here", "_law_due",
    "_law_longest_here", "_law_told", "_law_rise", "_law_colour", "_law_ends", "_law_size", "_law_kept", "_law_end", "_law_its"]) (sc := defScope s_l_told_right) (own :=
    [("_law_end", 10)]) (by decide +kernel)) (mg_n 10) mts_nil (me_ixA (me_v 1) (me_v 10) (fun _ _ => rfl)))) (me_revL (me_v 7))) (mss_one (ms_ret me_bl)) mss_nil)))))
    (mss_cons (ms_for (fun _ => passes_of rfl) (mi_seq (me_add (me_ofF (mf_listRg2 (fun _ => by rfl) T.z_list (fun _ => by rfl) T.z_range me_int (me_add (me_div (me_len
    (fun _ => by rfl) T.z_len (ma_cons (me_v 1) ma_nil)) me_int) me_int))) (me_lst (ma_cons (me_pow me_int me_int) (ma_cons (me_add me_int (me_own (ok_l_draw T)
    (Nat.le_of_ble_eq_true rfl) (fun _ => by rfl) T.g_l_draw T.F_l_draw.kp T.b_l_draw (ma_cons (me_v 0) (ma_cons (me_pow me_int me_int) ma_nil)))) ma_nil))))) (mg_n 8)
    (mss_cons (ms_setV 9 (me_ownK0 (ok_ties_kept T) (Nat.le_of_ble_eq_true rfl) (fun _ => by rfl) T.g_ties_kept T.F_ties_kept.kp T.k_ties_kept_size_ties (rep_perm 0 2 [1,
    0]) (mk_cons (me_v 8) (mk_cons (me_listA (fun _ => by rfl) T.z_list (ma_cons (me_v 1) ma_nil)) mk_nil)))) (mss_one (ms_if (mw_pt (mw_or (mt_not (mt_val (me_isi (fun _
    => by rfl) T.z_isinstance (ma_cons (me_v 9) (ma_cons (me_ty (fun _ => by rfl) T.z_bool (by decide +kernel)) ma_nil))))) (mw_or1 (mt_ne (me_v 9) (me_le (me_v 3) (me_v
    8)))))) (mss_one (ms_ret me_bl)) mss_nil)))) (mss_one (ms_ret (me_own (ok_l_takes T) (Nat.le_of_ble_eq_true rfl) (fun _ => by rfl) T.g_l_takes T.F_l_takes.kp
    T.b_l_takes (ma_cons (me_v 1) (ma_cons (me_v 4) ma_nil))))))))))))

def m_l_latest_right : Dm.Env → M Out := (fThen (fSet 2 (fOwn 1 f_tie_colours (fCons (fVar 0) fNil))) (fThen (fPar 3 4 (fCons (fL (fLc [7] (fSeq (fVar 1)) (gNm 7) (fTr (fOwn 2 f_l_takes (fCons (fVar 7) (fCons
    (fVar 2) fNil)))) (fVar 7))) (fCons (fC (.int (1))) fNil))) (fThen (fFor (fRg1 (fCons (fOp addD (fC (.int (1))) (fCall maxD (fCons (fVar 2) fNil))) fNil)) (gNm 5)
    (fFor (fRg3 (fCons (fC (.int (1))) (fCons (fCall lenD (fCons (fL (fLc [8] (fSeq (fVar 2)) (gNm 8) (fTr (fOp eqD (fVar 8) (fVar 5))) (fVar 8))) fNil)) (fCons (fC (.int
    (2))) fNil)))) (gNm 6) (fSet 4 (fOp mulD (fVar 4) (fVar 6))))) (fRet (fAndV (fOp eqD (fOp ixD (fVar 3) (fUn negD (fC (.int (1))))) (fVar 0)) (fOp eqD (fCall lenD
    (fCons (fVar 3) fNil)) (fVar 4)))))))
def f_l_latest_right : List D → M D := fnM 9 m_l_latest_right
theorem ok_l_latest_right (T : Txt K mg) : FnOk P w K mg base (L2.CX P w) 7 T.a_l_latest_right T.fd_l_latest_right ["_law_ties_here", "_law_every"] (spD K (clOf T) 2 f_l_latest_right) :=
  okD (O' := []) T.F_l_latest_right sc_l_latest_right (by decide) m_l_latest_right fun cdv A outer s H E hr => (mss_cons (ms_setV 2 (me_own (ok_tie_colours T) (Nat.le_of_ble_eq_true rfl) (fun _ => by rfl) T.g_tie_colours T.F_tie_colours.kp T.b_tie_colours (ma_cons (me_v 0)
    ma_nil))) (mss_cons (ms_par (i := 3) (j := 4) (fun _ => rfl) (fun _ => rfl) (by decide) (fun _ => rfl) (fun _ => rfl) (by decide) (by decide) (ma_cons (me_ofF (mf_lc
    (own := [("_law_other", 7)]) (mi_seq (me_v 1)) (fun _ => blkOk_by (N := ["_law_ties_here", "_law_every", "_law_told", "_law_some", "_law_due", "_law_colour",
    "_law_odd", "_law_other", "_law_end"]) (sc := defScope s_l_latest_right) (own := [("_law_other", 7)]) (by decide +kernel)) (mg_n 7) (mts_one (mt_val (me_own
    (ok_l_takes T) (Nat.le_of_ble_eq_true rfl) (fun _ => by rfl) T.g_l_takes T.F_l_takes.kp T.b_l_takes (ma_cons (me_v 7) (ma_cons (me_v 2) ma_nil))))) (me_v 7)))
    (ma_cons me_int ma_nil)) (fun _ => by rfl)) (mss_cons (ms_for (fun _ => passes_of rfl) (mi_range1 (fun _ => by rfl) T.z_range (ma_cons (me_add me_int (me_max (fun _
    => by rfl) T.z_max (ma_cons (me_v 2) ma_nil))) ma_nil)) (mg_n 5) (mss_one (ms_for (fun _ => passes_of rfl) (mi_range3 (fun _ => by rfl) T.z_range (ma_cons me_int
    (ma_cons (me_len (fun _ => by rfl) T.z_len (ma_cons (me_ofF (mf_lc (own := [("_law_end", 8)]) (mi_seq (me_v 2)) (fun _ => blkOk_by (N := ["_law_ties_here",
    "_law_every", "_law_told", "_law_some", "_law_due", "_law_colour", "_law_odd", "_law_other", "_law_end"]) (sc := defScope s_l_latest_right) (own := [("_law_end", 8)])
    (by decide +kernel)) (mg_n 8) (mts_one (mt_eq (me_v 8) (me_v 5))) (me_v 8))) ma_nil)) (ma_cons me_int ma_nil)))) (mg_n 6) (mss_one (ms_setV 4 (me_mul (me_v 4) (me_v
    6))))))) (mss_one (ms_ret (me_and (me_eq (me_ixA (me_v 3) (me_neg me_int) (fun _ _ => rfl)) (me_v 0)) (me_one (me_eq (me_len (fun _ => by rfl) T.z_len (ma_cons (me_v
    3) ma_nil)) (me_v 4)))))))))

def hdL : Str → List (Str × D) → Option D := fun nm fs =>
  if nm = "BadTies" then (match fs with | [(n_part, p_part)] => if n_part = "part" then some (.tup [.str "ties", p_part]) else none | _ => none)
  else if nm = "BadNumber" then (match fs with | [(n_part, p_part)] => if n_part = "part" then some (.tup [.str "number", p_part]) else none | _ => none)
  else none
def hrL {K : PySem.W.Frag} {mg : Str → Option Value} (T : Txt K mg) : Value → List (Str × V) → Hp → VK → Prop := fun cls fvs H Q =>
  (cls = .ref T.cB ∧ ∃ v_part, fvs = [(("part" : Str), v_part)] ∧ ∀ H2 p o, Same H H2 → H2 p = none → o.dict = none → Q (.ref p) (upd H2 p (.frz o (.tup [.str "ties", v_part])))) ∨
  (cls = .ref T.cN ∧ ∃ v_part, fvs = [(("part" : Str), v_part)] ∧ ∀ H2 p o, Same H H2 → H2 p = none → o.dict = none → Q (.ref p) (upd H2 p (.frz o (.tup [.str "number", v_part]))))
theorem hd_ok (T : Txt K mg) : HdOk K (clOf T) (hrL T) hdL := by
  intro F os ρ σ H s Q nm fs fvs d st rf e q
  unfold hdL at e
  split at e
  · next h =>
    subst h
    split at e
    · split at e
      · next n_part p_part hn =>
        subst hn
        have e := (Option.some.inj e).symm
        subst e
        obtain ⟨v_part, r_0, rfl, q_part, rE⟩ := rf
        have rE : r_0 = [] := rE
        subst rE
        exact .inl ⟨rfl, v_part, rfl, fun H2 a o sm na od => new_tup (st.step (Mw.of sm) (st.bag.mv sm)) (l := [.str "ties", p_part]) (vs := [.str "ties", v_part]) ⟨_, _, rfl, rfl, ⟨_, _, rfl, Rep.mono (hid_mv st.qW (Mw.of sm)) _ q_part, rfl⟩⟩ (fun v H3 m st2 r => q v H3 ((Mw.of sm).trans m) st2 r) a o na od⟩
      · cases e
    · cases e
  split at e
  · next h =>
    subst h
    split at e
    · split at e
      · next n_part p_part hn =>
        subst hn
        have e := (Option.some.inj e).symm
        subst e
        obtain ⟨v_part, r_0, rfl, q_part, rE⟩ := rf
        have rE : r_0 = [] := rE
        subst rE
        exact .inr (⟨rfl, v_part, rfl, fun H2 a o sm na od => new_tup (st.step (Mw.of sm) (st.bag.mv sm)) (l := [.str "number", p_part]) (vs := [.str "number", v_part]) ⟨_, _, rfl, rfl, ⟨_, _, rfl, Rep.mono (hid_mv st.qW (Mw.of sm)) _ q_part, rfl⟩⟩ (fun v H3 m st2 r => q v H3 ((Mw.of sm).trans m) st2 r) a o na od⟩)
      · cases e
    · cases e
  cases e
theorem pss_never {X : Cx} {b : List Stmt} : PSs X b (fun _ _ _ => False) := ⟨fun _ _ _ _ _ _ h => h.elim⟩
theorem pe_never {X : Cx} {e : Expr} : PE X e (fun _ _ _ => False) := ⟨fun _ _ _ _ _ _ h => h.elim⟩
abbrev hX (X : Cx) (g : Addr) (cdg : Value) (s : Shared) (H : Hp) : Cx := (cxOf C8.CX0 X.prog X.w X.K X.mg X.base ["_law_ask", "_law_caught", "error"] "_law_heard" (defScope s_l_heard) g cdg X.A X.stack s H C8.E0).nox
theorem kitAny_hit {K : PySem.W.Frag} {t c : Value} {r : List Value} (h : PySem.W.kitOne K t c = some true) : PySem.W.kitAny K t (c :: r) = some true := by
  unfold PySem.W.kitAny
  rw [h]
theorem kitAny_miss {K : PySem.W.Frag} {t c : Value} {r : List Value} (h : PySem.W.kitOne K t c = some false) : PySem.W.kitAny K t (c :: r) = PySem.W.kitAny K t r := by
  rw [PySem.W.kitAny, h]
theorem small_n {n : Nat} (h : n ≤ 100) : n ≤ sizeLine := by
  rw [sizeLine_eq]
  omega
theorem heard_B {X : Cx} (T : Txt X.K X.mg) (g : Addr) (cdg : Value) (s : Shared) (H : Hp) : ∃ u : Addr → Option Addr → TS,
    (∀ (a : Addr) (oe : Obj) (d : Option Addr) (pn : List (Addr × Obj)), Zc (.ref T.cB) d oe → (∃ vs, oe.data = .fields vs) → PSs ((hX X g cdg s H).tr ((a, oe) :: pn) (hX X g cdg s H).xe) ((defBody s_l_heard).drop 2) (u a d)) ∧
    ∀ (a dd : Addr) (v_part : V) (f : Option V) (H1 : Hp) (Q : VK) (nx : L2.St → Hp → Prop), H1 dd = some (.xd [(("part" : Str), v_part)]) → (∀ H2 p o, Same H1 H2 → H2 p = none → o.dict = none → Q (.ref p) (upd H2 p (.frz o (.tup [.str "ties", v_part])))) →
      u a (some dd) { nx := nx, rt := Q } [f, some (.ref a), none] H1 := by
  refine ⟨_, fun a oe d pn hz hf => (pss_cons (ps_if (pt_val (pe_callB (call_isE3 hz hf) (by rfl) T.z_isinstance (by decide +kernel) (pa_cons (pv 1) (pa_cons (pe_glob (v := .ref T.cB) (by rfl) T.gB rfl) pa_nil)))) (pss_one (ps_ret (pe_tupN (pa_cons pe_str (pa_cons (pe_xfT T.eB.xf T.nB_part hz hf (pv 1)) pa_nil))))) pss_nil) pss_never), ?_⟩
  intro a dd v_part f H1 Q nx hx want
  have sm := Same.refl H1
  refine ⟨_, rfl, T.cB, T.cB, dd, _, true, rfl, rfl, rfl, sm _ _ hx, T.eB, kit_self _ _, true, rfl, iteT ?_⟩
  refine ⟨_, rfl, rfl, rfl, dd, _, v_part, rfl, sm _ _ hx, rfl, ?_⟩
  refine ⟨small_n (by simp), fun p2 o2 np2 od2 => ?_⟩
  exact want _ p2 o2 sm np2 od2
theorem heard_N {X : Cx} (T : Txt X.K X.mg) (g : Addr) (cdg : Value) (s : Shared) (H : Hp) : ∃ u : Addr → Option Addr → TS,
    (∀ (a : Addr) (oe : Obj) (d : Option Addr) (pn : List (Addr × Obj)), Zc (.ref T.cN) d oe → (∃ vs, oe.data = .fields vs) → PSs ((hX X g cdg s H).tr ((a, oe) :: pn) (hX X g cdg s H).xe) ((defBody s_l_heard).drop 2) (u a d)) ∧
    ∀ (a dd : Addr) (v_part : V) (f : Option V) (H1 : Hp) (Q : VK) (nx : L2.St → Hp → Prop), H1 dd = some (.xd [(("part" : Str), v_part)]) → (∀ H2 p o, Same H1 H2 → H2 p = none → o.dict = none → Q (.ref p) (upd H2 p (.frz o (.tup [.str "number", v_part])))) →
      u a (some dd) { nx := nx, rt := Q } [f, some (.ref a), none] H1 := by
  refine ⟨_, fun a oe d pn hz hf => (pss_cons (ps_if (pt_val (pe_callB (call_isE3 hz hf) (by rfl) T.z_isinstance (by decide +kernel) (pa_cons (pv 1) (pa_cons (pe_glob (v := .ref T.cB) (by rfl) T.gB rfl) pa_nil)))) pss_never pss_nil) (pss_cons (ps_if (pt_val (pe_callB (call_isE3 hz hf) (by rfl) T.z_isinstance (by decide +kernel) (pa_cons (pv 1) (pa_cons (pe_glob (v := .ref T.cN) (by rfl) T.gN rfl) pa_nil)))) (pss_one (ps_ret (pe_tupN (pa_cons pe_str (pa_cons (pe_xfT T.eN.xf T.nN_part hz hf (pv 1)) pa_nil))))) pss_nil) pss_never)), ?_⟩
  intro a dd v_part f H1 Q nx hx want
  have sm := Same.refl H1
  refine ⟨_, rfl, T.cB, T.cN, dd, _, false, rfl, rfl, rfl, sm _ _ hx, T.eN, T.noNB, false, rfl, iteF ?_⟩
  refine ⟨_, rfl, T.cN, T.cN, dd, _, true, rfl, rfl, rfl, sm _ _ hx, T.eN, kit_self _ _, true, rfl, iteT ?_⟩
  refine ⟨_, rfl, rfl, rfl, dd, _, v_part, rfl, sm _ _ hx, rfl, ?_⟩
  refine ⟨small_n (by simp), fun p2 o2 np2 od2 => ?_⟩
  exact want _ p2 o2 sm np2 od2
theorem heard_No {X : Cx} (T : Txt X.K X.mg) (g : Addr) (cdg : Value) (s : Shared) (H : Hp) : ∃ u : TS, PSs (hX X g cdg s H) ((defBody s_l_heard).drop 2) u ∧
    ∀ (f : Option V) (H1 : Hp) (Q : VK) (nx : L2.St → Hp → Prop), (∀ H2, Same H1 H2 → Q .non H2) → u { nx := nx, rt := Q } [f, some .non, none] H1 := by
  refine ⟨_, (pss_cons (ps_if (pt_val (pe_callB (call_isN1) (by rfl) T.z_isinstance (by decide +kernel) (pa_cons (pv 1) (pa_cons (pe_glob (v := .ref T.cB) (by rfl) T.gB rfl) pa_nil)))) pss_never pss_nil) (pss_cons (ps_if (pt_val (pe_callB (call_isN1) (by rfl) T.z_isinstance (by decide +kernel) (pa_cons (pv 1) (pa_cons (pe_glob (v := .ref T.cN) (by rfl) T.gN rfl) pa_nil)))) pss_never pss_nil) (pss_one (ps_ret (pe_ifExp (pt_cmpR op_isN (pv 1) pe_non (nomark _)) pe_non pe_never))))), ?_⟩
  intro f H1 Q nx want
  have sm := Same.refl H1
  refine ⟨_, rfl, T.cB, false, rfl, T.nnB, false, rfl, iteF ?_⟩
  refine ⟨_, rfl, T.cN, false, rfl, T.nnN, false, rfl, iteF ?_⟩
  refine ⟨_, rfl, rfl, true, ?_, iteT ?_⟩
  · rw [decide_eq_true (rfl : V.non = V.non)]
  exact want _ sm
theorem no_ne {K : PySem.W.Frag} {a b : Addr} (h : PySem.W.kitOne K (.ref a) (.ref b) = some false) : a ≠ b := fun z => by
  subst z
  rw [kit_self] at h
  cases h
theorem heard_gives {X : Cx} {K0 : PySem.W.Frag} {mg0 : Str → Option Value} (hK : X.K = K0) (hm : X.mg = mg0) (T : Txt K0 mg0) {g : Addr} {cdg : Value} {q : Str} : Gives2 X ["_law_ask", "_law_caught", "error"] "_law_heard" (defScope s_l_heard) g cdg (defBody s_l_heard) "_law_ask" q (TTd (hrL T)) := by
  subst hK hm
  intro f c' s H Q tl act hc h
  obtain ⟨uB, rB, sB⟩ := heard_B T g cdg s H
  obtain ⟨uN, rN, sN⟩ := heard_N T g cdg s H
  obtain ⟨uNo, rNo, sNo⟩ := heard_No T g cdg s H
  let u1 : Addr → Value → Option Addr → TS := fun a cls d => match cls with
    | .ref c => if c = T.cB then uB a d else if c = T.cN then uN a d else fun _ _ _ => False
    | _ => fun _ _ _ => False
  refine ⟨_, pss_cons (ps_set (i := 1) sc_l_heard.nd rfl (.inl rfl) pe_non) (pss_try_held (X := hX X g cdg s H) (i := 2) (c := .ref T.cS) (u0 := uNo) (u1 := u1)
    (tb := fun W D σ H => σ[0]? = some (some (.ref f)) ∧ H c' = some (LamX.CodeO c' q) ∧ tl (fun cls d H' => W cls d σ H') H (fun _ H' => D.nx σ H'))
    rfl rfl sc_l_heard.nd rfl rfl ⟨rfl, by decide, .inl T.gS⟩ (fun W pn xe tk _ => ?_) (fun a oe cls d pn hz hf => pss_one (ps_set (i := 1) sc_l_heard.nd rfl (.inl rfl) (pv 2))) rNo (fun a oe cls d pn hz hf => ?_)), ?_⟩
  · refine ⟨fun pins s' σ H' D I h' => ?_⟩
    obtain ⟨h1, h2, h3⟩ := h'
    exact (pss_one (ps_expr (act W pn xe (fun σ' cls d H' => W cls d σ' H') _ _ tk (fun _ _ _ _ z => z)))).run pins s' σ H' D I ⟨h1, h2, h3⟩
  · cases cls with
    | ref c =>
      show PSs _ _ (if c = T.cB then uB a d else if c = T.cN then uN a d else fun _ _ _ => False)
      split
      · next e =>
        subst e
        exact rB a oe d pn hz hf
      split
      · next e =>
        subst e
        exact rN a oe d pn hz hf
      exact pss_never
    | _ => exact pss_never
  · refine ⟨rfl, hc, h _ _ (fun cls H' dd fvs hx hr => ?_) (fun v H' hq => sNo _ _ _ _ hq)⟩
    rcases hr with ⟨rfl, v_part, rfl, k⟩ | ⟨rfl, v_part, rfl, k⟩
    · refine ⟨T.xB, fun a na => ⟨_, rfl, ?_⟩⟩
      show (if T.cB = T.cB then uB a (some dd) else _) _ _ _
      rw [if_pos rfl]
      exact sB a dd v_part _ H' Q _ hx k
    · refine ⟨T.xN, fun a na => ⟨_, rfl, ?_⟩⟩
      show (if T.cN = T.cB then uB a (some dd) else if T.cN = T.cN then uN a (some dd) else _) _ _ _
      rw [if_neg (no_ne T.noNB), if_pos rfl]
      exact sN a dd v_part _ H' Q _ hx k
def m_l_refused_right (pL : Addr) : Dm.Env → M Out := (fThen (fSet 2 (fOwn 2 f_l_pick (fCons (fVar 0) (fCons (fLst (fCons (fC .non) (fCons (fC (.int (5))) (fCons (fTup fNil) (fCons (fLst (fCons (fC (.int (0))) (fCons (fC
    (.int (1))) fNil))) (fCons (fLst (fCons (fC (.int (1))) (fCons (fC (.int (0))) (fCons (fC (.int (2))) fNil)))) (fCons (fC (.str "10")) (fCons (fLst (fCons (fC (.bl
    true)) (fCons (fC (.int (0))) fNil))) (fCons (fTup (fCons (fC (.int (1))) (fCons (fC (.int (0))) (fCons (fC (.int (3))) (fCons (fC (.int (3))) fNil))))) (fCons (fLst
    (fCons (fC (.int (1))) (fCons (fC (.int (0))) (fCons (fC (.int (3))) (fCons (fC (.int (2))) (fCons (fC (.int (5))) (fCons (fC (.int (4))) (fCons (fC (.int (7)))
    (fCons (fC (.int (6))) (fCons (fC (.int (9))) (fCons (fC (.int (8))) (fCons (fC (.int (11))) (fCons (fC (.int (10))) fNil))))))))))))) (fCons (fC (.dic []))
    fNil))))))))))) fNil)))) (fThen (fSet 3 (fOwn 2 f_l_pick (fCons (fVar 0) (fCons (fLst (fCons (fC .non) (fCons (fC (.int (0))) (fCons (fUn negD (fC (.int (1)))) (fCons
    (fC (.bl true)) (fCons (fC (.str "1")) (fCons (fLst (fCons (fC (.int (1))) fNil)) (fCons (fUn negD (fOp powD (fC (.int (10))) (fC (.int (30))))) fNil)))))))) fNil))))
    (fThen (fSetF 4 (fF (fCons (fHeard pL (("_law_refused_right" : Str) ++ ".<locals>." ++ "<lambda>") [] hdL (fOwn 1 f_tie_colours (fCons (fVar 2) fNil))) fNil))) (fThen
    (fApp 4 (fHeard pL (("_law_refused_right" : Str) ++ ".<locals>." ++ "<lambda>") [4] hdL (fOwn 1 f_longest_rise (fCons (fVar 2) fNil)))) (fThen (fApp 4 (fHeard pL
    (("_law_refused_right" : Str) ++ ".<locals>." ++ "<lambda>") [4] hdL (fOwn 2 f_ties_kept (fCons (fVar 2) (fCons (fVar 3) fNil))))) (fThen (fApp 4 (fHeard pL
    (("_law_refused_right" : Str) ++ ".<locals>." ++ "<lambda>") [4] hdL (fOwn 2 f_ties_kept (fCons (fCall listA (fCons (fVar 1) fNil)) (fCons (fVar 3) fNil))))) (fRet
    (fOp eqD (fVar 4) (fLst (fCons (fTup (fCons (fC (.str "ties")) (fCons (fC (.str "ties")) fNil))) (fCons (fTup (fCons (fC (.str "ties")) (fCons (fC (.str "ties"))
    fNil))) (fCons (fTup (fCons (fC (.str "ties")) (fCons (fC (.str "ties")) fNil))) (fCons (fTup (fCons (fC (.str "number")) (fCons (fC (.str "size")) fNil)))
    fNil)))))))))))))
def f_l_refused_right (pL : Addr) : List D → M D := fnM 5 (m_l_refused_right pL)
theorem ok_l_refused_right (T : Txt K mg) (TB : LamX.TabB base mg T.cL T.pL) : FnOk P w K mg base (L2.CX P w) 10 T.a_l_refused_right T.fd_l_refused_right ["_law_spool_here", "_law_ties_here"] (spD K (clOf T) 2 (f_l_refused_right T.pL)) := by
  obtain ⟨och, odh, kVh, dch, pmh, anh, cdvh, cth, oslh, eH, lkH, cdH⟩ := T.F_l_heard.ex
  have bH := T.b_l_heard
  rw [eH] at lkH bH
  obtain ⟨ocl, odl, kVl, dcl, pml, anl, ctl, osll, eL, lkL, cdL⟩ := T.lL
  rw [eL] at lkL ⊢
  have HG : ∀ (X : Cx) (q : Str), X.K = K → X.mg = mg → Gives2 X ["_law_ask", "_law_caught", "error"] "_law_heard" (defScope s_l_heard) T.a_l_heard cdvh (defBody s_l_heard) "_law_ask" q (TTd (hrL T)) := fun X q hK hm => heard_gives hK hm T
  exact okDc (O' := []) lkL cdL sc_l_refused_right (by decide) (m_l_refused_right T.pL) fun A outer s H E hr => (mss_cons (ms_setV 2 (me_own (ok_l_pick T) (Nat.le_of_ble_eq_true rfl) (fun _ => by rfl) T.g_l_pick T.F_l_pick.kp T.b_l_pick (ma_cons (me_v 0) (ma_cons (me_lst (ma_cons
    me_non (ma_cons me_int (ma_cons (me_tup ma_nil) (ma_cons (me_lst (ma_cons me_int (ma_cons me_int ma_nil))) (ma_cons (me_lst (ma_cons me_int (ma_cons me_int (ma_cons
    me_int ma_nil)))) (ma_cons me_str (ma_cons (me_lst (ma_cons me_bl (ma_cons me_int ma_nil))) (ma_cons (me_tup (ma_cons me_int (ma_cons me_int (ma_cons me_int (ma_cons
    me_int ma_nil))))) (ma_cons (me_lst (ma_cons me_int (ma_cons me_int (ma_cons me_int (ma_cons me_int (ma_cons me_int (ma_cons me_int (ma_cons me_int (ma_cons me_int
    (ma_cons me_int (ma_cons me_int (ma_cons me_int (ma_cons me_int ma_nil))))))))))))) (ma_cons me_dnil ma_nil))))))))))) ma_nil)))) (mss_cons (ms_setV 3 (me_own
    (ok_l_pick T) (Nat.le_of_ble_eq_true rfl) (fun _ => by rfl) T.g_l_pick T.F_l_pick.kp T.b_l_pick (ma_cons (me_v 0) (ma_cons (me_lst (ma_cons me_non (ma_cons me_int
    (ma_cons (me_neg me_int) (ma_cons me_bl (ma_cons me_str (ma_cons (me_lst (ma_cons me_int ma_nil)) (ma_cons (me_neg (me_pow me_int me_int)) ma_nil)))))))) ma_nil))))
    (mss_cons (ms_setFV 4 (mf_lst (ma_cons (me_heard (P2 := T.pL) (qn := (("_law_refused_right" : Str) ++ ".<locals>." ++ "<lambda>")) (k := 6) (hd := hdL) (fun _ t hb =>
    pe_lam2 (TT := TTd (hrL T)) (by rfl) T.g_l_heard T.F_l_heard.kp lkH cdH bH sc_l_heard rfl (.inl rfl) (HG _ _ (by rfl) (by rfl)) TB rfl (mem_self _) (hu_self _ _)
    (hr.mono (Nat.le_of_ble_eq_true rfl)) (LamX.lamS_by (by kernel_rfl)) rfl (fun _ _ _ _ _ => rfl) hb) (hd_ok T) (fun _ => (me_own (ok_tie_colours T)
    (Nat.le_of_ble_eq_true rfl) (fun _ => by rfl) T.g_tie_colours T.F_tie_colours.kp T.b_tie_colours (ma_cons (me_v 2) ma_nil)))) ma_nil))) (mss_cons (ms_appendV 4
    (me_heard (P2 := T.pL) (qn := (("_law_refused_right" : Str) ++ ".<locals>." ++ "<lambda>")) (k := 6) (hd := hdL) (fun _ t hb => pe_lam2 (TT := TTd (hrL T)) (by rfl)
    T.g_l_heard T.F_l_heard.kp lkH cdH bH sc_l_heard rfl (.inl rfl) (HG _ _ (by rfl) (by rfl)) TB rfl (mem_self _) (hu_self _ _) (hr.mono (Nat.le_of_ble_eq_true rfl))
    (LamX.lamS_by (by kernel_rfl)) rfl (fun _ _ _ _ _ => rfl) hb) (hd_ok T) (fun _ => (me_own (ok_longest_rise T) (Nat.le_of_ble_eq_true rfl) (fun _ => by rfl)
    T.g_longest_rise T.F_longest_rise.kp T.b_longest_rise (ma_cons (me_v 2) ma_nil))))) (mss_cons (ms_appendV 4 (me_heard (P2 := T.pL) (qn := (("_law_refused_right" :
    Str) ++ ".<locals>." ++ "<lambda>")) (k := 6) (hd := hdL) (fun _ t hb => pe_lam2 (TT := TTd (hrL T)) (by rfl) T.g_l_heard T.F_l_heard.kp lkH cdH bH sc_l_heard rfl
    (.inl rfl) (HG _ _ (by rfl) (by rfl)) TB rfl (mem_self _) (hu_self _ _) (hr.mono (Nat.le_of_ble_eq_true rfl)) (LamX.lamS_by (by kernel_rfl)) rfl (fun _ _ _ _ _ =>
    rfl) hb) (hd_ok T) (fun _ => (me_own (ok_ties_kept T) (Nat.le_of_ble_eq_true rfl) (fun _ => by rfl) T.g_ties_kept T.F_ties_kept.kp T.b_ties_kept (ma_cons (me_v 2)
    (ma_cons (me_v 3) ma_nil)))))) (mss_cons (ms_appendV 4 (me_heard (P2 := T.pL) (qn := (("_law_refused_right" : Str) ++ ".<locals>." ++ "<lambda>")) (k := 6) (hd :=
    hdL) (fun _ t hb => pe_lam2 (TT := TTd (hrL T)) (by rfl) T.g_l_heard T.F_l_heard.kp lkH cdH bH sc_l_heard rfl (.inl rfl) (HG _ _ (by rfl) (by rfl)) TB rfl (mem_self
    _) (hu_self _ _) (hr.mono (Nat.le_of_ble_eq_true rfl)) (LamX.lamS_by (by kernel_rfl)) rfl (fun _ _ _ _ _ => rfl) hb) (hd_ok T) (fun _ => (me_own (ok_ties_kept T)
    (Nat.le_of_ble_eq_true rfl) (fun _ => by rfl) T.g_ties_kept T.F_ties_kept.kp T.b_ties_kept (ma_cons (me_listA (fun _ => by rfl) T.z_list (ma_cons (me_v 1) ma_nil))
    (ma_cons (me_v 3) ma_nil)))))) (mss_freeze 4 (mss_one (ms_ret (me_eq (me_v 4) (me_lst (ma_cons (me_tup (ma_cons me_str (ma_cons me_str ma_nil))) (ma_cons (me_tup
    (ma_cons me_str (ma_cons me_str ma_nil))) (ma_cons (me_tup (ma_cons me_str (ma_cons me_str ma_nil))) (ma_cons (me_tup (ma_cons me_str (ma_cons me_str ma_nil)))
    ma_nil)))))))))))))))

def m_law (pL : Addr) : Dm.Env → M Out := (fThen (fFor (fRg1 (fCons (fC (.int (4))) fNil)) (gNm 2) (fThen (fSet 3 (fOwn 2 f_l_ties (fCons (fVar 1) (fCons (fOwn 2 f_l_pick (fCons (fVar 1) (fCons (fLst (fCons (fC
    (.int (6))) (fCons (fC (.int (8))) (fCons (fC (.int (10))) (fCons (fC (.int (4))) (fCons (fC (.int (2))) (fCons (fC (.int (8))) (fCons (fC (.int (10))) fNil))))))))
    fNil))) fNil)))) (fIf (fOrT (fNotT (fTr (fOwn 2 f_l_told_right (fCons (fVar 1) (fCons (fVar 3) fNil))))) (fNotT (fTr (fOwn 2 (f_l_refused_right pL) (fCons (fVar 1)
    (fCons (fVar 3) fNil)))))) (fRet (fC (.bl false))) fSkip))) (fThen (fSet 4 (fOwn 1 f_l_all_ties (fCons (fOwn 2 f_l_pick (fCons (fVar 1) (fCons (fLst (fCons (fC (.int
    (6))) (fCons (fC (.int (8))) (fCons (fC (.int (4))) (fCons (fC (.int (2))) (fCons (fC (.int (6))) fNil)))))) fNil))) fNil))) (fThen (fFor (fRg1 (fCons (fC (.int (3)))
    fNil)) (gNm 2) (fIf (fNotT (fTr (fOwn 2 f_l_latest_right (fCons (fOwn 2 f_l_pick (fCons (fVar 1) (fCons (fVar 4) fNil))) (fCons (fVar 4) fNil))))) (fRet (fC (.bl
    false))) fSkip)) (fRet (fOp eqD (fOwn 1 f_tie_colours (fCons (fLst (fCons (fC (.int (1))) (fCons (fC (.int (0))) (fCons (fC (.int (5))) (fCons (fC (.int (4))) (fCons
    (fC (.int (3))) (fCons (fC (.int (2))) fNil))))))) fNil)) (fTup (fCons (fC (.int (0))) (fCons (fC (.int (0))) (fCons (fC (.int (1))) (fCons (fC (.int (1))) (fCons (fC
    (.int (1))) (fCons (fC (.int (1))) fNil))))))))))))
theorem ok_law (T : Txt K mg) (TB : LamX.TabB base mg T.cL T.pL) (hm : ∀ (q : Addr) (cells : List Int), ∃ s', m_law T.pL ((List.replicate 5 none).set 1 (some (.ref q))) ⟨q, cells, 0, 0, [(T.pL, (("_law_refused_right" : Str) ++ ".<locals>." ++ "<lambda>"))]⟩ = .ok (.rt (.bl true)) s') :
    FnG P w K mg base 11 T.a_law T.fd_law ["_law_script"] (sp_lawD K [T.pL]) :=
  ok_lawG (O' := []) (T := [(T.pL, (("_law_refused_right" : Str) ++ ".<locals>." ++ "<lambda>"))]) (i := 1) T.F_law sc_law (by decide) (by decide) (m_law T.pL) rfl
    (fun cdv A outer s H E hr => ⟨_, ps_set (i := 1) sc_law.nd rfl (.inl rfl) (pe_call (ok_l_spool T) (hr.mono (Nat.le_of_ble_eq_true rfl)) (by rfl) T.g_l_spool T.F_l_spool.kp T.b_l_spool .nil pass0 (pa_cons (pv 0) pa_nil)), fun σ H Q v e h => ⟨v, e, h⟩⟩)
    (fun cdv A outer s H E hr hgd => (mss_cons (ms_for (fun _ => passes_of rfl) (mi_range1 (fun _ => by rfl) T.z_range (ma_cons me_int ma_nil)) (mg_n 2) (mss_cons (ms_setV 3 (me_own (ok_l_ties T)
    (Nat.le_of_ble_eq_true rfl) (fun _ => by rfl) T.g_l_ties T.F_l_ties.kp T.b_l_ties (ma_cons (me_v 1) (ma_cons (me_own (ok_l_pick T) (Nat.le_of_ble_eq_true rfl) (fun _
    => by rfl) T.g_l_pick T.F_l_pick.kp T.b_l_pick (ma_cons (me_v 1) (ma_cons (me_lst (ma_cons me_int (ma_cons me_int (ma_cons me_int (ma_cons me_int (ma_cons me_int
    (ma_cons me_int (ma_cons me_int ma_nil)))))))) ma_nil))) ma_nil)))) (mss_one (ms_if (mw_pt (mw_or (mt_not (mt_val (me_ownG (ok_l_told_right T) (Nat.le_of_ble_eq_true
    rfl) (fun _ => hgd) (fun _ => by rfl) T.g_l_told_right T.F_l_told_right.kp T.b_l_told_right (ma_cons (me_v 1) (ma_cons (me_v 3) ma_nil))))) (mw_or1 (mt_not (mt_val
    (me_own (ok_l_refused_right T TB) (Nat.le_of_ble_eq_true rfl) (fun _ => by rfl) T.g_l_refused_right T.F_l_refused_right.kp T.b_l_refused_right (ma_cons (me_v 1)
    (ma_cons (me_v 3) ma_nil)))))))) (mss_one (ms_ret me_bl)) mss_nil)))) (mss_cons (ms_setV 4 (me_own (ok_l_all_ties T) (Nat.le_of_ble_eq_true rfl) (fun _ => by rfl)
    T.g_l_all_ties T.F_l_all_ties.kp T.b_l_all_ties (ma_cons (me_own (ok_l_pick T) (Nat.le_of_ble_eq_true rfl) (fun _ => by rfl) T.g_l_pick T.F_l_pick.kp T.b_l_pick
    (ma_cons (me_v 1) (ma_cons (me_lst (ma_cons me_int (ma_cons me_int (ma_cons me_int (ma_cons me_int (ma_cons me_int ma_nil)))))) ma_nil))) ma_nil))) (mss_cons (ms_for
    (fun _ => passes_of rfl) (mi_range1 (fun _ => by rfl) T.z_range (ma_cons me_int ma_nil)) (mg_n 2) (mss_one (ms_if (mt_not (mt_val (me_own (ok_l_latest_right T)
    (Nat.le_of_ble_eq_true rfl) (fun _ => by rfl) T.g_l_latest_right T.F_l_latest_right.kp T.b_l_latest_right (ma_cons (me_own (ok_l_pick T) (Nat.le_of_ble_eq_true rfl)
    (fun _ => by rfl) T.g_l_pick T.F_l_pick.kp T.b_l_pick (ma_cons (me_v 1) (ma_cons (me_v 4) ma_nil))) (ma_cons (me_v 4) ma_nil))))) (mss_one (ms_ret me_bl)) mss_nil)))
    (mss_one (ms_ret (me_eq (me_own (ok_tie_colours T) (Nat.le_of_ble_eq_true rfl) (fun _ => by rfl) T.g_tie_colours T.F_tie_colours.kp T.b_tie_colours (ma_cons (me_lst
    (ma_cons me_int (ma_cons me_int (ma_cons me_int (ma_cons me_int (ma_cons me_int (ma_cons me_int ma_nil))))))) ma_nil)) (me_tup (ma_cons me_int (ma_cons me_int
    (ma_cons me_int (ma_cons me_int (ma_cons me_int (ma_cons me_int ma_nil)))))))))))))) hm

end
end My

namespace My
/-! ties, as they are drawn and as all are told -/
def grow1 (p : List (Nat × Nat) × List Nat) : List (List (Nat × Nat) × List Nat) :=
  (List.range (p.2.length - 1)).map fun a => (p.1 ++ [(p.2.getD 0 0, (p.2.drop 1).getD a 0)], (p.2.drop 1).eraseIdx a)
def growK (n : Nat) : Nat → List (List (Nat × Nat) × List Nat)
  | 0 => [([], List.range n)]
  | k + 1 => (growK n k).flatMap grow1
def rowTS (r : List Nat) (p : Nat × Nat) : List Nat := (r.set p.1 p.2).set p.2 p.1
def rowT (n : Nat) (ps : List (Nat × Nat)) : List Nat := ps.foldl rowTS (List.replicate n 0)
def allT (n : Nat) : List (List Nat) := (growK n (n / 2)).map fun p => rowT n p.1
/-! colours, rises -/
def col1T (r found : List Nat) (top : Nat) : List Nat :=
  ((List.range top).filter fun o => decide (r.getD o 0 < r.getD top 0)).map fun o => found.getD o 0 + 1
def colTUp (r : List Nat) : Nat → List Nat
  | 0 => []
  | i + 1 => colTUp r i ++ [mxN (col1T r (colTUp r i) i)]
def colT (r : List Nat) : List Nat := colTUp r r.length
theorem colTUp_len (r : List Nat) : ∀ i, (colTUp r i).length = i
  | 0 => rfl
  | i + 1 => by
    show (colTUp r i ++ [_]).length = i + 1
    rw [List.length_append, colTUp_len r i]
    rfl
theorem colT_len (r : List Nat) : (colT r).length = r.length := colTUp_len r _
def befT (r : List Nat) (t : Nat) : List Nat := (List.range t).filter fun o => decide (r.getD o 0 < r.getD t 0) && decide ((colT r).getD o 0 + 1 = (colT r).getD t 0)
def rlN (r : List Nat) : Nat → Nat
  | 0 => (colT r).idxOf (mxN (colT r))
  | j + 1 => (befT r (rlN r j)).getD 0 0
def riseT (r : List Nat) : List Nat := ((List.range (mxN (colT r) + 1)).map (rlN r)).reverse
/-! a rise beyond a size -/
structure RbS where
  rises : List (List Nat)
  lasts : List Nat
  found : List Nat
def rbStep (r : List Nat) (size : Int) (s : RbS) (e : Nat) : RbS :=
  if e < r.getD e 0 then
    let many := (s.lasts.filter fun x => decide (x < r.getD e 0)).length
    let rise := if 0 < many then s.rises.getD (many - 1) [] ++ [e] else [e]
    ⟨s.rises.take many ++ [rise] ++ s.rises.drop (many + 1), s.lasts.take many ++ [r.getD e 0] ++ s.lasts.drop (many + 1),
      if size ≤ (many : Int) ∧ (s.found = [] ∨ r.getD (s.found.getLastD 0) 0 < r.getD e 0) then rise.take size.toNat ++ [e] else s.found⟩
  else s
def rbUp (r : List Nat) (size : Int) : Nat → RbS
  | 0 => ⟨[], [], []⟩
  | i + 1 => rbStep r size (rbUp r size i) i
def rbT (r : List Nat) (size : Int) : List Nat := (rbUp r size r.length).found
/-! the law's own -/
def begStep (r b : List Nat) (e : Nat) : List Nat := b.set e (1 + mxN (0 :: ((List.range' (e + 1) (r.length - (e + 1))).filter fun l => decide (r.getD e 0 < r.getD l 0)).map fun l => b.getD l 0))
def begT (r : List Nat) : List Nat := (List.range r.length).reverse.foldl (begStep r) (List.replicate r.length 0)
def longT (r : List Nat) : Nat := mxN (begT r)
def firstT (r left : List Nat) : List Nat := left.filter fun e => decide ((left.filter fun a => decide (a < e) && decide (r.getD a 0 < r.getD e 0)) = [])
def levGo (r : List Nat) : Nat → List Nat → List Nat → Nat → Option (List Nat)
  | 0, _, _, _ => none
  | k + 1, found, left, lev => if left = [] then some found else
    levGo r k ((firstT r left).foldl (fun f e => f.set e lev) found) (left.filter fun e => decide (e ∉ firstT r left)) (lev + 1)
def takesT (r s : List Nat) : Bool := (List.range r.length).all fun e => decide (s.getD e 0 = s.getD (r.getD e 0) 0)
def riseOk (r told : List Nat) (many : Nat) : Bool := decide (told.length = many) && told.all (fun e => decide (e < r.length)) &&
  (told.zip (told.drop 1)).all fun p => decide (p.1 < p.2) && decide (r.getD p.1 0 < r.getD p.2 0)
def okT (r : List Nat) : Bool :=
  r.all (fun x => decide (x < r.length)) && (List.range r.length).all (fun i => decide (r.getD (r.getD i 0) 0 = i) && decide (r.getD i 0 ≠ i)) &&
  ((List.range r.length).all fun t => decide ((colT r).getD t 0 = 0) || decide (befT r t ≠ [])) && decide ((colT r).idxOf (mxN (colT r)) < r.length) &&
  decide (levGo r 12 (List.replicate r.length 0) (List.range r.length) 0 = some (colT r)) && decide (mxN (colT r) + 1 = longT r) &&
  riseOk r (riseT r) (longT r) && riseOk r ((riseT r).map fun e => r.getD e 0) (longT r) &&
  ((List.range (longT r)).all fun c => decide ((((List.range r.length).filter fun e => decide ((colT r).getD e 0 = c)).map fun e => r.getD e 0) = ((List.range r.length).filter fun e => decide ((colT r).getD e 0 = c)).reverse)) &&
  ((List.range (r.length / 2 + 1)).all fun d => decide (rbT r ((d + 1 : Nat) : Int) = []) == decide (longT r ≤ d + 1)) && takesT r (colT r)
theorem okT_2 : (allT 2).all okT = true := by decide +kernel
theorem okT_4 : (allT 4).all okT = true := by decide +kernel
theorem okT_6 : (allT 6).all okT = true := by decide +kernel
theorem len_T : (allT 8).length = 105 ∧ (allT 10).length = 945 := by decide +kernel
theorem okT_8 : (allT 8).all okT = true := by decide +kernel
end My

namespace My
theorem okT_10a : ((allT 10).take 160).all okT = true := by decide +kernel
theorem okT_10b : (((allT 10).drop 160).take 160).all okT = true := by decide +kernel
theorem okT_10c : (((allT 10).drop 320).take 160).all okT = true := by decide +kernel
theorem okT_10d : (((allT 10).drop 480).take 160).all okT = true := by decide +kernel
theorem okT_10e : (((allT 10).drop 640).take 160).all okT = true := by decide +kernel
theorem okT_10f : ((allT 10).drop 800).all okT = true := by decide +kernel
theorem drop_takeT {α : Type} (l : List α) (k m : Nat) {x : α} (h : x ∈ l.drop k) : x ∈ (l.drop k).take m ∨ x ∈ l.drop (k + m) := by
  have e : l.drop k = (l.drop k).take m ++ l.drop (k + m) := by
    rw [← List.drop_drop, List.take_append_drop]
  rw [e] at h
  exact List.mem_append.mp h
theorem okT_10 {r : List Nat} (m : r ∈ allT 10) : okT r = true := by
  rcases drop_takeT (allT 10) 0 160 m with h | h
  · exact List.all_eq_true.mp okT_10a r h
  rcases drop_takeT _ _ 160 h with h | h
  · exact List.all_eq_true.mp okT_10b r h
  rcases drop_takeT _ _ 160 h with h | h
  · exact List.all_eq_true.mp okT_10c r h
  rcases drop_takeT _ _ 160 h with h | h
  · exact List.all_eq_true.mp okT_10d r h
  rcases drop_takeT _ _ 160 h with h | h
  · exact List.all_eq_true.mp okT_10e r h
  · exact List.all_eq_true.mp okT_10f r h
/-- ties of two to ten ends -/
def IsT (r : List Nat) : Prop := ∃ n, n ∈ [2, 4, 6, 8, 10] ∧ r ∈ allT n
theorem foldl_row_len : ∀ (ps : List (Nat × Nat)) (r : List Nat), (ps.foldl rowTS r).length = r.length
  | [], _ => rfl
  | p :: ps, r => by
    rw [List.foldl_cons, foldl_row_len ps]
    unfold rowTS
    rw [List.length_set, List.length_set]
theorem allT_len {n : Nat} {r : List Nat} (h : r ∈ allT n) : r.length = n := by
  obtain ⟨p, _, rfl⟩ := List.mem_map.mp h
  unfold rowT
  rw [foldl_row_len, List.length_replicate]
theorem IsT.ok {r : List Nat} (h : IsT r) : okT r = true := by
  obtain ⟨n, hn, hr⟩ := h
  simp only [List.mem_cons, List.not_mem_nil, or_false] at hn
  rcases hn with rfl | rfl | rfl | rfl | rfl
  · exact List.all_eq_true.mp okT_2 r hr
  · exact List.all_eq_true.mp okT_4 r hr
  · exact List.all_eq_true.mp okT_6 r hr
  · exact List.all_eq_true.mp okT_8 r hr
  · exact okT_10 hr
theorem IsT.len {r : List Nat} (h : IsT r) : r.length ∈ [2, 4, 6, 8, 10] := by
  obtain ⟨n, hn, hr⟩ := h
  rw [allT_len hr]
  exact hn
structure TOk (r : List Nat) : Prop where
  lt : ∀ x ∈ r, x < r.length
  inv : ∀ i, i < r.length → r.getD (r.getD i 0) 0 = i ∧ r.getD i 0 ≠ i
  bef : ∀ t, t < r.length → (colT r).getD t 0 = 0 ∨ befT r t ≠ []
  ix : (colT r).idxOf (mxN (colT r)) < r.length
  lev : levGo r 12 (List.replicate r.length 0) (List.range r.length) 0 = some (colT r)
  most : mxN (colT r) + 1 = longT r
  rise : riseOk r (riseT r) (longT r) = true
  rise2 : riseOk r ((riseT r).map fun e => r.getD e 0) (longT r) = true
  col : ∀ c, c < longT r → (((List.range r.length).filter fun e => decide ((colT r).getD e 0 = c)).map fun e => r.getD e 0) = ((List.range r.length).filter fun e => decide ((colT r).getD e 0 = c)).reverse
  kept : ∀ d, d < r.length / 2 + 1 → decide (rbT r ((d + 1 : Nat) : Int) = []) = decide (longT r ≤ d + 1)
  takes : takesT r (colT r) = true
theorem tOk {r : List Nat} (h : IsT r) : TOk r := by
  have h := h.ok
  unfold okT at h
  simp only [Bool.and_eq_true] at h
  obtain ⟨⟨⟨⟨⟨⟨⟨⟨⟨⟨h1, h2⟩, h3⟩, h4⟩, h5⟩, h6⟩, h7⟩, h8⟩, h9⟩, h10⟩, h11⟩ := h
  refine ⟨fun x hx => of_decide_eq_true (List.all_eq_true.mp h1 x hx), fun i hi => ?_, fun t ht => ?_, of_decide_eq_true h4, of_decide_eq_true h5, of_decide_eq_true h6, h7, h8, fun c hc => of_decide_eq_true (List.all_eq_true.mp h9 c (List.mem_range.mpr hc)), fun d hd => eq_of_beq (List.all_eq_true.mp h10 d (List.mem_range.mpr hd)), h11⟩
  · have z := List.all_eq_true.mp h2 i (List.mem_range.mpr hi)
    rw [Bool.and_eq_true] at z
    exact ⟨of_decide_eq_true z.1, of_decide_eq_true z.2⟩
  · have z := List.all_eq_true.mp h3 t (List.mem_range.mpr ht)
    rw [Bool.or_eq_true] at z
    exact z.imp of_decide_eq_true of_decide_eq_true
/-! of all ties that take the colours, the latest, and how many -/
def oddsT (c : Nat) : List Nat := (List.range (c / 2)).map fun k => 1 + 2 * k
def dueT (t : List Nat) : Nat := (List.range (1 + mxN (colT t))).foldl (fun d c => (oddsT ((colT t).filter fun x => decide (x = c)).length).foldl (fun d o => d * o) d) 1
def lateT (n : Nat) (t : List Nat) : Bool := decide (((allT n).filter fun o => takesT o (colT t)).getLast? = some t) && decide (((allT n).filter fun o => takesT o (colT t)).length = dueT t)
theorem late_2 : (allT 2).all (lateT 2) = true := by decide +kernel
theorem late_4 : (allT 4).all (lateT 4) = true := by decide +kernel
theorem late_6 : (allT 6).all (lateT 6) = true := by decide +kernel
theorem late_8 : (allT 8).all (lateT 8) = true := by decide +kernel
end My

namespace My
open PySem PySem.Spec PyProof.Rows L2 Dm
def Sqn (x : D) (r : List Nat) : Prop := x = .lst (nD r) ∨ x = .tup (nD r)
theorem Sqn.seq {x : D} {r : List Nat} (h : Sqn x r) : seqOf x = some (nD r) := by rcases h with rfl | rfl <;> rfl
theorem Sqn.tup {x : D} {r : List Nat} (h : Sqn x r) : tupleD [x] = some (.tup (nD r)) := by rcases h with rfl | rfl <;> rfl
theorem Sqn.isL {x : D} {r : List Nat} (h : Sqn x r) (s : BS) : f_is_list [x] s = .ok (.bl true) s := by rcases h with rfl | rfl <;> rfl
theorem Sqn.len {x : D} {r : List Nat} (h : Sqn x r) : lenD [x] = some (.int (r.length : Int)) := by rw [len_of_seq h.seq, nD_len]
theorem Sqn.ix {x : D} {r : List Nat} (hx : Sqn x r) {i : Nat} (h : i < r.length) : ixD x (.int (i : Int)) = some (.int ((r.getD i 0 : Nat) : Int)) := by
  rcases hx with rfl | rfl
  · exact ixD_nL h
  · exact ixD_nT h
theorem f_is_integer_eq {d : D} (h : isPl d = true) (s : BS) : f_is_integer [d] s = .ok (.bl (isI d)) s := by
  cases d <;> first | rfl | cases h
theorem numbers_core {x : D} {l : List D} (s : BS) (hx : seqOf x = some l) (hls : f_is_list [x] s = .ok (.bl true) s) (h : ∀ d ∈ l, isPl d = true) (hl : l.length ≤ 1000) : f_is_numbers [x] s = .ok (.bl (l.all isI)) s := by
  have hf : fLc [1] (fSeq (fVar 0)) (gNm 1) fYes (fOrV (fOp isTyD (fCall typeD (fCons (fVar 1) fNil)) (fC (.ty "int"))) (fOwn 1 f_is_integer (fCons (fVar 1) fNil))) [some x, none] s = .ok (l.map fun d => .bl (isI d)) s := by
    refine lc_all (s1 := s) l id (fun d => .bl (isI d)) (by rw [List.map_id]; exact seqo_ok (var_ok rfl) hx) (by omega) fun d hd => ⟨[some x, some d], rfl, rfl, ?_⟩
    obtain ⟨n, e1, e2⟩ := ty_int (h d hd)
    have e3 := f_is_integer_eq (h d hd) s
    have e4 : fOp isTyD (fCall typeD (fCons (fVar 1) fNil)) (fC (.ty "int")) [some x, some d] s = .ok (.bl (isI d)) s := op_ok (call_ok (cons_ok (var_ok rfl) nil_ok) e1) c_ok (by rw [isTy_eq, e2])
    cases ei : isI d with
    | true =>
      rw [ei] at e4
      exact orV_t e4
    | false =>
      rw [ei] at e4 e3
      exact orV_ff e4 (own_ok (cons_ok (var_ok rfl) nil_ok) rfl e3)
  have eb : allD [.lst (l.map fun d => D.bl (isI d))] = some (.bl (l.all isI)) := by
    have z := boolsOf_map (l.map isI)
    rw [List.map_map] at z
    show (match boolsOf (l.map fun d => D.bl (isI d)) with | some ns => some (D.bl (ns.all id)) | none => none) = _
    have z : boolsOf (l.map fun d => D.bl (isI d)) = some (l.map isI) := z
    rw [z]
    show some (D.bl ((l.map isI).all id)) = _
    rw [List.all_map]
    rfl
  refine fn_rt (ret_ok (andV_tt (own_ok (cons_ok (var_ok rfl) nil_ok) rfl hls) (call_ok (cons_ok (fL_ok hf) nil_ok) eb)))
theorem numbers_n {x : D} {r : List Nat} (hx : Sqn x r) (hl : r.length ≤ 1000) (s : BS) : f_is_numbers [x] s = .ok (.bl true) s := by
  have e := numbers_core s hx.seq (hx.isL s) (fun d hd => by
    obtain ⟨z, _, rfl⟩ := List.mem_map.mp hd
    rfl) (by rw [nD_len]; exact hl)
  rw [e, List.all_eq_true.mpr fun d hd => by
    obtain ⟨z, _, rfl⟩ := List.mem_map.mp hd
    rfl]
theorem ends_many {n : Nat} (h : n ∈ [2, 4, 6, 8, 10]) (s : BS) : f_are_ends_many [.int (n : Int)] s = .ok (.bl true) s := by
  simp only [List.mem_cons, List.not_mem_nil, or_false] at h
  rcases h with rfl | rfl | rfl | rfl | rfl <;> rfl
theorem IsT.small {r : List Nat} (h : IsT r) : 2 ≤ r.length ∧ r.length ≤ 10 := by
  have := h.len
  simp only [List.mem_cons, List.not_mem_nil, or_false] at this
  omega
theorem getD_mem {r : List Nat} {i : Nat} (h : i < r.length) : r.getD i 0 ∈ r := by
  rw [List.getD_eq_getElem?_getD, List.getElem?_eq_getElem h]
  exact List.getElem_mem h
theorem IsT.lt {r : List Nat} (h : IsT r) {i : Nat} (hi : i < r.length) : r.getD i 0 < r.length := (tOk h).lt _ (getD_mem hi)
theorem mxN_lt {l : List Nat} {n : Nat} (h0 : 0 < n) (h : ∀ x ∈ l, x < n) : mxN l < n := by
  have gen : ∀ (l : List Nat) (a : Nat), a < n → (∀ x ∈ l, x < n) → l.foldl max a < n := by
    intro l
    induction l with
    | nil => exact fun a ha _ => ha
    | cons y l ih =>
      intro a ha hl
      rw [List.foldl_cons]
      refine ih _ ?_ fun x hx => hl x (List.mem_cons_of_mem _ hx)
      have := hl y List.mem_cons_self
      omega
  exact gen l 0 h0 h
theorem max_sq {x : D} {r : List Nat} (hx : Sqn x r) (h : r ≠ []) : maxD [x] = some (.int ((mxN r : Nat) : Int)) := by
  rcases hx with rfl | rfl
  · exact max_nL h
  · exact max_n h
theorem is_ties_w {x : D} {r : List Nat} (hx : Sqn x r) (hr : IsT r) (s : BS) : f_is_ties [x] s = .ok (.bl true) s := by
  have sm := hr.small
  have ne : r ≠ [] := fun z => by
    rw [z] at sm
    simp at sm
  have ok := tOk hr
  obtain ⟨m, m1, m2⟩ := minB_n ne
  have em : minB [x] = some (.int (m : Int)) := by
    rcases hx with rfl | rfl
    · exact m2
    · exact m1
  have mx := mxN_lt (l := r) (n := r.length) (by omega) ok.lt
  refine fn_rt ?_
  refine then_ok (ρ1 := [some x, none, none]) (s1 := s) (skip_ok (or_ff (not_t (tr_ok (own_ok (cons_ok (var_ok rfl) nil_ok) rfl (numbers_n hx (by omega) s)))) (not_t (tr_ok (own_ok (cons_ok (call_ok (cons_ok (var_ok rfl) nil_ok) hx.len) nil_ok) rfl (ends_many hr.len s)))))) ?_
  refine then_ok (ρ1 := [some x, none, none]) (s1 := s) (skip_ok (or_ff (tr_ok (op_ok (call_ok (cons_ok (var_ok rfl) nil_ok) em) c_ok (by
    have z := lt_nn m 0
    rw [decide_eq_false (by omega)] at z
    exact z))) (tr_ok (op_ok (call_ok (cons_ok (var_ok rfl) nil_ok) (max_sq hx ne)) (call_ok (cons_ok (var_ok rfl) nil_ok) hx.len) (by rw [ge_nn, decide_eq_false (by omega)]))))) ?_
  have hf : fLc [1, 2] (fEnum (fCons (fVar 0) fNil)) (gTp 2 (gsCons (gNm 1) (gsCons
    (gNm 2) gsNil))) fYes (fAndV (fOp eqD (fOp ixD (fVar 0) (fVar 2)) (fVar 1)) (fOp neD (fVar 2) (fVar 1))) [some x, none, none] s = .ok ((List.range r.length).map fun _ => .bl true) s := by
    refine lc_all (s1 := s) (List.range r.length) (fun (i : Nat) => D.tup0 [.int (i : Int), .int ((r.getD i 0 : Nat) : Int)]) (fun _ => .bl true) ?_ (by rw [List.length_range]; omega) fun i hi => ?_
    · unfold fEnum bnd
      rw [cons_ok (f := fVar 0) (g := fNil) (var_ok (d := x) rfl) nil_ok]
      simp only [lift, hx.seq, Option.map_some, enum_n]
    · have hi := List.mem_range.mp hi
      obtain ⟨a1, a2⟩ := ok.inv i hi
      refine ⟨[some x, some (.int (i : Int)), some (.int ((r.getD i 0 : Nat) : Int))], rfl, rfl, ?_⟩
      refine andV_tt (op_ok (op_ok (var_ok rfl) (var_ok rfl) (hx.ix (hr.lt hi))) (var_ok rfl) ?_) (op_ok (var_ok rfl) (var_ok rfl) ?_)
      · rw [eqI, deq_cast, decide_eq_true a1]
      · rw [neD_n, decide_eq_false a2]
        rfl
  refine ret_ok (call_ok (cons_ok (fL_ok hf) nil_ok) ?_)
  have z := boolsOf_map ((List.range r.length).map fun _ => true)
  rw [List.map_map] at z
  have z : boolsOf ((List.range r.length).map fun _ => D.bl true) = some ((List.range r.length).map fun _ => true) := z
  show (match boolsOf ((List.range r.length).map fun _ => D.bl true) with | some ns => some (D.bl (ns.all id)) | none => none) = _
  rw [z]
  show some (D.bl (((List.range r.length).map fun _ => true).all id)) = _
  rw [List.all_map]
  exact congrArg (fun b => some (D.bl b)) (List.all_eq_true.mpr fun _ _ => rfl)
theorem need_ties_w {x p : D} {r : List Nat} (hx : Sqn x r) (hr : IsT r) (s : BS) : f_need_ties [x, p] s = .ok (.tup (nD r)) s := by
  refine fn_rt ?_
  refine then_ok (ρ1 := [some x, some p]) (s1 := s) (skip_ok (not_t (tr_ok (own_ok (cons_ok (var_ok rfl) nil_ok) rfl (is_ties_w hx hr s))))) ?_
  exact ret_ok (call_ok (cons_ok (var_ok rfl) nil_ok) hx.tup)
/-! colours -/
abbrev cB : Dm.Env → M Out := (fThen (fSetF 4 (fLc [5] (fRg1 (fCons (fVar 2)
    fNil)) (gNm 5) (fTr (fOp ltA (fOp ixD (fVar 0) (fVar 5)) (fVar 3))) (fOp addD (fIxO 1 (fVar 5)) (fC (.int (1)))))) (fApp 1 (fOp maxDf (fVar 4) (fC (.int (0))))))
theorem end_colours_w {r : List Nat} (hl : r.length ≤ 1000) (s : BS) : f_end_colours [.tup (nD r)] s = .ok (.tup (nD (colT r))) s := by
  obtain ⟨ρ', e, y2, y3, y4, rfl⟩ := loop_some (g := gTp 2 (gsCons (gNm 2) (gsCons (gNm 3) gsNil))) (body := cB) (s := s) (List.range r.length) (fun (i : Nat) => D.tup0 [.int (i : Int), .int ((r.getD i 0 : Nat) : Int)])
    (fun j ρ => ∃ y2 y3 y4, ρ = [some (.tup (nD r)), some (.lst (nD (colTUp r j))), y2, y3, y4, none]) (ρ := [some (.tup (nD r)), some (.lst (nD [])), none, none, none, none]) ⟨none, none, none, rfl⟩ fun j i ρ hi hP => by
      obtain ⟨y2, y3, y4, rfl⟩ := hP
      obtain ⟨hj, rfl⟩ : j < r.length ∧ i = j := by
        have h := List.getElem?_eq_some_iff.mp hi
        obtain ⟨h1, h2⟩ := h
        rw [List.length_range] at h1
        rw [List.getElem_range] at h2
        exact ⟨h1, h2.symm⟩
      have lu := colTUp_len r i
      have lc : fLc [5] (fRg1 (fCons (fVar 2) fNil)) (gNm 5) (fTr (fOp ltA (fOp ixD (fVar 0) (fVar 5)) (fVar 3))) (fOp addD (fIxO 1 (fVar 5)) (fC (.int (1))))
          [some (.tup (nD r)), some (.lst (nD (colTUp r i))), some (.int (i : Int)), some (.int ((r.getD i 0 : Nat) : Int)), y4, none] s = .ok (nD (col1T r (colTUp r i) i)) s := by
        refine Eq.trans (lc_of (s1 := s) (List.range i) (fun (o : Nat) => D.int (o : Int)) (fun o => D.int (((colTUp r i).getD o 0 + 1 : Nat) : Int)) (fun o => decide (r.getD o 0 < r.getD i 0)) (rg1_n (cons_ok (var_ok rfl) nil_ok) (by omega)) (by rw [List.length_range]; omega) fun o ho => ?_) ?_
        · have ho := List.mem_range.mp ho
          refine ⟨[some (.tup (nD r)), some (.lst (nD (colTUp r i))), some (.int (i : Int)), some (.int ((r.getD i 0 : Nat) : Int)), y4, some (.int (o : Int))], rfl, ?_, fun _ => ?_⟩
          · exact tr_ok (op_ok (op_ok (var_ok rfl) (var_ok rfl) (ixD_nT (by omega))) (var_ok rfl) (lt_nn _ _))
          · refine op_ok (x := .int (((colTUp r i).getD o 0 : Nat) : Int)) ?_ c_ok rfl
            exact ixO_ok (l := nD (colTUp r i)) rfl (var_ok rfl) (atI_n (by omega))
        · unfold col1T nD
          rw [List.map_map]
          rfl
      refine ⟨[some (.tup (nD r)), some (.lst (nD (colTUp r i))), some (.int (i : Int)), some (.int ((r.getD i 0 : Nat) : Int)), y4, none], rfl, [some (.tup (nD r)), some (.lst (nD (colTUp r (i + 1)))), some (.int (i : Int)), some (.int ((r.getD i 0 : Nat) : Int)), some (.lst (nD (col1T r (colTUp r i) i))), none], ?_, _, _, _, rfl⟩
      refine then_ok (ρ1 := [some (.tup (nD r)), some (.lst (nD (colTUp r i))), some (.int (i : Int)), some (.int ((r.getD i 0 : Nat) : Int)), some (.lst (nD (col1T r (colTUp r i) i))), none]) (s1 := s) (setF_ok lc) ?_
      have ap := app_ok (i := 1) (f := fOp maxDf (fVar 4) (fC (.int (0)))) (ρ := [some (.tup (nD r)), some (.lst (nD (colTUp r i))), some (.int (i : Int)), some (.int ((r.getD i 0 : Nat) : Int)), some (.lst (nD (col1T r (colTUp r i) i))), none]) (s := s) (s1 := s) (l := nD (colTUp r i)) rfl (op_ok (var_ok rfl) c_ok (mx_n _)) (by rw [nD_len]; omega)
      rw [show nD (colTUp r (i + 1)) = nD (colTUp r i) ++ [.int ((mxN (col1T r (colTUp r i) i) : Nat) : Int)] from nD_app _ _]
      exact ap
  rw [List.length_range] at e
  refine fn_rt ?_
  refine then_ok (ρ1 := [some (.tup (nD r)), some (.lst (nD [])), none, none, none, none]) (s1 := s) (setF_ok (fF_ok nil_ok sz0)) ?_
  refine then_ok (ρ1 := [some (.tup (nD r)), some (.lst (nD (colT r))), y2, y3, y4, none]) (s1 := s) ((for_ok (l := (List.range r.length).map fun (i : Nat) => D.tup0 [.int (i : Int), .int ((r.getD i 0 : Nat) : Int)]) ?_).trans e) (ret_ok (call_ok (cons_ok (var_ok rfl) nil_ok) rfl))
  unfold fEnum bnd
  rw [cons_ok (f := fVar 0) (g := fNil) (var_ok (d := .tup (nD r)) rfl) nil_ok]
  simp only [lift, seqOf, Option.map_some, enum_n]
theorem tie_colours_w {x : D} {r : List Nat} (hx : Sqn x r) (hr : IsT r) (s : BS) : f_tie_colours [x] s = .ok (.tup (nD (colT r))) s :=
  fn_rt (ret_ok (own_ok (cons_ok (own_ok (cons_ok (var_ok rfl) (cons_ok c_ok nil_ok)) rfl (need_ties_w hx hr s)) nil_ok) rfl (end_colours_w (by have := hr.small; omega) s)))
end My

namespace My
open PySem PySem.Spec PyProof.Rows L2 Dm
/-! a longest rise -/
theorem colT_ne {r : List Nat} (h : IsT r) : colT r ≠ [] := fun e => by
  have := colT_len r
  have := h.small
  rw [e] at *
  simp at *
  omega
theorem rl_col {r : List Nat} (h : IsT r) : ∀ j, j ≤ mxN (colT r) → rlN r j < r.length ∧ (colT r).getD (rlN r j) 0 = mxN (colT r) - j ∧ (j < mxN (colT r) → befT r (rlN r j) ≠ [])
  | 0, _ => by
    have k := tOk h
    have hi : rlN r 0 < r.length := k.ix
    have hc : (colT r).getD (rlN r 0) 0 = mxN (colT r) := by
      have hi2 : (colT r).idxOf (mxN (colT r)) < (colT r).length := by rw [colT_len]; exact k.ix
      show (colT r).getD ((colT r).idxOf (mxN (colT r))) 0 = _
      rw [List.getD_eq_getElem?_getD, List.getElem?_eq_getElem hi2]
      exact List.getElem_idxOf hi2
    exact ⟨hi, by rw [hc, Nat.sub_zero], fun h => (k.bef _ hi).resolve_left (by rw [hc]; omega)⟩
  | j + 1, hj => by
    have k := tOk h
    obtain ⟨h1, h2, h3⟩ := rl_col h j (by omega)
    have ne := h3 (by omega)
    have m : rlN r (j + 1) ∈ befT r (rlN r j) := by
      show (befT r (rlN r j)).getD 0 0 ∈ _
      cases e : befT r (rlN r j) with
      | nil => exact absurd e ne
      | cons x l => exact List.mem_cons_self
    unfold befT at m
    obtain ⟨m1, m2⟩ := List.mem_filter.mp m
    rw [Bool.and_eq_true, decide_eq_true_eq, decide_eq_true_eq] at m2
    have m1 := List.mem_range.mp m1
    have hc : (colT r).getD (rlN r (j + 1)) 0 = mxN (colT r) - (j + 1) := by
      have := m2.2
      omega
    exact ⟨by omega, hc, fun h => (k.bef _ (by omega)).resolve_left (by rw [hc]; omega)⟩
abbrev wT : Dm.Env → M Bool := (fTr (fOp gtD (fOp ixD (fVar 1) (fIxO 2 (fUn negD (fC (.int (1)))))) (fC (.int (0)))))
abbrev wBd : Dm.Env → M Out := (fThen (fSet 3 (fIxO 2 (fUn negD (fC (.int (1)))))) (fThen (fSetF 4 (fLc
    [5] (fRg1 (fCons (fVar 3) fNil)) (gNm 5) (fAndT (fTr (fOp ltA (fOp ixD (fVar 0) (fVar 5)) (fOp ixD (fVar 0) (fVar 3)))) (fTr (fOp eqD (fOp ixD (fVar 1) (fVar 5)) (fOp
    subD (fOp ixD (fVar 1) (fVar 3)) (fC (.int (1))))))) (fVar 5))) (fApp 2 (fIxO 4 (fC (.int (0)))))))
abbrev fE (r : List Nat) (j : Nat) (y3 y4 : Option D) : Dm.Env := [some (.tup (nD r)), some (.tup (nD (colT r))), some (.lst (nD ((List.range j).map (rlN r) ++ [rlN r j]))), y3, y4, none]
theorem rise_loop {r : List Nat} (hr : IsT r) (s : BS) : ∀ (k j : Nat) (y3 y4 : Option D) (fuel : Nat), j + k = mxN (colT r) → k < fuel → mxN (colT r) ≤ 1000 →
    ∃ y3' y4', loopW wT wBd fuel (fE r j y3 y4) s = .ok (.nx (fE r (mxN (colT r)) y3' y4')) s
  | k, j, y3, y4, 0, _, hf, _ => by omega
  | k, j, y3, y4, fuel + 1, hj, hf, hm => by
    obtain ⟨h1, h2, h3⟩ := rl_col hr j (by omega)
    have cl : (colT r).length = r.length := colT_len r
    have l6 := hr.small
    have lastv : ∀ y3 y4, fIxO 2 (fUn negD (fC (.int (1)))) (fE r j y3 y4) s = .ok (.int ((rlN r j : Nat) : Int)) s := fun y3 y4 => ixO_ok (l := nD ((List.range j).map (rlN r) ++ [rlN r j])) rfl (un_ok c_ok rfl) (last_n _ _)
    have t : wT (fE r j y3 y4) s = .ok (decide (0 < (colT r).getD (rlN r j) 0)) s := tr_ok (op_ok (op_ok (var_ok rfl) (lastv y3 y4) (ixD_nT (by omega))) c_ok (gt_n _ 0))
    match k with
    | 0 =>
      rw [decide_eq_false (by omega)] at t
      refine ⟨y3, y4, ?_⟩
      rw [show mxN (colT r) = j by omega]
      simp only [loopW, t]
    | k + 1 =>
      rw [decide_eq_true (by omega)] at t
      have ne := h3 (by omega)
      let ρ1 : Dm.Env := [some (.tup (nD r)), some (.tup (nD (colT r))), some (.lst (nD ((List.range j).map (rlN r) ++ [rlN r j]))), some (.int ((rlN r j : Nat) : Int)), y4, none]
      let ρ2 : Dm.Env := [some (.tup (nD r)), some (.tup (nD (colT r))), some (.lst (nD ((List.range j).map (rlN r) ++ [rlN r j]))), some (.int ((rlN r j : Nat) : Int)), some (.lst (nD (befT r (rlN r j)))), none]
      have lc : fLc [5] (fRg1 (fCons (fVar 3) fNil)) (gNm 5) (fAndT (fTr (fOp ltA (fOp ixD (fVar 0) (fVar 5)) (fOp ixD (fVar 0) (fVar 3)))) (fTr (fOp eqD (fOp ixD (fVar 1) (fVar 5)) (fOp
          subD (fOp ixD (fVar 1) (fVar 3)) (fC (.int (1))))))) (fVar 5) ρ1 s = .ok (nD (befT r (rlN r j))) s := by
        refine lc_of (s1 := s) (List.range (rlN r j)) (fun (o : Nat) => D.int (o : Int)) (fun (o : Nat) => D.int (o : Int)) (fun o => decide (r.getD o 0 < r.getD (rlN r j) 0) && decide ((colT r).getD o 0 + 1 = (colT r).getD (rlN r j) 0)) (rg1_n (cons_ok (var_ok rfl) nil_ok) (by omega)) (by rw [List.length_range]; omega) fun o ho => ?_
        have ho := List.mem_range.mp ho
        let ρo : Dm.Env := [some (.tup (nD r)), some (.tup (nD (colT r))), some (.lst (nD ((List.range j).map (rlN r) ++ [rlN r j]))), some (.int ((rlN r j : Nat) : Int)), y4, some (.int (o : Int))]
        refine ⟨ρo, rfl, ?_, fun _ => var_ok rfl⟩
        have a1 : fTr (fOp ltA (fOp ixD (fVar 0) (fVar 5)) (fOp ixD (fVar 0) (fVar 3))) ρo s = .ok (decide (r.getD o 0 < r.getD (rlN r j) 0)) s := tr_ok (op_ok (op_ok (var_ok rfl) (var_ok rfl) (ixD_nT (by omega))) (op_ok (var_ok rfl) (var_ok rfl) (ixD_nT (by omega))) (lt_nn _ _))
        have a2 : fTr (fOp eqD (fOp ixD (fVar 1) (fVar 5)) (fOp subD (fOp ixD (fVar 1) (fVar 3)) (fC (.int (1))))) ρo s = .ok (decide ((colT r).getD o 0 + 1 = (colT r).getD (rlN r j) 0)) s := by
          refine tr_ok (op_ok (op_ok (var_ok rfl) (var_ok rfl) (ixD_nT (by omega))) (op_ok (op_ok (var_ok rfl) (var_ok rfl) (ixD_nT (by omega))) c_ok rfl) ?_)
          rw [eqI]
          refine congrArg (fun b => some (D.bl b)) ?_
          by_cases c : (colT r).getD o 0 + 1 = (colT r).getD (rlN r j) 0
          · rw [decide_eq_true c, decide_eq_true (by omega)]
          · rw [decide_eq_false c, decide_eq_false (by omega)]
        by_cases c : r.getD o 0 < r.getD (rlN r j) 0
        · rw [decide_eq_true c] at a1 ⊢
          exact and_tt a1 a2
        · rw [decide_eq_false c] at a1 ⊢
          exact and_f a1
      have first : atI (nD (befT r (rlN r j))) 0 = some (.int ((rlN r (j + 1) : Nat) : Int)) := atI_n (b := befT r (rlN r j)) (x := 0) (List.length_pos_iff.mpr ne)
      have bd : wBd (fE r j y3 y4) s = .ok (.nx (fE r (j + 1) (some (.int ((rlN r j : Nat) : Int))) (some (.lst (nD (befT r (rlN r j))))))) s := by
        refine then_ok (ρ1 := ρ1) (s1 := s) (set_ok (lastv y3 y4)) (then_ok (ρ1 := ρ2) (s1 := s) (setF_ok lc) ?_)
        have ap := app_ok (i := 2) (f := fIxO 4 (fC (.int (0)))) (ρ := ρ2) (s := s) (s1 := s) (l := nD ((List.range j).map (rlN r) ++ [rlN r j])) rfl (ixO_ok (l := nD (befT r (rlN r j))) rfl c_ok first) (by
          rw [nD_len, List.length_append, List.length_map, List.length_range]
          show j + 1 ≤ _
          omega)
        have e : nD ((List.range (j + 1)).map (rlN r) ++ [rlN r (j + 1)]) = nD ((List.range j).map (rlN r) ++ [rlN r j]) ++ [.int ((rlN r (j + 1) : Nat) : Int)] := by
          rw [List.range_succ, List.map_append, nD_app]
          rfl
        show _ = Res.ok (Out.nx [some (.tup (nD r)), some (.tup (nD (colT r))), some (.lst (nD ((List.range (j + 1)).map (rlN r) ++ [rlN r (j + 1)]))), some (.int ((rlN r j : Nat) : Int)), some (.lst (nD (befT r (rlN r j)))), none]) s
        rw [e]
        exact ap
      obtain ⟨y3', y4', e⟩ := rise_loop hr s k (j + 1) (some (.int ((rlN r j : Nat) : Int))) (some (.lst (nD (befT r (rlN r j))))) fuel (by omega) (by omega) hm
      refine ⟨y3', y4', ?_⟩
      rw [← e]
      simp only [loopW, t, bd]
theorem riseT_len (r : List Nat) : (riseT r).length = mxN (colT r) + 1 := by
  unfold riseT
  rw [List.length_reverse, List.length_map, List.length_range]
theorem rise_facts {r told : List Nat} {many : Nat} (h : riseOk r told many = true) : told.length = many ∧ (∀ e ∈ told, e < r.length) ∧ ∀ p ∈ told.zip (told.drop 1), p.1 < p.2 ∧ r.getD p.1 0 < r.getD p.2 0 := by
  unfold riseOk at h
  rw [Bool.and_eq_true, Bool.and_eq_true] at h
  refine ⟨of_decide_eq_true h.1.1, fun e he => of_decide_eq_true (List.all_eq_true.mp h.1.2 e he), fun p hp => ?_⟩
  have z := List.all_eq_true.mp h.2 p hp
  rw [Bool.and_eq_true] at z
  exact ⟨of_decide_eq_true z.1, of_decide_eq_true z.2⟩
theorem asc_len : ∀ (l : List Nat) (k n : Nat), l.Pairwise (· < ·) → (∀ e ∈ l, k ≤ e ∧ e < n) → k ≤ n → l.length + k ≤ n
  | [], k, n, _, _, h => by
    show 0 + k ≤ n
    omega
  | x :: l, k, n, pw, h, _ => by
    have hx := h x List.mem_cons_self
    have ih := asc_len l (x + 1) n (List.Pairwise.of_cons pw) (fun e he => ⟨List.rel_of_pairwise_cons pw he, (h e (List.mem_cons_of_mem _ he)).2⟩) (by omega)
    rw [List.length_cons]
    omega
theorem long_small {r : List Nat} (hr : IsT r) : longT r ≤ 10 := by
  have ok := tOk hr
  have sm := hr.small
  have inc : ∀ (l : List Nat) (n : Nat), (∀ e ∈ l, e < n) → (∀ p ∈ l.zip (l.drop 1), p.1 < p.2) → l.length ≤ n := by
    intro l n h1 h2
    have pw : l.Pairwise (· < ·) := by
      clear h1
      induction l with
      | nil => exact .nil
      | cons x l ih =>
        have t := ih fun p hp => h2 p (by
          cases l with
          | nil => cases hp
          | cons y l => exact List.mem_cons_of_mem _ hp)
        refine List.pairwise_cons.mpr ⟨fun y hy => ?_, t⟩
        cases l with
        | nil => cases hy
        | cons z l =>
          have a := h2 (x, z) List.mem_cons_self
          rcases List.mem_cons.mp hy with rfl | hy
          · exact a
          · exact Nat.lt_trans a (List.rel_of_pairwise_cons t hy)
    have := asc_len l 0 n pw (fun e he => ⟨Nat.zero_le _, h1 e he⟩) (Nat.zero_le _)
    omega
  obtain ⟨h1, h2, h3⟩ := rise_facts ok.rise
  have := inc (riseT r) r.length h2 fun p hp => (h3 p hp).1
  omega
theorem rise_of_w {r : List Nat} (hr : IsT r) (s : BS) : f_rise_of [.tup (nD r)] s = .ok (.tup (nD (riseT r))) s := by
  have k := tOk hr
  have sm := hr.small
  have ls := long_small hr
  have mk := k.most
  have ne := colT_ne hr
  have e1 := end_colours_w (r := r) (by omega) s
  obtain ⟨y3, y4, e2⟩ := rise_loop hr s (mxN (colT r)) 0 none none 1000 (by omega) (by omega) (by omega)
  have mem : mxN (colT r) ∈ colT r := by
    have := k.ix
    rw [← colT_len r] at this
    exact List.idxOf_lt_length_iff.mp this
  refine fn_rt ?_
  refine then_ok (ρ1 := [some (.tup (nD r)), some (.tup (nD (colT r))), none, none, none, none]) (s1 := s) (set_ok (own_ok (cons_ok (var_ok rfl) nil_ok) rfl e1)) ?_
  refine then_ok (ρ1 := fE r 0 none none) (s1 := s) (setF_ok (fF_ok (cons_ok (idx_n mem (var_ok rfl) (cons_ok (call_ok (cons_ok (var_ok rfl) nil_ok) (max_n ne)) nil_ok)) nil_ok) sz1)) ?_
  refine then_ok e2 (ret_ok (call_ok (cons_ok (un_ok (var_ok rfl) (z := .lst (nD ((List.range (mxN (colT r))).map (rlN r) ++ [rlN r (mxN (colT r))])).reverse) rfl) nil_ok) ?_))
  show some (D.tup (nD ((List.range (mxN (colT r))).map (rlN r) ++ [rlN r (mxN (colT r))])).reverse) = some (D.tup (nD (riseT r)))
  unfold riseT
  rw [List.range_succ, List.map_append]
  unfold nD
  rw [← List.map_reverse]
  rfl
theorem longest_rise_w {x : D} {r : List Nat} (hx : Sqn x r) (hr : IsT r) (s : BS) : f_longest_rise [x] s = .ok (.tup (nD (riseT r))) s :=
  fn_rt (ret_ok (own_ok (cons_ok (own_ok (cons_ok (var_ok rfl) (cons_ok c_ok nil_ok)) rfl (need_ties_w hx hr s)) nil_ok) rfl (rise_of_w hr s)))
end My

namespace My
open PySem PySem.Spec PyProof.Rows L2 Dm
/-! a rise beyond a size -/
def rD (F : List (List Nat)) : List D := F.map fun l => .tup (nD l)
theorem rD_len (F : List (List Nat)) : (rD F).length = F.length := by
  unfold rD
  rw [List.length_map]
theorem slT_take (l : List Nat) {size : Int} (h : 0 ≤ size) : slD (.tup (nD l)) none (some size) = some (.tup (nD (l.take size.toNat))) := by
  show some (D.tup (Dm.cutD (nD l) none (some size))) = _
  unfold Dm.cutD
  show some (D.tup (((nD l).drop 0).take ((if size < 0 then (size + ((nD l).length : Int)).toNat else min size.toNat (nD l).length) - 0))) = _
  rw [if_neg (by omega), List.drop_zero, Nat.sub_zero, nD_len]
  unfold nD
  rw [List.map_take]
  congr 2
  by_cases c : size.toNat ≤ l.length
  · rw [Nat.min_eq_left c]
  · rw [Nat.min_eq_right (by omega), List.take_of_length_le (by rw [List.length_map]; omega), List.take_of_length_le (by rw [List.length_map]; omega)]
theorem getLastD_mem : ∀ {l : List Nat}, l ≠ [] → l.getLastD 0 ∈ l
  | [], h => absurd rfl h
  | x :: l, _ => List.getLast_mem (List.cons_ne_nil x l)
theorem eqD_nil (l : List Nat) : eqD (.tup (nD l)) (.tup []) = some (.bl (decide (l = []))) := eqD_nT l []
theorem lastT_n {l : List Nat} (h : l ≠ []) : ixD (.tup (nD l)) (.int (-1)) = some (.int ((l.getLastD 0 : Nat) : Int)) := lastD_n h
abbrev cntB : Dm.Env → M Out := (fIf (fTr (fOp ltA (fVar 8) (fVar 6))) (fSet 7 (fOp iaddD (fVar 7) (fC (.int (1))))) fSkip)
theorem count_loop {x0 x1 x2 x3 x4 x5 y9 : Option D} {p : Nat} (s : BS) : ∀ (l : List Nat) (c : Nat) (y8 : Option D),
    ∃ y8', loopL (gNm 8) cntB (nD l) [x0, x1, x2, x3, x4, x5, some (.int (p : Int)), some (.int (c : Int)), y8, y9] s = .ok (.nx [x0, x1, x2, x3, x4, x5, some (.int (p : Int)), some (.int ((c + (l.filter fun x => decide (x < p)).length : Nat) : Int)), y8', y9]) s
  | [], c, y8 => ⟨y8, rfl⟩
  | x :: l, c, y8 => by
    have t : fTr (fOp ltA (fVar 8) (fVar 6)) [x0, x1, x2, x3, x4, x5, some (.int (p : Int)), some (.int (c : Int)), some (.int (x : Int)), y9] s = .ok (decide (x < p)) s := tr_ok (op_ok (var_ok rfl) (var_ok rfl) (lt_nn _ _))
    by_cases h : x < p
    · rw [decide_eq_true h] at t
      have bd : cntB [x0, x1, x2, x3, x4, x5, some (.int (p : Int)), some (.int (c : Int)), some (.int (x : Int)), y9] s = .ok (.nx [x0, x1, x2, x3, x4, x5, some (.int (p : Int)), some (.int ((c + 1 : Nat) : Int)), some (.int (x : Int)), y9]) s := ifT_ok t (set_ok (op_ok (var_ok rfl) c_ok rfl))
      obtain ⟨y8', e⟩ := count_loop s l (c + 1) (some (.int (x : Int)))
      refine ⟨y8', ?_⟩
      show loopL (gNm 8) cntB (.int (x : Int) :: nD l) _ s = _
      rw [loopL]
      simp only [show gNm 8 (D.int (x : Int)) [x0, x1, x2, x3, x4, x5, some (.int (p : Int)), some (.int (c : Int)), y8, y9] = some [x0, x1, x2, x3, x4, x5, some (.int (p : Int)), some (.int (c : Int)), some (.int (x : Int)), y9] from rfl, bd]
      rw [e, List.filter_cons_of_pos (by simpa using h), List.length_cons, show c + ((l.filter fun x => decide (x < p)).length + 1) = c + 1 + (l.filter fun x => decide (x < p)).length by omega]
    · rw [decide_eq_false h] at t
      have bd : cntB [x0, x1, x2, x3, x4, x5, some (.int (p : Int)), some (.int (c : Int)), some (.int (x : Int)), y9] s = .ok (.nx [x0, x1, x2, x3, x4, x5, some (.int (p : Int)), some (.int (c : Int)), some (.int (x : Int)), y9]) s := skip_ok t
      obtain ⟨y8', e⟩ := count_loop s l c (some (.int (x : Int)))
      refine ⟨y8', ?_⟩
      show loopL (gNm 8) cntB (.int (x : Int) :: nD l) _ s = _
      rw [loopL]
      simp only [show gNm 8 (D.int (x : Int)) [x0, x1, x2, x3, x4, x5, some (.int (p : Int)), some (.int (c : Int)), y8, y9] = some [x0, x1, x2, x3, x4, x5, some (.int (p : Int)), some (.int (c : Int)), some (.int (x : Int)), y9] from rfl, bd]
      rw [e, List.filter_cons_of_neg (by simpa using h)]
structure RbOk (i : Nat) (s : RbS) : Prop where
  len : s.rises.length = s.lasts.length
  le : s.lasts.length ≤ i
  each : ∀ l ∈ s.rises, l.length ≤ i
theorem rbStep_ok {r : List Nat} {size : Int} {i e : Nat} {s : RbS} (h : RbOk i s) : RbOk (i + 1) (rbStep r size s e) := by
  unfold rbStep
  split
  · have ml : (s.lasts.filter fun x => decide (x < r.getD e 0)).length ≤ s.lasts.length := List.length_filter_le _ _
    have h1 := h.len
    have h2 := h.le
    refine ⟨?_, ?_, fun l hl => ?_⟩
    · simp only [List.length_append, List.length_take, List.length_drop, List.length_singleton]
      omega
    · simp only [List.length_append, List.length_take, List.length_drop, List.length_singleton]
      omega
    · simp only [List.mem_append, List.mem_singleton] at hl
      rcases hl with (hl | hl) | hl
      · have := h.each l (List.mem_of_mem_take hl)
        omega
      · subst hl
        split
        · next hm =>
          rw [List.length_append]
          have lt : (s.lasts.filter fun x => decide (x < r.getD e 0)).length - 1 < s.rises.length := by omega
          have := h.each (s.rises.getD ((s.lasts.filter fun x => decide (x < r.getD e 0)).length - 1) []) (by
            rw [List.getD_eq_getElem?_getD, List.getElem?_eq_getElem lt]
            exact List.getElem_mem lt)
          show _ + 1 ≤ _
          omega
        · show 1 ≤ _
          omega
      · have := h.each l (List.mem_of_mem_drop hl)
        omega
  · exact ⟨h.len, Nat.le_succ_of_le h.le, fun l hl => Nat.le_succ_of_le (h.each l hl)⟩
theorem rbUp_ok (r : List Nat) (size : Int) : ∀ i, RbOk i (rbUp r size i)
  | 0 => ⟨rfl, Nat.le_refl _, fun _ h => nomatch h⟩
  | i + 1 => rbStep_ok (rbUp_ok r size i)
/-- far sizes: none is beyond -/
theorem rb_far {r : List Nat} (hr : IsT r) {size : Int} (h : 9 ≤ size) : ∀ i, i ≤ r.length → (rbUp r size i).found = []
  | 0, _ => rfl
  | i + 1, hi => by
    have ih := rb_far hr h i (by omega)
    have ok := rbUp_ok r size i
    have sm := hr.small
    have lt := hr.lt (i := i) (by omega)
    show (rbStep r size (rbUp r size i) i).found = []
    unfold rbStep
    split
    · next c =>
      have ml : ((rbUp r size i).lasts.filter fun x => decide (x < r.getD i 0)).length ≤ (rbUp r size i).lasts.length := List.length_filter_le _ _
      have := ok.le
      show (if _ then _ else (rbUp r size i).found) = []
      rw [if_neg (fun z => by have := z.1; omega), ih]
    · exact ih
abbrev bB : Dm.Env → M Out := (fIf (fTr (fOp ltA (fVar 5) (fVar 6))) (fThen (fSet 7 (fC (.int (0)))) (fThen (fForO 3 (gNm 8) cntB) (fThen (fSet 9 (fIf (fTr (fOp gtD (fVar 7) (fC (.int (0))))) (fOp addD (fIxO 2 (fOp subD (fVar 7) (fC (.int (1))))) (fTup (fCons
    (fVar 5) fNil))) (fTup (fCons (fVar 5) fNil)))) (fThen (fSetSl 2 (fVar 7) (fOp addD (fVar 7) (fC (.int (1)))) (fLst (fCons (fVar 9) fNil))) (fThen (fSetSl 3 (fVar 7)
    (fOp addD (fVar 7) (fC (.int (1)))) (fLst (fCons (fVar 6) fNil))) (fIf (fAndT (fTr (fOp geD (fVar 7) (fVar 1))) (fOrT (fTr (fOp eqD (fVar 4) (fTup fNil))) (fTr (fOp
    ltA (fOp ixD (fVar 0) (fOp ixD (fVar 4) (fUn negD (fC (.int (1)))))) (fVar 6))))) (fSet 4 (fOp addD (fSl (fVar 9) fPartN (fPart (fVar 1))) (fTup (fCons (fVar 5)
    fNil)))) fSkip)))))) fSkip)
abbrev bE (r : List Nat) (size : Int) (t : RbS) (y5 y6 y7 y8 y9 : Option D) : Dm.Env := [some (.tup (nD r)), some (.int size), some (.lst (rD t.rises)), some (.lst (nD t.lasts)), some (.tup (nD t.found)), y5, y6, y7, y8, y9]
theorem rb_found {r : List Nat} {size : Int} : ∀ i, i ≤ r.length → ∀ x ∈ (rbUp r size i).found, x < r.length := by
  have main : ∀ i, i ≤ r.length → (∀ l ∈ (rbUp r size i).rises, ∀ x ∈ l, x < r.length) ∧ ∀ x ∈ (rbUp r size i).found, x < r.length := by
    intro i
    induction i with
    | zero => exact fun _ => ⟨fun _ h => (nomatch h), fun _ h => nomatch h⟩
    | succ i ih =>
      intro hi
      obtain ⟨h1, h2⟩ := ih (by omega)
      have ok := rbUp_ok r size i
      show (∀ l ∈ (rbStep r size (rbUp r size i) i).rises, _) ∧ ∀ x ∈ (rbStep r size (rbUp r size i) i).found, _
      unfold rbStep
      split
      · have ml : ((rbUp r size i).lasts.filter fun x => decide (x < r.getD i 0)).length ≤ (rbUp r size i).lasts.length := List.length_filter_le _ _
        have e1 := ok.len
        have rise : ∀ x ∈ (if 0 < ((rbUp r size i).lasts.filter fun x => decide (x < r.getD i 0)).length then (rbUp r size i).rises.getD (((rbUp r size i).lasts.filter fun x => decide (x < r.getD i 0)).length - 1) [] ++ [i] else [i]), x < r.length := by
          intro x hx
          split at hx
          · next hm =>
            rcases List.mem_append.mp hx with hx | hx
            · have lt : ((rbUp r size i).lasts.filter fun x => decide (x < r.getD i 0)).length - 1 < (rbUp r size i).rises.length := by omega
              refine h1 _ ?_ x hx
              rw [List.getD_eq_getElem?_getD, List.getElem?_eq_getElem lt]
              exact List.getElem_mem lt
            · rw [List.mem_singleton.mp hx]
              omega
          · rw [List.mem_singleton.mp hx]
            omega
        refine ⟨fun l hl x hx => ?_, fun x hx => ?_⟩
        · simp only [List.mem_append, List.mem_singleton] at hl
          rcases hl with (hl | hl) | hl
          · exact h1 l (List.mem_of_mem_take hl) x hx
          · subst hl
            exact rise x hx
          · exact h1 l (List.mem_of_mem_drop hl) x hx
        · have hx : x ∈ (if size ≤ (((rbUp r size i).lasts.filter fun x => decide (x < r.getD i 0)).length : Int) ∧ ((rbUp r size i).found = [] ∨ r.getD ((rbUp r size i).found.getLastD 0) 0 < r.getD i 0) then (if 0 < ((rbUp r size i).lasts.filter fun x => decide (x < r.getD i 0)).length then (rbUp r size i).rises.getD (((rbUp r size i).lasts.filter fun x => decide (x < r.getD i 0)).length - 1) [] ++ [i] else [i]).take size.toNat ++ [i] else (rbUp r size i).found) := hx
          split at hx
          · rcases List.mem_append.mp hx with hx | hx
            · exact rise x (List.mem_of_mem_take hx)
            · rw [List.mem_singleton.mp hx]
              omega
          · exact h2 x hx
      · exact ⟨h1, h2⟩
  exact fun i hi => (main i hi).2
theorem rb_step {r : List Nat} {size : Int} (hs : 1 ≤ size) (hl : r.length ≤ 900) {i : Nat} (hi : i < r.length) {y7 y8 y9 : Option D} (s : BS) :
    ∃ y7' y8' y9', bB (bE r size (rbUp r size i) (some (.int (i : Int))) (some (.int ((r.getD i 0 : Nat) : Int))) y7 y8 y9) s = .ok (.nx (bE r size (rbUp r size (i + 1)) (some (.int (i : Int))) (some (.int ((r.getD i 0 : Nat) : Int))) y7' y8' y9')) s := by
  have ok := rbUp_ok r size i
  have fl := rb_found (r := r) (size := size) i (by omega)
  have up : rbUp r size (i + 1) = rbStep r size (rbUp r size i) i := rfl
  rw [up]
  generalize rbUp r size i = t at *
  have t0 : fTr (fOp ltA (fVar 5) (fVar 6)) (bE r size t (some (.int (i : Int))) (some (.int ((r.getD i 0 : Nat) : Int))) y7 y8 y9) s = .ok (decide (i < r.getD i 0)) s := tr_ok (op_ok (var_ok rfl) (var_ok rfl) (lt_nn _ _))
  unfold rbStep
  by_cases c : i < r.getD i 0
  · rw [decide_eq_true c] at t0
    rw [if_pos c]
    have e1 := ok.len
    have e2 := ok.le
    obtain ⟨y8', ec⟩ := count_loop (x0 := some (.tup (nD r))) (x1 := some (.int size)) (x2 := some (.lst (rD t.rises))) (x3 := some (.lst (nD t.lasts))) (x4 := some (.tup (nD t.found))) (x5 := some (.int (i : Int))) (y9 := y9) (p := r.getD i 0) s t.lasts 0 y8
    rw [Nat.zero_add] at ec
    have ml : (t.lasts.filter fun x => decide (x < r.getD i 0)).length ≤ t.lasts.length := List.length_filter_le _ _
    generalize (t.lasts.filter fun x => decide (x < r.getD i 0)).length = many at *
    let rise : List Nat := if 0 < many then t.rises.getD (many - 1) [] ++ [i] else [i]
    have lr : rise.length ≤ i + 1 := by
      show (if 0 < many then _ else _ : List Nat).length ≤ _
      split
      · next hm =>
        have lt : many - 1 < t.rises.length := by omega
        rw [List.length_append]
        have := ok.each (t.rises.getD (many - 1) []) (by
          rw [List.getD_eq_getElem?_getD, List.getElem?_eq_getElem lt]
          exact List.getElem_mem lt)
        show _ + 1 ≤ _
        omega
      · show 1 ≤ _
        omega
    let E : RbS → Option D → Dm.Env := fun t y9 => bE r size t (some (.int (i : Int))) (some (.int ((r.getD i 0 : Nat) : Int))) (some (.int (many : Int))) y8' y9
    have st9 : fSet 9 (fIf (fTr (fOp gtD (fVar 7) (fC (.int (0))))) (fOp addD (fIxO 2 (fOp subD (fVar 7) (fC (.int (1))))) (fTup (fCons
        (fVar 5) fNil))) (fTup (fCons (fVar 5) fNil))) (E t y9) s = .ok (.nx (E t (some (.tup (nD rise))))) s := by
      have tg : fTr (fOp gtD (fVar 7) (fC (.int (0)))) (E t y9) s = .ok (decide (0 < many)) s := tr_ok (op_ok (var_ok rfl) c_ok (gt_n many 0))
      refine set_ok ?_
      by_cases hm : 0 < many
      · rw [decide_eq_true hm] at tg
        have lt : many - 1 < t.rises.length := by omega
        have er : rise = t.rises.getD (many - 1) [] ++ [i] := if_pos hm
        rw [er]
        refine ifT_ok tg (op_ok (x := .tup (nD (t.rises.getD (many - 1) []))) (y := .tup (nD [i])) (ixO_ok (l := rD t.rises) (k := ((many - 1 : Nat) : Int)) rfl (op_ok (var_ok rfl) c_ok (by show some (D.int ((many : Int) - 1)) = _; rw [show ((many : Int) - 1) = ((many - 1 : Nat) : Int) by omega])) (atI_nat ?_)) (tup_ok (cons_ok (var_ok rfl) nil_ok) sz1) ?_)
        · unfold rD
          rw [List.getElem?_map, List.getElem?_eq_getElem lt, List.getD_eq_getElem?_getD, List.getElem?_eq_getElem lt]
          rfl
        · refine add_nT ?_
          have := lr
          rw [er, List.length_append] at this
          omega
      · rw [decide_eq_false hm] at tg
        have er : rise = [i] := if_neg hm
        rw [er]
        exact ifF_ok tg (tup_ok (cons_ok (var_ok rfl) nil_ok) sz1)
    let t1 : RbS := ⟨t.rises.take many ++ [rise] ++ t.rises.drop (many + 1), t.lasts, t.found⟩
    let t2 : RbS := ⟨t.rises.take many ++ [rise] ++ t.rises.drop (many + 1), t.lasts.take many ++ [r.getD i 0] ++ t.lasts.drop (many + 1), t.found⟩
    have s1 : fSetSl 2 (fVar 7) (fOp addD (fVar 7) (fC (.int (1)))) (fLst (fCons (fVar 9) fNil)) (E t (some (.tup (nD rise)))) s = .ok (.nx (E t1 (some (.tup (nD rise))))) s := by
      have z := setSl_ok (i := 2) (fa := fVar 7) (fc := fOp addD (fVar 7) (fC (.int (1)))) (fv := fLst (fCons (fVar 9) fNil)) (ρ := E t (some (.tup (nD rise)))) (s := s) (l := rD t.rises) (m := [.tup (nD rise)]) (a := many) (c := many + 1) (lst_ok (cons_ok (var_ok rfl) nil_ok) sz1) rfl (var_ok rfl) (op_ok (var_ok rfl) c_ok rfl) (by rw [rD_len]; omega) (by omega) (by rw [rD_len]; show t.rises.length + 1 ≤ _; omega)
      have e : rD (t.rises.take many ++ [rise] ++ t.rises.drop (many + 1)) = (rD t.rises).take many ++ [.tup (nD rise)] ++ (rD t.rises).drop (many + 1) := by
        unfold rD
        rw [List.map_append, List.map_append, List.map_take, List.map_drop]
        rfl
      show _ = Res.ok (Out.nx [some (.tup (nD r)), some (.int size), some (.lst (rD (t.rises.take many ++ [rise] ++ t.rises.drop (many + 1)))), some (.lst (nD t.lasts)), some (.tup (nD t.found)), some (.int (i : Int)), some (.int ((r.getD i 0 : Nat) : Int)), some (.int (many : Int)), y8', some (.tup (nD rise))]) s
      rw [e]
      exact z
    have s2 : fSetSl 3 (fVar 7) (fOp addD (fVar 7) (fC (.int (1)))) (fLst (fCons (fVar 6) fNil)) (E t1 (some (.tup (nD rise)))) s = .ok (.nx (E t2 (some (.tup (nD rise))))) s := by
      have z := setSl_ok (i := 3) (fa := fVar 7) (fc := fOp addD (fVar 7) (fC (.int (1)))) (fv := fLst (fCons (fVar 6) fNil)) (ρ := E t1 (some (.tup (nD rise)))) (s := s) (l := nD t.lasts) (m := [.int ((r.getD i 0 : Nat) : Int)]) (a := many) (c := many + 1) (lst_ok (cons_ok (var_ok rfl) nil_ok) sz1) rfl (var_ok rfl) (op_ok (var_ok rfl) c_ok rfl) (by rw [nD_len]; omega) (by omega) (by rw [nD_len]; show t.lasts.length + 1 ≤ _; omega)
      have e : nD (t.lasts.take many ++ [r.getD i 0] ++ t.lasts.drop (many + 1)) = (nD t.lasts).take many ++ [.int ((r.getD i 0 : Nat) : Int)] ++ (nD t.lasts).drop (many + 1) := by
        unfold nD
        rw [List.map_append, List.map_append, List.map_take, List.map_drop]
        rfl
      show _ = Res.ok (Out.nx [some (.tup (nD r)), some (.int size), some (.lst (rD (t.rises.take many ++ [rise] ++ t.rises.drop (many + 1)))), some (.lst (nD (t.lasts.take many ++ [r.getD i 0] ++ t.lasts.drop (many + 1)))), some (.tup (nD t.found)), some (.int (i : Int)), some (.int ((r.getD i 0 : Nat) : Int)), some (.int (many : Int)), y8', some (.tup (nD rise))]) s
      rw [e]
      exact z
    refine ⟨some (.int (many : Int)), y8', some (.tup (nD rise)), ?_⟩
    refine ifT_ok t0 (then_ok (ρ1 := bE r size t (some (.int (i : Int))) (some (.int ((r.getD i 0 : Nat) : Int))) (some (.int (0))) y8 y9) (s1 := s) (set_ok c_ok) (then_ok (ρ1 := E t y9) (s1 := s) ec (then_ok st9 (then_ok s1 (then_ok s2 ?_)))))
    have ta : fTr (fOp geD (fVar 7) (fVar 1)) (E t2 (some (.tup (nD rise)))) s = .ok (decide (size ≤ (many : Int))) s := tr_ok (op_ok (var_ok rfl) (var_ok rfl) rfl)
    have tb : fTr (fOp eqD (fVar 4) (fTup fNil)) (E t2 (some (.tup (nD rise)))) s = .ok (decide (t.found = [])) s := tr_ok (op_ok (var_ok rfl) (tup_ok nil_ok sz0) (eqD_nil _))
    have st4 : fSet 4 (fOp addD (fSl (fVar 9) fPartN (fPart (fVar 1))) (fTup (fCons (fVar 5) fNil))) (E t2 (some (.tup (nD rise)))) s = .ok (.nx (E ⟨t2.rises, t2.lasts, rise.take size.toNat ++ [i]⟩ (some (.tup (nD rise))))) s :=
      set_ok (op_ok (slice_ok (var_ok rfl) partN_ok (part_ok (var_ok rfl)) (slT_take rise (by omega))) (tup_ok (cons_ok (var_ok rfl) nil_ok) sz1) (add_nT (b := [i]) (by
        have : (rise.take size.toNat).length ≤ rise.length := by rw [List.length_take]; omega
        show (rise.take size.toNat).length + 1 ≤ _
        omega)))
    show _ = Res.ok (Out.nx (E ⟨t2.rises, t2.lasts, if size ≤ (many : Int) ∧ (t.found = [] ∨ r.getD (t.found.getLastD 0) 0 < r.getD i 0) then rise.take size.toNat ++ [i] else t.found⟩ (some (.tup (nD rise))))) s
    by_cases ca : size ≤ (many : Int)
    · rw [decide_eq_true ca] at ta
      by_cases cb : t.found = []
      · rw [decide_eq_true cb] at tb
        rw [if_pos (show size ≤ (many : Int) ∧ (t.found = [] ∨ _) from ⟨ca, .inl cb⟩)]
        exact ifT_ok (and_tt ta (or_t tb)) st4
      · rw [decide_eq_false cb] at tb
        have lx := fl (t.found.getLastD 0) (by
          exact getLastD_mem cb)
        have tc : fTr (fOp ltA (fOp ixD (fVar 0) (fOp ixD (fVar 4) (fUn negD (fC (.int (1)))))) (fVar 6)) (E t2 (some (.tup (nD rise)))) s = .ok (decide (r.getD (t.found.getLastD 0) 0 < r.getD i 0)) s := tr_ok (op_ok (op_ok (var_ok rfl) (op_ok (var_ok rfl) (un_ok c_ok rfl) (lastT_n cb)) (ixD_nT lx)) (var_ok rfl) (lt_nn _ _))
        by_cases cc : r.getD (t.found.getLastD 0) 0 < r.getD i 0
        · rw [decide_eq_true cc] at tc
          rw [if_pos ⟨ca, .inr cc⟩]
          exact ifT_ok (and_tt ta (or_ff tb tc)) st4
        · rw [decide_eq_false cc] at tc
          rw [if_neg (fun z => z.2.elim cb cc)]
          exact skip_ok (and_tt ta (or_ff tb tc))
    · rw [decide_eq_false ca] at ta
      rw [if_neg (fun z => ca z.1)]
      exact skip_ok (and_f ta)
  · rw [decide_eq_false c] at t0
    rw [if_neg c]
    exact ⟨y7, y8, y9, skip_ok t0⟩
theorem rise_beyond_w {r : List Nat} {size : Int} (hs : 1 ≤ size) (hl : r.length ≤ 900) (s : BS) : f_rise_beyond [.tup (nD r), .int size] s = .ok (.tup (nD (rbT r size))) s := by
  obtain ⟨ρ', e, y5, y6, y7, y8, y9, rfl⟩ := loop_some (g := gTp 2 (gsCons (gNm 5) (gsCons (gNm 6) gsNil))) (body := bB) (s := s) (List.range r.length) (fun (i : Nat) => D.tup0 [.int (i : Int), .int ((r.getD i 0 : Nat) : Int)])
    (fun j ρ => ∃ y5 y6 y7 y8 y9, ρ = bE r size (rbUp r size j) y5 y6 y7 y8 y9) (ρ := bE r size ⟨[], [], []⟩ none none none none none) ⟨_, _, _, _, _, rfl⟩ fun j i ρ hi hP => by
      obtain ⟨y5, y6, y7, y8, y9, rfl⟩ := hP
      obtain ⟨hj, rfl⟩ : j < r.length ∧ i = j := by
        have h := List.getElem?_eq_some_iff.mp hi
        obtain ⟨h1, h2⟩ := h
        rw [List.length_range] at h1
        rw [List.getElem_range] at h2
        exact ⟨h1, h2.symm⟩
      obtain ⟨y7', y8', y9', e⟩ := rb_step (size := size) hs hl hj (y7 := y7) (y8 := y8) (y9 := y9) s
      exact ⟨_, rfl, _, e, _, _, _, _, _, rfl⟩
  rw [List.length_range] at e
  refine fn_rt ?_
  refine then_ok (ρ1 := [some (.tup (nD r)), some (.int size), some (.lst []), none, none, none, none, none, none, none]) (s1 := s) (setF_ok (fF_ok nil_ok sz0)) ?_
  refine then_ok (ρ1 := [some (.tup (nD r)), some (.int size), some (.lst []), some (.lst []), none, none, none, none, none, none]) (s1 := s) (setF_ok (fF_ok nil_ok sz0)) ?_
  refine then_ok (ρ1 := bE r size ⟨[], [], []⟩ none none none none none) (s1 := s) (set_ok (tup_ok nil_ok sz0)) ?_
  refine then_ok (ρ1 := bE r size (rbUp r size r.length) y5 y6 y7 y8 y9) (s1 := s) ((for_ok (l := (List.range r.length).map fun (i : Nat) => D.tup0 [.int (i : Int), .int ((r.getD i 0 : Nat) : Int)]) ?_).trans e) (ret_ok (var_ok rfl))
  unfold fEnum bnd
  rw [cons_ok (f := fVar 0) (g := fNil) (var_ok (d := .tup (nD r)) rfl) nil_ok]
  simp only [lift, seqOf, Option.map_some, enum_n]
theorem is_size_i {n : Int} (h : 1 ≤ n) (s : BS) : f_is_size [.int n] s = .ok (.bl true) s := by
  refine fn_rt (ret_ok (own_ok (l := [.int n, .int (1), .non]) (cons_ok (var_ok rfl) (cons_ok c_ok (cons_ok c_ok nil_ok))) rfl (fn_rt ?_)))
  refine then_ok (ρ1 := [some (.int n), some (.int (1)), some .non]) (s1 := s) (skip_ok (not_t (tr_ok (own_ok (l := [.int n]) (cons_ok (var_ok rfl) nil_ok) rfl rfl)))) ?_
  refine ret_ok (andV_tt (orV_ff (op_ok (var_ok rfl) c_ok rfl) (op_ok (var_ok rfl) (var_ok rfl) ?_)) (orV_t (op_ok (var_ok rfl) c_ok rfl)))
  show some (D.bl (decide ((1 : Int) ≤ n))) = _
  rw [decide_eq_true h]
theorem need_size_i {n : Int} (h : 1 ≤ n) (s : BS) : f_need_size [.int n] s = .ok .non s := fn_nx (skip_ok (not_t (tr_ok (own_ok (cons_ok (var_ok rfl) nil_ok) rfl (is_size_i h s)))))
theorem ties_kept_i {x : D} {r : List Nat} {n : Int} (hx : Sqn x r) (hr : IsT r) (h : 1 ≤ n) (s : BS) : f_ties_kept [x, .int n] s = .ok (.bl (decide (rbT r n = []))) s := by
  refine fn_rt ?_
  refine then_ok (ρ1 := [some x, some (.int n), some (.tup (nD r))]) (s1 := s) (set_ok (own_ok (cons_ok (var_ok rfl) (cons_ok c_ok nil_ok)) rfl (need_ties_w hx hr s))) ?_
  refine then_ok (ρ1 := [some x, some (.int n), some (.tup (nD r))]) (s1 := s) (drop_ok (own_ok (cons_ok (var_ok rfl) nil_ok) rfl (need_size_i h s))) ?_
  refine ret_ok (own_ok (cons_ok (var_ok rfl) (cons_ok (var_ok rfl) nil_ok)) rfl (fn_rt (ret_ok (op_ok (own_ok (cons_ok (var_ok rfl) (cons_ok (var_ok rfl) nil_ok)) rfl (rise_beyond_w h (by have := hr.small; omega) s)) (tup_ok nil_ok sz0) (eqD_nil _)))))
end My

namespace My
open PySem PySem.Spec PyProof.Rows L2 Dm
/-! the law's own looks: whether ties take a setting, whether these are a rise -/
theorem enum_sq {x : D} {r : List Nat} (hx : Sqn x r) {ρ : Dm.Env} {s : BS} {i : Nat} (h : ρ[i]? = some (some x)) : fEnum (fCons (fVar i) fNil) ρ s = .ok ((List.range r.length).map fun (i : Nat) => D.tup0 [.int (i : Int), .int ((r.getD i 0 : Nat) : Int)]) s := by
  unfold fEnum bnd
  rw [cons_ok (f := fVar i) (g := fNil) (var_ok (d := x) h) nil_ok]
  simp only [lift, hx.seq, Option.map_some, enum_n]
theorem takes_w {x y : D} {r t : List Nat} (hx : Sqn x r) (hy : Sqn y t) (hl : t.length = r.length) (hr : ∀ e ∈ r, e < r.length) (h6 : r.length ≤ 1000) (s : BS) : f_l_takes [x, y] s = .ok (.bl (takesT r t)) s := by
  have lc : fLc [2, 3] (fEnum (fCons (fVar 0) fNil)) (gTp 2 (gsCons (gNm 2) (gsCons (gNm 3) gsNil))) (fTr (fOp neD (fOp ixD (fVar 1) (fVar 2)) (fOp ixD (fVar 1)
    (fVar 3)))) (fC (.int (1))) [some x, some y, none, none] s = .ok (((List.range r.length).filter fun e => !decide (t.getD e 0 = t.getD (r.getD e 0) 0)).map fun _ => D.int (1)) s := by
    refine lc_of (s1 := s) (List.range r.length) (fun (i : Nat) => D.tup0 [.int (i : Int), .int ((r.getD i 0 : Nat) : Int)]) (fun _ => D.int (1)) (fun e => !decide (t.getD e 0 = t.getD (r.getD e 0) 0)) (enum_sq hx rfl) (by rw [List.length_range]; omega) fun e he => ?_
    have he := List.mem_range.mp he
    have hm := hr _ (getD_mem he)
    refine ⟨[some x, some y, some (.int (e : Int)), some (.int ((r.getD e 0 : Nat) : Int))], rfl, ?_, fun _ => c_ok⟩
    exact tr_ok (op_ok (op_ok (var_ok rfl) (var_ok rfl) (hy.ix (by omega))) (op_ok (var_ok rfl) (var_ok rfl) (hy.ix (by omega))) (neD_n _ _))
  refine fn_rt (ret_ok (op_ok (fL_ok lc) (lst_ok nil_ok sz0) ?_))
  have e : ((List.range r.length).filter fun e => !decide (t.getD e 0 = t.getD (r.getD e 0) 0)).map (fun _ => D.int (1)) = List.replicate ((List.range r.length).filter fun e => !decide (t.getD e 0 = t.getD (r.getD e 0) 0)).length (.int (1)) := List.map_const'
  rw [e, ones_emp]
  refine congrArg (fun b => some (D.bl b)) ?_
  unfold takesT
  rw [Bool.eq_iff_iff, decide_eq_true_eq, List.length_eq_zero_iff, List.filter_eq_nil_iff, List.all_eq_true]
  constructor
  · intro h x hx
    have := h x hx
    simpa using this
  · intro h x hx
    have := h x hx
    simpa using this
theorem isi_intN (i : Nat) : isiD [.int (i : Int), .ty "int"] = some (.bl true) := rfl
theorem isi_boolN (i : Nat) : isiD [.int (i : Int), .ty "bool"] = some (.bl false) := rfl
theorem chain_ok {g1 g2 : D → D → Option D} {fa fb fc : Dm.Env → M D} {ρ : Dm.Env} {s s1 s2 s3 : BS} {x y w d : D} (ha : fa ρ s = .ok x s1) (hb : fb ρ s1 = .ok y s2) (hc : fc ρ s2 = .ok w s3) (h1 : g1 x y = some (.bl true)) (h2 : g2 y w = some d) : fChain g1 g2 fa fb fc ρ s = .ok d s3 := by
  unfold fChain bnd
  rw [ha]
  simp only [hb, lift, h1, if_true, hc, h2]
theorem emp_self : eqD (.lst []) (.lst []) = some (.bl true) := eqD_self rfl
theorem rise_right_w {x : D} {r told : List Nat} {many : Nat} (hx : Sqn x r) (h : riseOk r told many = true) (h6 : r.length ≤ 1000) (h7 : told.length ≤ 1000) (s : BS) : f_l_rise_right [x, .tup (nD told), .int (many : Int)] s = .ok (.bl true) s := by
  obtain ⟨h1, h2, h3⟩ := rise_facts h
  let R : Option D → Option D → Dm.Env := fun y3 y4 => [some x, some (.tup (nD told)), some (.int (many : Int)), y3, y4]
  have l1 : fLc [3] (fSeq (fVar 1)) (gNm 3) (fOrT (fNotT (fTr (fCall isiD (fCons (fVar 3) (fCons (fC (.ty "int")) fNil))))) (fTr (fCall isiD (fCons (fVar 3) (fCons (fC
      (.ty "bool")) fNil))))) (fVar 3) (R none none) s = .ok [] s := by
    refine comp_none told (fun (e : Nat) => D.int (e : Int)) (seqo_ok (var_ok rfl) rfl) (by omega) fun e he => ⟨R (some (.int (e : Int))) none, rfl, ?_⟩
    exact or_ff (not_t (tr_ok (call_ok (cons_ok (var_ok rfl) (cons_ok c_ok nil_ok)) (isi_intN _)))) (tr_ok (call_ok (cons_ok (var_ok rfl) (cons_ok c_ok nil_ok)) (isi_boolN _)))
  have l2 : fLc [3] (fSeq (fVar 1)) (gNm 3) (fNotT (fTr (fChain leD ltD (fC (.int (0))) (fVar 3) (fCall lenD (fCons (fVar 0) fNil))))) (fVar 3) (R none none) s = .ok [] s := by
    refine comp_none told (fun (e : Nat) => D.int (e : Int)) (seqo_ok (var_ok rfl) rfl) (by omega) fun e he => ⟨R (some (.int (e : Int))) none, rfl, ?_⟩
    refine not_t (tr_ok ?_)
    have a : leD (.int (0)) (.int (e : Int)) = some (.bl true) := by
      have z := le_nn 0 e
      rw [decide_eq_true (Nat.zero_le _)] at z
      exact z
    have b : ltD (.int (e : Int)) (.int (r.length : Int)) = some (.bl true) := by
      show some (D.bl (decide ((e : Int) < (r.length : Int)))) = _
      rw [decide_eq_true (by have := h2 e he; omega)]
    exact chain_ok c_ok (var_ok rfl) (call_ok (cons_ok (var_ok rfl) nil_ok) hx.len) a b
  have l3 : fLc [4, 3] (fZip (fCons (fVar 1) (fCons (fSl (fVar 1) (fPart (fC (.int (1)))) fPartN) fNil))) (gTp 2 (gsCons (gNm 4) (gsCons (gNm 3) gsNil))) (fOrT (fTr (fOp geD (fVar 4) (fVar 3)))
      (fTr (fOp geD (fOp ixD (fVar 0) (fVar 4)) (fOp ixD (fVar 0) (fVar 3))))) (fC (.int (1))) (R none none) s = .ok [] s := by
    have sl : slD (.tup (nD told)) (some (1)) none = some (.tup (nD (told.drop 1))) := by
      show some (D.tup (Dm.cutD (nD told) (some (1)) none)) = _
      have z := sl1 (nD told)
      have z : some (D.lst (Dm.cutD (nD told) (some (1)) none)) = some (D.lst ((nD told).drop 1)) := z
      have z := D.lst.inj (Option.some.inj z)
      rw [z]
      unfold nD
      rw [List.map_drop]
    refine comp_none (told.zip (told.drop 1)) (fun p => D.tup0 [.int (p.1 : Int), .int (p.2 : Int)]) ?_ (by rw [List.length_zip]; omega) fun p hp => ⟨R (some (.int (p.2 : Int))) (some (.int (p.1 : Int))), rfl, ?_⟩
    · unfold fZip bnd
      rw [cons_ok (f := fVar 1) (var_ok (d := .tup (nD told)) rfl) (cons_ok (slice_ok (var_ok (d := .tup (nD told)) rfl) (part_ok c_ok) partN_ok sl) nil_ok)]
      show lift (some (zipD (nD told) (nD (told.drop 1)))) s = _
      rw [zip_mapD]
    · obtain ⟨a, b⟩ := h3 p hp
      have p1 := h2 p.1 (List.of_mem_zip hp).1
      have p2 := h2 p.2 (List.mem_of_mem_drop (List.of_mem_zip hp).2)
      refine or_ff (tr_ok (op_ok (var_ok rfl) (var_ok rfl) ?_)) (tr_ok (op_ok (op_ok (var_ok rfl) (var_ok rfl) (hx.ix p1)) (op_ok (var_ok rfl) (var_ok rfl) (hx.ix p2)) ?_))
      · rw [ge_nn, decide_eq_false (by omega)]
      · rw [ge_nn, decide_eq_false (by omega)]
  refine fn_rt ?_
  refine then_ok (ρ1 := R none none) (s1 := s) (skip_ok (or_ff (not_t (tr_ok (call_ok (cons_ok (var_ok rfl) (cons_ok c_ok nil_ok)) (isi_tup _)))) (or_ff (tr_ok (op_ok (call_ok (cons_ok (var_ok rfl) nil_ok) (lenD_T _)) (var_ok rfl) (by rw [neD_n, decide_eq_true h1]; rfl))) (tr_ok (op_ok (fL_ok l1) (lst_ok nil_ok sz0) (neD_self rfl)))))) ?_
  refine then_ok (ρ1 := R none none) (s1 := s) (skip_ok (tr_ok (op_ok (fL_ok l2) (lst_ok nil_ok sz0) (neD_self rfl)))) ?_
  exact ret_ok (op_ok (fL_ok l3) (lst_ok nil_ok sz0) emp_self)
/-! the longest rise, by the longest one that begins at each end -/
theorem rev_n (l : List Nat) : revD (.lst (nD l)) = some (.lst (nD l.reverse)) := by
  show some (D.lst (nD l).reverse) = _
  unfold nD
  rw [List.map_reverse]
theorem rep_zero (n : Nat) (h : n ≤ 1000) {ρ : Dm.Env} {s : BS} {f : Dm.Env → M D} (hf : f ρ s = .ok (.int (n : Int)) s) : fRep (fLst (fCons (fC (.int (0))) fNil)) f ρ s = .ok (nD (List.replicate n 0)) s := by
  have e1 : fLst (fCons (fC (.int (0))) fNil) ρ s = .ok (.lst [.int 0]) s := rfl
  unfold fRep bnd
  rw [e1]
  simp only [hf]
  have e2 : (decide (0 ≤ (n : Int)) && decide ((n : Int) ≤ 1000000) && szOk (([D.int 0] : List D).length * ((n : Int)).toNat)) = true := by
    rw [decide_eq_true (show (0 : Int) ≤ n by omega), decide_eq_true (show (n : Int) ≤ 1000000 by omega), szOk_le (by rw [Int.toNat_natCast]; show 1 * n ≤ _; omega)]
    rfl
  rw [if_pos e2, Int.toNat_natCast]
  show Res.ok (List.replicate n [D.int 0]).flatten s = _
  rw [show ∀ n : Nat, (List.replicate n [D.int 0]).flatten = nD (List.replicate n 0) from fun n => by
    induction n with
    | zero => rfl
    | succ n ih =>
      rw [List.replicate_succ, List.replicate_succ, List.flatten_cons, ih]
      rfl]
theorem mx_cons (l : List Nat) : maxD [.lst (nD (0 :: l))] = some (.int ((mxN (0 :: l) : Nat) : Int)) := max_nL (List.cons_ne_nil _ _)
theorem begStep_len (r : List Nat) (b : List Nat) (e : Nat) : (begStep r b e).length = b.length := by
  unfold begStep
  rw [List.length_set]
theorem beg_len (r : List Nat) : ∀ (l b : List Nat), (l.foldl (begStep r) b).length = b.length
  | [], _ => rfl
  | x :: l, b => by
    rw [List.foldl_cons, beg_len r l, begStep_len]
theorem rg2_eq (i j : Int) : rg2 [.int i, .int j] = if (rgOk i && rgOk j) = true then some (rgD i (j - i).toNat) else none := rfl
theorem rgOk_n {a : Nat} (h : a ≤ 1000000) : rgOk (a : Int) = true := by
  unfold rgOk
  rw [decide_eq_true (show (-100000000 : Int) ≤ a by omega), decide_eq_true (show (a : Int) < 100000000 by omega)]
  rfl
theorem rgD_n {a b : Nat} : rgD (a : Int) ((b : Int) - (a : Int)).toNat = nD (List.range' a (b - a)) := by
  rw [show ((b : Int) - (a : Int)).toNat = b - a by omega]
  unfold rgD nD
  rw [List.range'_eq_map_range, List.map_map]
  exact List.map_congr_left fun i _ => by
    show D.int ((a : Int) + (i : Int)) = D.int (((a + i : Nat) : Int))
    rw [Int.natCast_add]
theorem lift_some {α : Type} {o : Option α} {x : α} {s : BS} (h : o = some x) : lift o s = .ok x s := by
  subst h
  rfl
theorem rg2_n {fs : Dm.Env → M (List D)} {ρ : Dm.Env} {s s1 : BS} {a b : Nat} (h : fs ρ s = .ok [.int (a : Int), .int (b : Int)] s1) (ha : a ≤ 1000000) (hb : b ≤ 1000000) : fRg2 fs ρ s = .ok (nD (List.range' a (b - a))) s1 := by
  have e2 : rg2 [.int (a : Int), .int (b : Int)] = some (nD (List.range' a (b - a))) := by
    have g : (rgOk (a : Int) && rgOk (b : Int)) = true := Bool.and_eq_true_iff.mpr ⟨rgOk_n ha, rgOk_n hb⟩
    exact (rg2_eq _ _).trans ((if_pos g).trans (congrArg some rgD_n))
  exact (bnd_ok h).trans (lift_some e2)
theorem max0_ok (l : List Nat) (hl : l.length ≤ 900) {f : Dm.Env → M (List D)} {ρ : Dm.Env} {s s1 : BS} (h : f ρ s = .ok (nD l) s1) :
    fOp addD (fC (.int (1))) (fCall maxD (fCons (fOp addD (fLst (fCons (fC (.int (0))) fNil)) (fL f)) fNil)) ρ s = .ok (.int ((1 + mxN (0 :: l) : Nat) : Int)) s1 := by
  refine op_ok c_ok (call_ok (cons_ok (op_ok (lst_ok (cons_ok c_ok nil_ok) sz1) (fL_ok h) (cat_n [.int (0)] _ (by
    rw [nD_len]
    show 1 + _ ≤ _
    omega))) nil_ok) (mx_cons l)) ?_
  show some (D.int (1 + ((mxN (0 :: l) : Nat) : Int))) = _
  rw [Int.natCast_add]
  rfl
abbrev lB : Dm.Env → M Out := (fSetI 1 (fVar 2) (fOp addD (fC (.int (1))) (fCall maxD (fCons (fOp addD (fLst (fCons (fC (.int (0))) fNil)) (fL (fLc [3] (fRg2 (fCons (fOp addD
    (fVar 2) (fC (.int (1)))) (fCons (fCall lenD (fCons (fVar 0) fNil)) fNil))) (gNm 3) (fTr (fOp gtD (fOp ixD (fVar 0) (fVar 3)) (fOp ixD (fVar 0) (fVar 2)))) (fIxO 1
    (fVar 3))))) fNil))))
theorem long_step {x : D} {r b : List Nat} (hx : Sqn x r) (h6 : r.length ≤ 900) {i : Nat} (hr : i < r.length) (lb : b.length = r.length) (s : BS) : lB [some x, some (.lst (nD b)), some (.int (i : Int)), none] s = .ok (.nx [some x, some (.lst (nD (begStep r b i))), some (.int (i : Int)), none]) s := by
  have lc : fLc [3] (fRg2 (fCons (fOp addD (fVar 2) (fC (.int (1)))) (fCons (fCall lenD (fCons (fVar 0) fNil)) fNil))) (gNm 3) (fTr (fOp gtD (fOp ixD (fVar 0) (fVar 3)) (fOp ixD (fVar 0) (fVar 2)))) (fIxO 1 (fVar 3)) [some x, some (.lst (nD b)), some (.int (i : Int)), none] s =
      .ok (nD (((List.range' (i + 1) (r.length - (i + 1))).filter fun l => decide (r.getD i 0 < r.getD l 0)).map fun l => b.getD l 0)) s := by
    refine Eq.trans (lc_of (s1 := s) (List.range' (i + 1) (r.length - (i + 1))) (fun (l : Nat) => D.int (l : Int)) (fun l => D.int ((b.getD l 0 : Nat) : Int)) (fun l => decide (r.getD i 0 < r.getD l 0)) (rg2_n (a := i + 1) (cons_ok (op_ok (var_ok rfl) c_ok rfl) (cons_ok (call_ok (cons_ok (var_ok rfl) nil_ok) hx.len) nil_ok)) (by omega) (by omega)) (by rw [List.length_range']; omega) fun l hl => ?_) ?_
    · have hl := List.mem_range'_1.mp hl
      refine ⟨[some x, some (.lst (nD b)), some (.int (i : Int)), some (.int (l : Int))], rfl, ?_, fun _ => ?_⟩
      · exact tr_ok (op_ok (op_ok (var_ok rfl) (var_ok rfl) (hx.ix (by omega))) (op_ok (var_ok rfl) (var_ok rfl) (hx.ix hr)) (gt_n _ _))
      · exact ixO_ok (l := nD b) rfl (var_ok rfl) (atI_n (by omega))
    · rw [nD_map]
  have ll : (((List.range' (i + 1) (r.length - (i + 1))).filter fun l => decide (r.getD i 0 < r.getD l 0)).map fun l => b.getD l 0).length ≤ 900 := by
    rw [List.length_map]
    have : ((List.range' (i + 1) (r.length - (i + 1))).filter fun l => decide (r.getD i 0 < r.getD l 0)).length ≤ r.length - (i + 1) := by
      have := List.length_filter_le (fun l => decide (r.getD i 0 < r.getD l 0)) (List.range' (i + 1) (r.length - (i + 1)))
      rwa [List.length_range'] at this
    omega
  unfold begStep
  generalize (((List.range' (i + 1) (r.length - (i + 1))).filter fun l => decide (r.getD i 0 < r.getD l 0)).map fun l => b.getD l 0) = m at *
  have z := setI_ok (i := 1) (j := i) (fk := fVar 2) (ρ := [some x, some (.lst (nD b)), some (.int (i : Int)), none]) (s := s) (s1 := s) (s2 := s) (l := nD b) (k := (i : Int)) (max0_ok m ll lc) rfl (var_ok rfl) (by rw [nD_len]; exact ixN_n (by omega))
  rw [nD_set] at z
  exact z
theorem longest_w {x : D} {r : List Nat} (hx : Sqn x r) (h0 : r ≠ []) (h6 : r.length ≤ 900) (s : BS) : f_l_longest [x] s = .ok (.int ((longT r : Nat) : Int)) s := by
  obtain ⟨ρ', e, y2, rfl⟩ := loop_some (g := gNm 2) (body := lB) (s := s) (List.range r.length).reverse (fun (i : Nat) => D.int (i : Int))
    (fun j ρ => ∃ y2, ρ = [some x, some (.lst (nD (((List.range r.length).reverse.take j).foldl (begStep r) (List.replicate r.length 0)))), y2, none]) (ρ := [some x, some (.lst (nD (List.replicate r.length 0))), none, none]) ⟨none, by rw [List.take_zero, List.foldl_nil]⟩ fun j i ρ hi hP => by
      obtain ⟨y2, rfl⟩ := hP
      have hr : i < r.length := by
        have := List.mem_of_getElem? hi
        rw [List.mem_reverse] at this
        exact List.mem_range.mp this
      have e2 : ((List.range r.length).reverse.take (j + 1)).foldl (begStep r) (List.replicate r.length 0) = begStep r (((List.range r.length).reverse.take j).foldl (begStep r) (List.replicate r.length 0)) i := by
        rw [List.take_add_one, hi, List.foldl_append]
        rfl
      rw [e2]
      have lb : (((List.range r.length).reverse.take j).foldl (begStep r) (List.replicate r.length 0)).length = r.length := by rw [beg_len, List.length_replicate]
      generalize ((List.range r.length).reverse.take j).foldl (begStep r) (List.replicate r.length 0) = b at *
      exact ⟨[some x, some (.lst (nD b)), some (.int (i : Int)), none], rfl, _, long_step hx h6 hr lb s, _, rfl⟩
  have full : (List.range r.length).reverse.take (List.range r.length).reverse.length = (List.range r.length).reverse := List.take_length
  rw [full] at e
  have be : (List.range r.length).reverse.foldl (begStep r) (List.replicate r.length 0) = begT r := rfl
  rw [be] at e
  have nb : begT r ≠ [] := fun z => by
    have : (begT r).length = r.length := by
      unfold begT
      rw [beg_len, List.length_replicate]
    rw [z] at this
    exact h0 (List.eq_nil_of_length_eq_zero this.symm)
  have le : longT r = mxN (begT r) := rfl
  rw [le]
  generalize begT r = bt at *
  have e0 : (List.range r.length).reverse.map (fun (i : Nat) => D.int (i : Int)) = nD (List.range r.length).reverse := rfl
  rw [e0] at e
  refine fn_rt ?_
  refine then_ok (ρ1 := [some x, some (.lst (nD (List.replicate r.length 0))), none, none]) (s1 := s) (setF_ok (rep_zero r.length (by omega) (call_ok (cons_ok (var_ok rfl) nil_ok) hx.len))) ?_
  exact then_ok (ρ1 := [some x, some (.lst (nD bt)), y2, none]) (s1 := s) ((for_ok (seqo_ok (un_ok (fL_ok (rgL_n (call_ok (cons_ok (var_ok rfl) nil_ok) hx.len) (by omega))) (rev_n _)) rfl)).trans e) (ret_ok (call_ok (cons_ok (var_ok rfl) nil_ok) (max_nL nb)))
end My

namespace My
open PySem PySem.Spec PyProof.Rows L2 Dm
theorem eqv_int (i j : Int) : PyData.eqv (.int i) (.int j) = decide (i = j) := by
  rw [PyData.eqv]
  rfl
theorem notIn_n (e : Nat) (l : List Nat) : notInD (.int (e : Int)) (.lst (nD l)) = some (.bl (decide (e ∉ l))) := by
  have g2 := gd_good (gdL l)
  have g1 : good (.int (e : Int)) = true := rfl
  have a : ((nD l).any fun z => PyData.eqv (py z) (py (.int (e : Int)))) = decide (e ∈ l) := by
    unfold nD
    rw [List.any_map, Bool.eq_iff_iff, List.any_eq_true, decide_eq_true_eq]
    constructor
    · rintro ⟨x, hx, h⟩
      have h : PyData.eqv (.int (x : Int)) (.int (e : Int)) = true := h
      rw [eqv_int] at h
      have := of_decide_eq_true h
      rw [show e = x by omega]
      exact hx
    · intro h
      refine ⟨e, h, ?_⟩
      show PyData.eqv (.int (e : Int)) (.int (e : Int)) = true
      rw [eqv_int]
      exact decide_eq_true rfl
  show ((if (good (.int (e : Int)) && good (.lst (nD l))) = true then some ((nD l).any fun z => PyData.eqv (py z) (py (.int (e : Int)))) else none).map fun b => D.bl (!b)) = _
  rw [g1, g2, a]
  show some (D.bl (!decide (e ∈ l))) = _
  rw [decide_not]
theorem neD_emp (l : List Nat) : neD (.lst (nD l)) (.lst []) = some (.bl (!decide (l = []))) := neD_nL l []
theorem foldset_len (lev : Nat) : ∀ (l f : List Nat), (l.foldl (fun f e => f.set e lev) f).length = f.length
  | [], _ => rfl
  | x :: l, f => by
    rw [List.foldl_cons, foldset_len lev l, List.length_set]
abbrev vB : Dm.Env → M Out := (fThen (fSet 4 (fL (fLc [5] (fSeq (fVar 2)) (gNm 5) (fTr (fOp eqD (fL (fLc [6] (fSeq (fVar 2)) (gNm
    6) (fAndT (fTr (fOp ltA (fVar 6) (fVar 5))) (fTr (fOp ltA (fOp ixD (fVar 0) (fVar 6)) (fOp ixD (fVar 0) (fVar 5))))) (fC (.int (1))))) (fLst fNil))) (fVar 5))))
    (fThen (fFor (fSeq (fVar 4)) (gNm 5) (fSetI 1 (fVar 5) (fVar 3))) (fAsg (fTup (fCons (fL (fLc [5] (fSeq (fVar 2)) (gNm 5) (fTr (fOp notInD (fVar 5) (fVar 4))) (fVar
    5))) (fCons (fOp addD (fVar 3) (fC (.int (1)))) fNil))) (gTp 2 (gsCons (gNm 2) (gsCons (gNm 3) gsNil))))))
abbrev vT : Dm.Env → M Bool := (fTr (fOp neD (fVar 2) (fLst fNil)))
abbrev vE (x : D) (found left : List Nat) (lev : Nat) (y4 y5 : Option D) : Dm.Env := [some x, some (.lst (nD found)), some (.lst (nD left)), some (.int (lev : Int)), y4, y5, none]
theorem lev_loop {x : D} {r : List Nat} (hx : Sqn x r) (h6 : r.length ≤ 900) (s : BS) : ∀ (k : Nat) (found left : List Nat) (lev : Nat) (y4 y5 : Option D) (fuel : Nat) (res : List Nat), levGo r k found left lev = some res → k ≤ fuel →
    found.length = r.length → (∀ e ∈ left, e < r.length) → left.length ≤ r.length → ∃ lev' y4' y5', loopW vT vB fuel (vE x found left lev y4 y5) s = .ok (.nx (vE x res [] lev' y4' y5')) s
  | 0, _, _, _, _, _, _, _, h, _, _, _, _ => by cases h
  | k + 1, found, left, lev, y4, y5, 0, res, h, hf, _, _, _ => by omega
  | k + 1, found, left, lev, y4, y5, fuel + 1, res, h, hf, hl, hlt, hll => by
    have t : vT (vE x found left lev y4 y5) s = .ok (!decide (left = [])) s := tr_ok (op_ok (var_ok rfl) (lst_ok nil_ok sz0) (neD_emp left))
    have h : (if left = [] then some found else levGo r k ((firstT r left).foldl (fun f e => f.set e lev) found) (left.filter fun e => decide (e ∉ firstT r left)) (lev + 1)) = some res := h
    by_cases c : left = []
    · rw [if_pos c] at h
      cases h
      rw [decide_eq_true c] at t
      subst c
      refine ⟨lev, y4, y5, ?_⟩
      simp only [loopW, t, Bool.not_true]
    · rw [if_neg c] at h
      rw [decide_eq_false c] at t
      have fl : ∀ e ∈ firstT r left, e < r.length := fun e he => hlt e (List.mem_filter.mp he).1
      have fll : (firstT r left).length ≤ left.length := List.length_filter_le _ _
      have lc : fLc [5] (fSeq (fVar 2)) (gNm 5) (fTr (fOp eqD (fL (fLc [6] (fSeq (fVar 2)) (gNm 6) (fAndT (fTr (fOp ltA (fVar 6) (fVar 5))) (fTr (fOp ltA (fOp ixD (fVar 0) (fVar 6)) (fOp ixD (fVar 0) (fVar 5))))) (fC (.int (1))))) (fLst fNil))) (fVar 5)
          (vE x found left lev y4 y5) s = .ok (nD (firstT r left)) s := by
        refine lc_of (s1 := s) left (fun (e : Nat) => D.int (e : Int)) (fun (e : Nat) => D.int (e : Int)) (fun e => decide ((left.filter fun a => decide (a < e) && decide (r.getD a 0 < r.getD e 0)) = [])) (seqo_ok (var_ok rfl) rfl) (by omega) fun e he => ?_
        let ρe : Dm.Env := [some x, some (.lst (nD found)), some (.lst (nD left)), some (.int (lev : Int)), y4, some (.int (e : Int)), none]
        refine ⟨ρe, rfl, ?_, fun _ => var_ok rfl⟩
        have l2 : fLc [6] (fSeq (fVar 2)) (gNm 6) (fAndT (fTr (fOp ltA (fVar 6) (fVar 5))) (fTr (fOp ltA (fOp ixD (fVar 0) (fVar 6)) (fOp ixD (fVar 0) (fVar 5))))) (fC (.int (1))) ρe s = .ok ((left.filter fun a => decide (a < e) && decide (r.getD a 0 < r.getD e 0)).map fun _ => D.int (1)) s := by
          refine lc_of (s1 := s) left (fun (a : Nat) => D.int (a : Int)) (fun _ => D.int (1)) (fun a => decide (a < e) && decide (r.getD a 0 < r.getD e 0)) (seqo_ok (var_ok rfl) rfl) (by omega) fun a ha => ?_
          refine ⟨[some x, some (.lst (nD found)), some (.lst (nD left)), some (.int (lev : Int)), y4, some (.int (e : Int)), some (.int (a : Int))], rfl, ?_, fun _ => c_ok⟩
          have t1 : fTr (fOp ltA (fVar 6) (fVar 5)) [some x, some (.lst (nD found)), some (.lst (nD left)), some (.int (lev : Int)), y4, some (.int (e : Int)), some (.int (a : Int))] s = .ok (decide (a < e)) s := tr_ok (op_ok (var_ok rfl) (var_ok rfl) (lt_nn _ _))
          have t2 : fTr (fOp ltA (fOp ixD (fVar 0) (fVar 6)) (fOp ixD (fVar 0) (fVar 5))) [some x, some (.lst (nD found)), some (.lst (nD left)), some (.int (lev : Int)), y4, some (.int (e : Int)), some (.int (a : Int))] s = .ok (decide (r.getD a 0 < r.getD e 0)) s := tr_ok (op_ok (op_ok (var_ok rfl) (var_ok rfl) (hx.ix (hlt a ha))) (op_ok (var_ok rfl) (var_ok rfl) (hx.ix (hlt e he))) (lt_nn _ _))
          by_cases c : a < e
          · rw [decide_eq_true c] at t1 ⊢
            exact and_tt t1 t2
          · rw [decide_eq_false c] at t1 ⊢
            exact and_f t1
        refine tr_ok (op_ok (fL_ok l2) (lst_ok nil_ok sz0) ?_)
        rw [List.map_const', ones_emp]
        refine congrArg (fun b => some (D.bl b)) ?_
        rw [Bool.eq_iff_iff, decide_eq_true_eq, decide_eq_true_eq, List.length_eq_zero_iff]
      obtain ⟨ρ', e1, y5', rfl⟩ := loop_some (g := gNm 5) (body := fSetI 1 (fVar 5) (fVar 3)) (s := s) (firstT r left) (fun (e : Nat) => D.int (e : Int))
        (fun j ρ => ∃ y5, ρ = [some x, some (.lst (nD (((firstT r left).take j).foldl (fun f e => f.set e lev) found))), some (.lst (nD left)), some (.int (lev : Int)), some (.lst (nD (firstT r left))), y5, none]) (ρ := [some x, some (.lst (nD found)), some (.lst (nD left)), some (.int (lev : Int)), some (.lst (nD (firstT r left))), y5, none]) ⟨y5, rfl⟩ fun j e ρ he hP => by
          obtain ⟨y5, rfl⟩ := hP
          have hlte := fl e (List.mem_of_getElem? he)
          rw [List.take_add_one, he, List.foldl_append]
          generalize hb : ((firstT r left).take j).foldl (fun f e => f.set e lev) found = b
          have lb : b.length = r.length := by
            rw [← hb, foldset_len, hl]
          refine ⟨[some x, some (.lst (nD b)), some (.lst (nD left)), some (.int (lev : Int)), some (.lst (nD (firstT r left))), some (.int (e : Int)), none], rfl, [some x, some (.lst (nD (b.set e lev))), some (.lst (nD left)), some (.int (lev : Int)), some (.lst (nD (firstT r left))), some (.int (e : Int)), none], ?_, _, rfl⟩
          have z := setI_ok (i := 1) (j := e) (fk := fVar 5) (fv := fVar 3) (ρ := [some x, some (.lst (nD b)), some (.lst (nD left)), some (.int (lev : Int)), some (.lst (nD (firstT r left))), some (.int (e : Int)), none]) (s := s) (s1 := s) (s2 := s) (l := nD b) (k := (e : Int)) (d := .int (lev : Int)) (var_ok rfl) rfl (var_ok rfl) (by rw [nD_len]; exact ixN_n (by omega))
          rw [nD_set] at z
          exact z
      rw [List.take_length] at e1
      have l3 : fLc [5] (fSeq (fVar 2)) (gNm 5) (fTr (fOp notInD (fVar 5) (fVar 4))) (fVar 5) [some x, some (.lst (nD ((firstT r left).foldl (fun f e => f.set e lev) found))), some (.lst (nD left)), some (.int (lev : Int)), some (.lst (nD (firstT r left))), y5', none] s =
          .ok (nD (left.filter fun e => decide (e ∉ firstT r left))) s := by
        refine lc_of (s1 := s) left (fun (e : Nat) => D.int (e : Int)) (fun (e : Nat) => D.int (e : Int)) (fun e => decide (e ∉ firstT r left)) (seqo_ok (var_ok rfl) rfl) (by omega) fun e he => ⟨[some x, some (.lst (nD ((firstT r left).foldl (fun f e => f.set e lev) found))), some (.lst (nD left)), some (.int (lev : Int)), some (.lst (nD (firstT r left))), some (.int (e : Int)), none], rfl, ?_, fun _ => var_ok rfl⟩
        exact tr_ok (op_ok (var_ok rfl) (var_ok rfl) (notIn_n _ _))
      have bd : vB (vE x found left lev y4 y5) s = .ok (.nx (vE x ((firstT r left).foldl (fun f e => f.set e lev) found) (left.filter fun e => decide (e ∉ firstT r left)) (lev + 1) (some (.lst (nD (firstT r left)))) y5')) s := by
        refine then_ok (ρ1 := [some x, some (.lst (nD found)), some (.lst (nD left)), some (.int (lev : Int)), some (.lst (nD (firstT r left))), y5, none]) (s1 := s) (set_ok (fL_ok lc)) ?_
        refine then_ok (ρ1 := [some x, some (.lst (nD ((firstT r left).foldl (fun f e => f.set e lev) found))), some (.lst (nD left)), some (.int (lev : Int)), some (.lst (nD (firstT r left))), y5', none]) (s1 := s) ((for_ok (seqo_ok (var_ok rfl) rfl)).trans e1) ?_
        exact asg_ok (d := .tup [.lst (nD (left.filter fun e => decide (e ∉ firstT r left))), .int ((lev + 1 : Nat) : Int)]) (tup_ok (cons_ok (fL_ok l3) (cons_ok (op_ok (var_ok rfl) c_ok rfl) nil_ok)) sz2) rfl
      obtain ⟨lev', y4', y5'', e2⟩ := lev_loop hx h6 s k _ _ (lev + 1) (some (.lst (nD (firstT r left)))) y5' fuel res h (by omega) (by rw [foldset_len, hl]) (fun e he => hlt e (List.mem_filter.mp he).1) (Nat.le_trans (List.length_filter_le _ _) hll)
      refine ⟨lev', y4', y5'', ?_⟩
      rw [← e2]
      simp only [loopW, t, bd, Bool.not_false]
theorem levels_w {x : D} {r : List Nat} (hx : Sqn x r) (hr : IsT r) (s : BS) : f_l_levels [x] s = .ok (.tup (nD (colT r))) s := by
  have sm := hr.small
  obtain ⟨lev', y4, y5, e⟩ := lev_loop hx (by omega) s 12 _ _ 0 none none 1000 _ (tOk hr).lev (by omega) List.length_replicate (fun e he => List.mem_range.mp he) (by rw [List.length_range]; omega)
  refine fn_rt ?_
  refine then_ok (ρ1 := vE x (List.replicate r.length 0) (List.range r.length) 0 none none) (s1 := s) ?_ (then_ok e (ret_ok (call_ok (cons_ok (var_ok rfl) nil_ok) rfl)))
  have h1 : fRep (fLst (fCons (fC (.int (0))) fNil)) (fCall lenD (fCons (fVar 0) fNil)) [some x, none, none, none, none, none, none] s = .ok (nD (List.replicate r.length 0)) s := rep_zero r.length (by omega) (call_ok (cons_ok (var_ok rfl) nil_ok) hx.len)
  have h2 : fCons (fL (fRgL (fCall lenD (fCons (fVar 0) fNil)))) (fCons (fC (.int (0))) fNil) [some x, none, none, none, none, none, none] s = .ok [.lst (nD (List.range r.length)), .int (0)] s := cons_ok (fL_ok (rgL_n (call_ok (cons_ok (var_ok rfl) nil_ok) hx.len) (by omega))) (cons_ok c_ok nil_ok)
  show fParFEE 1 2 3 _ _ [some x, none, none, none, none, none, none] s = _
  unfold fParFEE bnd
  rw [h1]
  simp only [h2]
  rfl
end My

namespace My
/-! how long rises are -/
theorem lg_2 : (allT 2).all (fun r => decide (longT r ≤ 9)) = true := by decide +kernel
theorem lg_4 : (allT 4).all (fun r => decide (longT r ≤ 9)) = true := by decide +kernel
theorem lg_6 : (allT 6).all (fun r => decide (longT r ≤ 9)) = true := by decide +kernel
theorem lg_8 : (allT 8).all (fun r => decide (longT r ≤ 9)) = true := by decide +kernel
theorem lg_10a : ((allT 10).take 472).all (fun r => decide (longT r ≤ 9)) = true := by decide +kernel
theorem lg_10b : ((allT 10).drop 472).all (fun r => decide (longT r ≤ 9)) = true := by decide +kernel
theorem long9 {r : List Nat} (h : IsT r) : longT r ≤ 9 := by
  obtain ⟨n, hn, hr⟩ := h
  simp only [List.mem_cons, List.not_mem_nil, or_false] at hn
  rcases hn with rfl | rfl | rfl | rfl | rfl
  · exact of_decide_eq_true (List.all_eq_true.mp lg_2 r hr)
  · exact of_decide_eq_true (List.all_eq_true.mp lg_4 r hr)
  · exact of_decide_eq_true (List.all_eq_true.mp lg_6 r hr)
  · exact of_decide_eq_true (List.all_eq_true.mp lg_8 r hr)
  · rcases drop_takeT (allT 10) 0 472 hr with h | h
    · exact of_decide_eq_true (List.all_eq_true.mp lg_10a r h)
    · exact of_decide_eq_true (List.all_eq_true.mp lg_10b r h)
end My

namespace Dm
open PySem PySem.Spec PyProof.Rows L2 My
/-! what a tuple of small numbers is written -/
def SOk (x : Str) : Prop := ∀ p ∈ x.cps.toList, p < 1114112
theorem strOk_of {x : Str} (h : SOk x) : PyData.strOk x = true := by
  unfold PyData.strOk
  rw [Array.all_eq_true_iff_forall_mem]
  intro p hp
  exact decide_eq_true (h p (Array.mem_toList_iff.mpr hp))
theorem sok_of (s : String) : SOk (Str.ofString s) := by
  rw [Str.ofString_eq_toList]
  intro p hp
  obtain ⟨c, _, rfl⟩ := List.mem_map.mp hp
  have := c.valid
  have h2 : c.toNat = c.val.toNat := rfl
  rw [h2]
  rcases this with h | ⟨_, h⟩
  · have : c.val.toNat < 55296 := h
    omega
  · exact h
theorem sok_app {x y : Str} (h : SOk x) (g : SOk y) : SOk (x ++ y) := by
  intro p hp
  have e : (x ++ y).cps = x.cps ++ y.cps := rfl
  rw [e, Array.toList_append] at hp
  rcases List.mem_append.mp hp with hp | hp
  · exact h p hp
  · exact g p hp
theorem sok_join {x : Str} (hx : SOk x) : ∀ {ys : List Str}, (∀ y ∈ ys, SOk y) → SOk (x.join ys)
  | [], _ => by
    unfold Str.join
    intro p hp
    cases hp
  | [y], h => by
    unfold Str.join
    exact h y List.mem_cons_self
  | y :: z :: l, h => by
    unfold Str.join
    exact sok_app (sok_app (h y List.mem_cons_self) hx) (sok_join hx fun w hw => h w (List.mem_cons_of_mem _ hw))
theorem pyL_n (c : List Nat) : pyL (nD c) = c.map fun (x : Nat) => PyData.int (x : Int) := by
  induction c with
  | nil => rfl
  | cons x c ih =>
    show py (.int (x : Int)) :: pyL (nD c) = _
    rw [ih]
    rfl
theorem shown_ints (c : List Nat) : PyData.shownAll (c.map fun (x : Nat) => PyData.int (x : Int)) = c.map fun (x : Nat) => Str.ofString (toString (x : Int)) := by
  induction c with
  | nil =>
    unfold PyData.shownAll
    rfl
  | cons x c ih =>
    rw [List.map_cons]
    unfold PyData.shownAll
    rw [ih]
    unfold PyData.shown
    rfl
theorem showable_ints : ∀ (c : List Nat), (∀ x ∈ c, x < 10) → PyData.showableAll (c.map fun (x : Nat) => PyData.int (x : Int)) = true
  | [], _ => by
    unfold PyData.showableAll
    rfl
  | x :: c, h => by
    rw [List.map_cons]
    unfold PyData.showableAll
    rw [showable_ints c fun y hy => h y (List.mem_cons_of_mem _ hy), Bool.and_true]
    have := h x List.mem_cons_self
    unfold PyData.showable
    match x, this with
    | 0, _ | 1, _ | 2, _ | 3, _ | 4, _ | 5, _ | 6, _ | 7, _ | 8, _ | 9, _ => decide
theorem noDict_ints : ∀ (c : List Nat), PyData.hasDictAll (c.map fun (x : Nat) => PyData.int (x : Int)) = false
  | [] => by
    unfold PyData.hasDictAll
    rfl
  | x :: c => by
    rw [List.map_cons]
    unfold PyData.hasDictAll
    rw [noDict_ints c, Bool.or_false]
    unfold PyData.hasDict
    rfl
theorem digit_len {x : Nat} (h : x < 10) : (Str.ofString (toString (x : Int))).length = 1 := by
  rw [PySem.ofString_length]
  match x, h with
  | 0, _ | 1, _ | 2, _ | 3, _ | 4, _ | 5, _ | 6, _ | 7, _ | 8, _ | 9, _ => decide
theorem shown_len {c : List Nat} (h : ∀ x ∈ c, x < 10) (hl : c.length ≤ 1000) : (tupleText (c.map fun (x : Nat) => Str.ofString (toString (x : Int)))).length ≤ 1000000 := by
  have z := tupleText_len_le (c.map fun (x : Nat) => Str.ofString (toString (x : Int)))
  have s : ((c.map fun (x : Nat) => Str.ofString (toString (x : Int))).map fun x => x.length).sum = c.length := by
    rw [List.map_map]
    have e : c.map ((fun x => x.length) ∘ fun (x : Nat) => Str.ofString (toString (x : Int))) = c.map fun _ => 1 := List.map_congr_left fun x hx => digit_len (h x hx)
    rw [e]
    clear e z h hl
    induction c with
    | nil => rfl
    | cons x c ih =>
      rw [List.map_cons, List.sum_cons, ih, List.length_cons]
      omega
  rw [s, List.length_map] at z
  omega
theorem repr_n {c : List Nat} (h : ∀ x ∈ c, x < 10) (hl : c.length ≤ 1000) : ∃ z : Str, reprG [.tup (nD c)] = some (.str z) ∧ gd 64 (.str z) = true := by
  have e : py (.tup (nD c)) = .tuple (c.map fun (x : Nat) => PyData.int (x : Int)) := by rw [py, pyL_n]
  have es : (py (.tup (nD c))).shown = tupleText (c.map fun (x : Nat) => Str.ofString (toString (x : Int))) := by
    rw [e]
    unfold PyData.shown
    rw [shown_ints]
  have h1 : isData (.tup (nD c)) = true := by
    rw [isData]
    exact (gd_all (k := 0) gd_n).1
  have h2 : (py (.tup (nD c))).showable = true := by
    rw [e]
    unfold PyData.showable
    exact showable_ints c h
  have h3 : (py (.tup (nD c))).hasDict = false := by
    rw [e]
    unfold PyData.hasDict
    exact noDict_ints c
  have h4 : (py (.tup (nD c))).depth ≤ 60 := by
    have z := (gd_all (k := 0) (l := nD c) gd_n).2.2
    rw [py, PyData.depth]
    omega
  refine ⟨(py (.tup (nD c))).shown, ?_, ?_⟩
  · show (if (isSq (.tup (nD c)) && isData (.tup (nD c)) && (py (.tup (nD c))).showable && !(py (.tup (nD c))).hasDict && decide ((py (.tup (nD c))).depth ≤ 60) && decide ((py (.tup (nD c))).shown.length ≤ 1000000)) = true then some (D.str (py (.tup (nD c))).shown) else none) = _
    refine if_pos ?_
    rw [h1, h2, h3, decide_eq_true h4, es, decide_eq_true (shown_len h hl)]
    rfl
  · show (true && PyData.canLay0 (.str _) && decide (PyData.depth (.str _) ≤ 64)) = true
    rw [PyData.canLay0, PyData.depth, es, strOk_of (x := tupleText _)]
    · rfl
    · unfold tupleText
      refine sok_app (sok_app (sok_of _) (sok_join (sok_of _) fun y hy => ?_)) (sok_of _)
      obtain ⟨x, _, rfl⟩ := List.mem_map.mp hy
      exact sok_of _
end Dm

namespace My
open PySem PySem.Spec PyProof.Rows L2 Dm
theorem col_lt {r : List Nat} (h : IsT r) : ∀ x ∈ colT r, x < 10 := fun x hx => by
  have a := le_mx hx
  have b := (tOk h).most
  have c := long9 h
  omega
theorem mx_col {r : List Nat} (h : IsT r) : maxD [.tup (nD (colT r))] = some (.int ((mxN (colT r) : Nat) : Int)) := max_n (colT_ne h)
abbrev tB1 : Dm.Env → M Out := (fThen (fSetF 7 (fLc [10, 11] (fEnum (fCons (fVar 4) fNil)) (gTp 2 (gsCons (gNm 10) (gsCons (gNm 11) gsNil))) (fTr (fOp eqD (fVar 11) (fVar 6))) (fVar 10))) (fIf (fTr
    (fOp neD (fL (fLc [10] (fSeq (fVar 7)) (gNm 10) fYes (fOp ixD (fVar 1) (fVar 10)))) (fUn revD (fVar 7)))) (fRet (fC (.bl false))) fSkip))
abbrev tB2 : Dm.Env → M Out := (fThen (fSet 9 (fOwnK 2 f_ties_kept (permOf 0 2 [1, 0]) fNil (fCons (fVar 8) (fCons (fCall listA (fCons (fVar 1) fNil)) fNil)))) (fIf (fOrT (fNotT (fTr (fCall isiD (fCons
    (fVar 9) (fCons (fC (.ty "bool")) fNil))))) (fTr (fOp neD (fVar 9) (fOp leD (fVar 3) (fVar 8))))) (fRet (fC (.bl false))) fSkip))
theorem div2_n (n : Nat) : divD (.int (n : Int)) (.int (2)) = some (.int ((n / 2 : Nat) : Int)) := by
  have e : divD (.int (n : Int)) (.int (2)) = some (.int ((n : Int) / 2)) := rfl
  rw [e, show (n : Int) / 2 = ((n / 2 : Nat) : Int) by omega]
theorem rgL2_eq {a b : Int} {s : BS} (g : (decide (0 ≤ a) && decide (a ≤ b) && decide (b ≤ 1000000)) = true) : (if (decide (0 ≤ a) && decide (a ≤ b) && decide (b ≤ 1000000)) = true then Dm.ret (rgD a (b - a).toNat) else Dm.bad) s = .ok (rgD a (b - a).toNat) s := by
  rw [if_pos g]
theorem isi_bl (b : Bool) : isiD [.bl b, .ty "bool"] = some (.bl true) := rfl
theorem neD_bl (b : Bool) : neD (.bl b) (.bl b) = some (.bl false) := by cases b <;> exact neD_self (by decide +kernel)
theorem told_right_w {r : List Nat} (hr : IsT r) {k : Nat} {q : Addr} {T : List (Addr × Str)} {s : BS} (h : BOk k q T s) (hk : k ≤ 8000) : ∃ s', f_l_told_right [.ref q, .tup (nD r)] s = .ok (.bl true) s' ∧ BOk (k + 1) q T s' := by
  have ok := tOk hr
  have sm := hr.small
  have l9 := long9 hr
  have Lr : Sqn (.lst (nD r)) r := .inl rfl
  have Tr : Sqn (.tup (nD r)) r := .inr rfl
  obtain ⟨j, s', hj, b1, e1⟩ := grab_ok gcs (m := 1000000000) h (by omega) (by omega) (by omega)
  have e1 : f_l_draw [.ref q, .int (1000000000)] s = .ok (.int (j : Int)) s' := e1
  have ne : r ≠ [] := fun z => by
    rw [z] at sm
    simp at sm
  obtain ⟨z, z1, z2⟩ := repr_n (c := colT r) (col_lt hr) (by rw [colT_len]; omega)
  have f1 := levels_w Tr hr s
  have f2 := longest_w Tr ne (by omega) s
  have f3 := tie_colours_w Lr hr s
  have f4 := tie_colours_w Tr hr s
  have f5 := longest_rise_w Lr hr s
  have f6 := longest_rise_w Tr hr s
  have f7 := rise_right_w (x := .tup (nD r)) Tr ok.rise (by omega) (by rw [riseT_len, ok.most]; omega) s
  have f8 := rise_right_w (x := .tup (nD r)) Tr ok.rise2 (by omega) (by rw [List.length_map, riseT_len, ok.most]; omega) s
  have f9 := takes_w (x := .tup (nD r)) (y := .tup (nD (colT r))) Tr (.inr rfl) (colT_len r) ok.lt (by omega) s'
  rw [ok.takes] at f9
  have rf := (rise_facts ok.rise).2.1
  have rl : (riseT r).length = longT r := (rise_facts ok.rise).1
  have cl := colT_len r
  have lm := ok.most
  have mc := mx_col hr
  have cf := ok.col
  have kf := ok.kept
  have kfar : ∀ size : Int, 9 ≤ size → rbT r size = [] := fun size hs => rb_far hr hs r.length (Nat.le_refl _)
  generalize longT r = lg at *
  generalize hc : colT r = c at *
  generalize riseT r = rs at *
  let R : Option D → Option D → Option D → Option D → Option D → Option D → Option D → Dm.Env := fun y5 y6 y7 y8 y9 y10 y11 => [some (.ref q), some (.tup (nD r)), some (.tup (nD c)), some (.int (lg : Int)), some (.tup (nD c)), y5, y6, y7, y8, y9, y10, y11]
  let rv : Option D := some (.tup (nD rs))
  have lL : ∀ {ρ : Dm.Env} {s : BS}, ρ[1]? = some (some (.tup (nD r))) → fCall listA (fCons (fVar 1) fNil) ρ s = .ok (.lst (nD r)) s := fun h => call_ok (cons_ok (var_ok h) nil_ok) rfl
  have lp1 : ∀ y6 y7, ∃ y6' y7', loopL (gNm 6) tB1 (nD (List.range lg)) (R rv y6 y7 none none none none) s = .ok (.nx (R rv y6' y7' none none none none)) s := fun y6 y7 => by
    obtain ⟨ρ', e, y6', y7', rfl⟩ := loop_some (g := gNm 6) (body := tB1) (s := s) (List.range lg) (fun (i : Nat) => D.int (i : Int)) (fun _ ρ => ∃ y6 y7, ρ = R rv y6 y7 none none none none) (ρ := R rv y6 y7 none none none none) ⟨_, _, rfl⟩ fun j i ρ hi hP => by
      obtain ⟨y6, y7, rfl⟩ := hP
      have hi : i < lg := List.mem_range.mp (List.mem_of_getElem? hi)
      have ce := cf i hi
      generalize hF : (List.range r.length).filter (fun e => decide (c.getD e 0 = i)) = F at ce
      have fl : F.length ≤ r.length := by
        rw [← hF]
        have := List.length_filter_le (fun e => decide (c.getD e 0 = i)) (List.range r.length)
        rwa [List.length_range] at this
      have fm : ∀ e ∈ F, e < r.length := fun e he => by
        rw [← hF] at he
        exact List.mem_range.mp (List.mem_filter.mp he).1
      have l1 : fLc [10, 11] (fEnum (fCons (fVar 4) fNil)) (gTp 2 (gsCons (gNm 10) (gsCons (gNm 11) gsNil))) (fTr (fOp eqD (fVar 11) (fVar 6))) (fVar 10) (R rv (some (.int (i : Int))) y7 none none none none) s = .ok (nD F) s := by
        rw [← hF]
        refine lc_of (s1 := s) (List.range r.length) (fun (e : Nat) => D.tup0 [.int (e : Int), .int ((c.getD e 0 : Nat) : Int)]) (fun (e : Nat) => D.int (e : Int)) (fun e => decide (c.getD e 0 = i)) ?_ (by rw [List.length_range]; omega) fun e he => ⟨R rv (some (.int (i : Int))) y7 none none (some (.int (e : Int))) (some (.int ((c.getD e 0 : Nat) : Int))), rfl, ?_, fun _ => var_ok rfl⟩
        · have z := enum_sq (x := .tup (nD c)) (r := c) (.inr rfl) (ρ := R rv (some (.int (i : Int))) y7 none none none none) (s := s) (i := 4) rfl
          rw [cl] at z
          exact z
        · exact tr_ok (op_ok (var_ok rfl) (var_ok rfl) (eqD_n _ _))
      have l2 : fLc [10] (fSeq (fVar 7)) (gNm 10) fYes (fOp ixD (fVar 1) (fVar 10)) (R rv (some (.int (i : Int))) (some (.lst (nD F))) none none none none) s = .ok (nD (F.map fun e => r.getD e 0)) s := by
        refine Eq.trans (lc_all (s1 := s) F (fun (e : Nat) => D.int (e : Int)) (fun e => D.int ((r.getD e 0 : Nat) : Int)) (seqo_ok (var_ok rfl) rfl) (by omega) fun e he => ⟨R rv (some (.int (i : Int))) (some (.lst (nD F))) none none (some (.int (e : Int))) none, rfl, rfl, op_ok (var_ok rfl) (var_ok rfl) (ixD_nT (fm e he))⟩) ?_
        rw [nD_map]
      refine ⟨R rv (some (.int (i : Int))) y7 none none none none, rfl, R rv (some (.int (i : Int))) (some (.lst (nD F))) none none none none, ?_, _, _, rfl⟩
      refine then_ok (ρ1 := R rv (some (.int (i : Int))) (some (.lst (nD F))) none none none none) (s1 := s) (setF_ok l1) (skip_ok (tr_ok (op_ok (fL_ok l2) (un_ok (var_ok rfl) (rev_n F)) ?_)))
      rw [ce]
      exact neD_self (gdL _)
    exact ⟨y6', y7', e⟩
  have kd : ∀ size : Int, (∃ d, d < r.length / 2 + 1 ∧ size = ((d + 1 : Nat) : Int)) ∨ 9 ≤ size → 1 ≤ size ∧ decide (rbT r size = []) = decide ((lg : Int) ≤ size) := fun size hs => by
    rcases hs with ⟨d, hd, rfl⟩ | hs
    · refine ⟨by omega, ?_⟩
      rw [kf d hd]
      by_cases z : lg ≤ d + 1
      · rw [decide_eq_true z, decide_eq_true (by omega)]
      · rw [decide_eq_false z, decide_eq_false (by omega)]
    · exact ⟨by omega, by rw [decide_eq_true (kfar size hs), decide_eq_true (by omega)]⟩
  let sizes : List Int := (List.range' 1 (r.length / 2 + 1)).map (fun (d : Nat) => (d : Int)) ++ [1000000000000000000000000000000, 9 + (j : Int)]
  have sz : ∀ size ∈ sizes, (∃ d, d < r.length / 2 + 1 ∧ size = ((d + 1 : Nat) : Int)) ∨ 9 ≤ size := fun size hs => by
    rcases List.mem_append.mp hs with hs | hs
    · obtain ⟨d, hd, rfl⟩ := List.mem_map.mp hs
      have := List.mem_range'_1.mp hd
      exact .inl ⟨d - 1, by omega, by omega⟩
    · simp only [List.mem_cons, List.not_mem_nil, or_false] at hs
      rcases hs with rfl | rfl
      · exact .inr (by decide)
      · exact .inr (by omega)
  have lp2 : ∀ y6 y7, ∃ y8' y9', loopL (gNm 8) tB2 (sizes.map D.int) (R rv y6 y7 none none none none) s' = .ok (.nx (R rv y6 y7 y8' y9' none none)) s' := fun y6 y7 => by
    obtain ⟨ρ', e, y8', y9', rfl⟩ := loop_some (g := gNm 8) (body := tB2) (s := s') sizes D.int (fun _ ρ => ∃ y8 y9, ρ = R rv y6 y7 y8 y9 none none) (ρ := R rv y6 y7 none none none none) ⟨_, _, rfl⟩ fun j size ρ hi hP => by
      obtain ⟨y8, y9, rfl⟩ := hP
      obtain ⟨p1, p2⟩ := kd size (sz size (List.mem_of_getElem? hi))
      have kk := ties_kept_i (x := .lst (nD r)) Lr hr p1 s'
      rw [p2] at kk
      refine ⟨R rv y6 y7 (some (.int size)) y9 none none, rfl, R rv y6 y7 (some (.int size)) (some (.bl (decide ((lg : Int) ≤ size)))) none none, ?_, _, _, rfl⟩
      refine then_ok (ρ1 := R rv y6 y7 (some (.int size)) (some (.bl (decide ((lg : Int) ≤ size)))) none none) (s1 := s') (set_ok (ownK_ok nil_ok (cons_ok (var_ok rfl) (cons_ok (lL rfl) nil_ok)) perm10 rfl kk)) ?_
      exact skip_ok (or_ff (not_t (tr_ok (call_ok (cons_ok (var_ok rfl) (cons_ok c_ok nil_ok)) (isi_bl _)))) (tr_ok (op_ok (var_ok rfl) (op_ok (var_ok rfl) (var_ok rfl) rfl) (neD_bl _))))
    exact ⟨y8', y9', e⟩
  obtain ⟨y6, y7, el1⟩ := lp1 none none
  obtain ⟨y8, y9, el2⟩ := lp2 y6 y7
  refine ⟨s', fn_rt ?_, b1⟩
  refine then_ok (ρ1 := [some (.ref q), some (.tup (nD r)), some (.tup (nD c)), some (.int (lg : Int)), none, none, none, none, none, none, none, none]) (s1 := s) (par_ok (cons_ok (own_ok (cons_ok (var_ok rfl) nil_ok) rfl f1) (cons_ok (own_ok (cons_ok (var_ok rfl) nil_ok) rfl f2) nil_ok))) ?_
  refine then_ok (ρ1 := R none none none none none none none) (s1 := s) (set_ok (ownK_ok nil_ok (cons_ok (lL rfl) nil_ok) perm0 rfl f3)) ?_
  refine then_ok (ρ1 := R none none none none none none none) (s1 := s) (skip_ok (or_ff (tr_ok (op_ok (var_ok rfl) (var_ok rfl) (neD_self (gdT _)))) (or_ff (tr_ok (op_ok (call_ok (cons_ok (var_ok rfl) nil_ok) z1) (call_ok (cons_ok (var_ok rfl) nil_ok) z1) (neD_self z2))) (or_ff (tr_ok (op_ok (op_ok (call_ok (cons_ok (var_ok rfl) nil_ok) mc) c_ok (z := .int ((mxN c + 1 : Nat) : Int)) rfl) (var_ok rfl) (by rw [neD_n, decide_eq_true lm]; rfl))) (tr_ok (op_ok (own_ok (cons_ok (var_ok rfl) nil_ok) rfl f4) (var_ok rfl) (neD_self (gdT _)))))))) ?_
  refine then_ok (ρ1 := R rv none none none none none none) (s1 := s) (set_ok (ownK_ok nil_ok (cons_ok (lL rfl) nil_ok) perm0 rfl f5)) ?_
  have lt : fLc [10] (fSeq (fVar 5)) (gNm 10) fYes (fOp ixD (fVar 1) (fVar 10)) (R rv none none none none none none) s = .ok (nD (rs.map fun e => r.getD e 0)) s := by
    refine Eq.trans (lc_all (s1 := s) rs (fun (e : Nat) => D.int (e : Int)) (fun e => D.int ((r.getD e 0 : Nat) : Int)) (seqo_ok (var_ok rfl) rfl) (by omega) fun e he => ⟨R rv none none none none (some (.int (e : Int))) none, rfl, rfl, op_ok (var_ok rfl) (var_ok rfl) (ixD_nT (rf e he))⟩) ?_
    rw [nD_map]
  refine then_ok (ρ1 := R rv none none none none none none) (s1 := s) (skip_ok (or_ff (not_t (tr_ok (own_ok (cons_ok (var_ok rfl) (cons_ok (var_ok rfl) (cons_ok (var_ok rfl) nil_ok))) rfl f7))) (or_ff (tr_ok (op_ok (own_ok (cons_ok (var_ok rfl) nil_ok) rfl f6) (var_ok rfl) (neD_self (gdT _)))) (not_t (tr_ok (own_ok (cons_ok (var_ok rfl) (cons_ok (call_ok (cons_ok (fL_ok lt) nil_ok) rfl) (cons_ok (var_ok rfl) nil_ok))) rfl f8)))))) ?_
  refine then_ok (ρ1 := R rv y6 y7 none none none none) (s1 := s) ((for_ok (rg1_n (cons_ok (var_ok rfl) nil_ok) (by omega))).trans el1) ?_
  refine then_ok (ρ1 := R rv y6 y7 y8 y9 none none) (s1 := s') ((for_ok (l := sizes.map D.int) ?_).trans el2) (ret_ok (own_ok (cons_ok (var_ok rfl) (cons_ok (var_ok rfl) nil_ok)) rfl f9))
  have h2 : fRgL2 (fC (.int (1))) (fOp addD (fOp divD (fCall lenD (fCons (fVar 1) fNil)) (fC (.int (2)))) (fC (.int (2)))) (R rv y6 y7 none none none none) s = .ok (nD (List.range' 1 (r.length / 2 + 1))) s := by
    have hd : divD (.int (r.length : Int)) (.int (2)) = some (.int ((r.length / 2 : Nat) : Int)) := div2_n _
    have e := op_ok (g := addD) (op_ok (g := divD) (call_ok (g := lenD) (cons_ok (var_ok (ρ := R rv y6 y7 none none none none) (s := s) (i := 1) (d := .tup (nD r)) rfl) nil_ok) (lenD_T r)) (c_ok (d := .int (2))) hd) (c_ok (d := .int (2))) (z := .int ((r.length / 2 + 2 : Nat) : Int)) rfl
    have g : (decide ((0 : Int) ≤ 1) && decide ((1 : Int) ≤ ((r.length / 2 + 2 : Nat) : Int)) && decide (((r.length / 2 + 2 : Nat) : Int) ≤ 1000000)) = true := by
      rw [decide_eq_true (by decide : (0 : Int) ≤ 1), decide_eq_true (by omega), decide_eq_true (by omega)]
      rfl
    unfold fRgL2
    refine (bnd_ok (a := .int (1)) c_ok).trans ?_
    show bnd _ _ _ = _
    refine (bnd_ok e).trans ?_
    exact (rgL2_eq g).trans (congrArg (fun l => Res.ok l s) (rgD_n (a := 1) (b := r.length / 2 + 2)))
  refine seqo_ok (op_ok (fL_ok h2) (lst_ok (cons_ok (op_ok c_ok c_ok (z := .int 1000000000000000000000000000000) rfl) (cons_ok (op_ok c_ok (own_ok (cons_ok (var_ok rfl) (cons_ok (op_ok c_ok c_ok (z := .int 1000000000) rfl) nil_ok)) rfl e1) (z := .int (9 + (j : Int))) rfl) nil_ok)) sz2) (cat_n _ _ (by
    rw [nD_len, List.length_range']
    show _ + 2 ≤ _
    omega))) ?_
  show some (nD (List.range' 1 (r.length / 2 + 1)) ++ [.int 1000000000000000000000000000000, .int (9 + (j : Int))]) = some (sizes.map D.int)
  refine congrArg some ?_
  rw [List.map_append, List.map_map]
  rfl
end My

namespace My
open PySem PySem.Spec PyProof.Rows L2 Dm
/-! drawn ties -/
theorem get_getDT {l : List Nat} {i : Nat} (h : i < l.length) : l[i]? = some (l.getD i 0) := by
  rw [List.getD_eq_getElem?_getD, List.getElem?_eq_getElem h]
  rfl
theorem setPop_ok {i j : Nat} {f : Dm.Env → M D} {ρ : Dm.Env} {s s1 : BS} {m : List D} {k : Nat} {y : D} (ho : ownL j ρ = some m) (h : f ρ s = .ok (.int (k : Int)) s1) (hy : m[k]? = some y) (hz : m.length ≤ 16000000) :
    fSetPop i j f ρ s = .ok (.nx ((ρ.set j (some (.lst (m.eraseIdx k)))).set i (some y))) s1 := by
  have g : (decide (0 ≤ (k : Int)) && szOk m.length) = true := by
    rw [decide_eq_true (by omega), szOk_le hz]
    rfl
  unfold fSetPop
  rw [ho]
  refine (bnd_ok h).trans ?_
  show (if (decide (0 ≤ (k : Int)) && szOk m.length) = true then (match m[(k : Int).toNat]? with
      | some y => Dm.ret (Out.nx ((ρ.set j (some (.lst (m.eraseIdx (k : Int).toNat)))).set i (some y)))
      | none => Dm.bad) else Dm.bad) s1 = _
  rw [if_pos g, Int.toNat_natCast, hy]
theorem gmSub_ok {i : Nat} {fk : Dm.Env → M D} {d : D} {ρ : Dm.Env} {s s1 : BS} {l : List D} {k : Nat} (ho : ownL i ρ = some l) (h : fk ρ s = .ok (.int (k : Int)) s1) (hk : k < l.length) : gmSub i fk d ρ s = .ok (ρ.set i (some (.lst (l.set k d)))) s1 := by
  unfold gmSub
  rw [ho]
  refine (bnd_ok h).trans ?_
  simp only [ixN_n hk]
theorem asg2_ok {i : Nat} {fa fb fk fl : Dm.Env → M D} {ρ : Dm.Env} {s s1 s2 s3 s4 : BS} {l : List D} {x y : D} {k m : Nat} (ha : fa ρ s = .ok x s1) (hb : fb ρ s1 = .ok y s2) (ho : ownL i ρ = some l) (hk : fk ρ s2 = .ok (.int (k : Int)) s3) (lk : k < l.length)
    (ho2 : ownL i (ρ.set i (some (.lst (l.set k x)))) = some (l.set k x)) (hl : fl (ρ.set i (some (.lst (l.set k x)))) s3 = .ok (.int (m : Int)) s4) (lm : m < l.length) :
    fAsgM (fTup (fCons fa (fCons fb fNil))) (gmTp 2 (gmsCons (gmSub i fk) (gmsCons (gmSub i fl) gmsNil))) ρ s = .ok (.nx ((ρ.set i (some (.lst (l.set k x)))).set i (some (.lst ((l.set k x).set m y))))) s4 := by
  unfold fAsgM
  refine (bnd_ok (tup_ok (cons_ok ha (cons_ok hb nil_ok)) sz2)).trans ?_
  refine bnd_ok (a := (ρ.set i (some (.lst (l.set k x)))).set i (some (.lst ((l.set k x).set m y)))) ?_
  show gmsCons (gmSub i fk) (gmsCons (gmSub i fl) gmsNil) [x, y] ρ s2 = _
  refine (bnd_ok (gmSub_ok ho hk lk)).trans ?_
  refine (bnd_ok (gmSub_ok ho2 hl (by rw [List.length_set]; exact lm))).trans ?_
  rfl
theorem grow_facts {n : Nat} : ∀ {k : Nat} {p : List (Nat × Nat) × List Nat}, p ∈ growK n k → 2 * k ≤ n → p.2.length = n - 2 * k ∧ (∀ x ∈ p.2, x < n) ∧ ∀ z ∈ p.1, z.1 < n ∧ z.2 < n
  | 0, p, h, _ => by
    have h : p ∈ [([], List.range n)] := h
    rw [List.mem_singleton.mp h]
    exact ⟨List.length_range, fun x hx => List.mem_range.mp hx, fun _ h => nomatch h⟩
  | k + 1, p, h, hk => by
    have h : p ∈ (growK n k).flatMap grow1 := h
    obtain ⟨q, hq, hp⟩ := List.mem_flatMap.mp h
    obtain ⟨h1, h2, h3⟩ := grow_facts hq (by omega)
    unfold grow1 at hp
    obtain ⟨a, ha, rfl⟩ := List.mem_map.mp hp
    have ha := List.mem_range.mp ha
    have m0 : q.2.getD 0 0 ∈ q.2 := getD_mem (by omega)
    have m1 : (q.2.drop 1).getD a 0 ∈ q.2 := List.mem_of_mem_drop (getD_mem (by rw [List.length_drop]; omega))
    refine ⟨?_, fun x hx => h2 x (List.mem_of_mem_drop (List.mem_of_mem_eraseIdx hx)), fun z hz => ?_⟩
    · show ((q.2.drop 1).eraseIdx a).length = _
      rw [List.length_eraseIdx, if_pos (by rw [List.length_drop]; exact ha), List.length_drop]
      omega
    · rcases List.mem_append.mp hz with hz | hz
      · exact h3 z hz
      · rw [List.mem_singleton.mp hz]
        exact ⟨h2 _ m0, h2 _ m1⟩
theorem rowT_snoc (n : Nat) (ps : List (Nat × Nat)) (p : Nat × Nat) : rowT n (ps ++ [p]) = rowTS (rowT n ps) p := by
  unfold rowT
  rw [List.foldl_append]
  rfl
theorem rowT_len (n : Nat) (ps : List (Nat × Nat)) : (rowT n ps).length = n := by
  unfold rowT
  rw [foldl_row_len, List.length_replicate]
abbrev yB : Dm.Env → M Out := (fThen (fSetPop 6 2 (fC (.int (0)))) (fThen (fSet 7 (fOwn 2 f_l_draw (fCons (fVar 0) (fCons (fLenO 2)
    fNil)))) (fThen (fIf (fAndT (fTr (fOp gtD (fVar 4) (fC (.int (0))))) (fTr (fOp gtD (fOwn 2 f_l_draw (fCons (fVar 0) (fCons (fC (.int (4))) fNil))) (fC (.int (0))))))
    (fSet 7 (fOp ixD (fLst (fCons (fC (.int (0))) (fCons (fOp subD (fLenO 2) (fC (.int (1)))) (fCons (fOp divD (fLenO 2) (fC (.int (2)))) fNil)))) (fOp subD (fVar 4) (fC
    (.int (1)))))) fSkip) (fThen (fSetPop 8 2 (fVar 7)) (fAsgM (fTup (fCons (fVar 8) (fCons (fVar 6) fNil))) (gmTp 2 (gmsCons (gmSub 3 (fVar 6)) (gmsCons (gmSub 3 (fVar
    8)) gmsNil))))))))
abbrev yE (q : Addr) (n way : Nat) (left row : List Nat) (y5 y6 y7 y8 : Option D) : Dm.Env := [some (.ref q), some (.int (n : Int)), some (.lst (nD left)), some (.lst (nD row)), some (.int (way : Int)), y5, y6, y7, y8]
theorem lenO_ok {i : Nat} {ρ : Dm.Env} {s : BS} {l : List Nat} (h : ownL i ρ = some (nD l)) : fLenO i ρ s = .ok (.int (l.length : Int)) s := by
  unfold fLenO
  rw [h]
  show Res.ok (D.int ((nD l).length : Int)) s = _
  rw [nD_len]
theorem draw_step {n way k : Nat} {q : Addr} {T : List (Addr × Str)} {s : BS} (h : BOk k q T s) (hk : k ≤ 9000) (hw : way < 4) {left row : List Nat} (hl : 2 ≤ left.length) (hn : left.length ≤ 900) (hr : row.length = n) (hlt : ∀ x ∈ left, x < n) {y5 y6 y7 y8 : Option D} :
    ∃ a s' y7', a < left.length - 1 ∧ BOk (k + 2) q T s' ∧ yB (yE q n way left row y5 y6 y7 y8) s = .ok (.nx (yE q n way ((left.drop 1).eraseIdx a) (rowTS row (left.getD 0 0, (left.drop 1).getD a 0)) y5 (some (.int ((left.getD 0 0 : Nat) : Int))) y7' (some (.int (((left.drop 1).getD a 0 : Nat) : Int))))) s' := by
  have ll : (left.drop 1).length = left.length - 1 := List.length_drop
  obtain ⟨at0, s1, h1, b1, e1⟩ := grab_ok gcs (m := (left.drop 1).length) h (by omega) (by omega) (by omega)
  have e1 : f_l_draw [.ref q, .int ((left.drop 1).length : Int)] s = .ok (.int (at0 : Int)) s1 := e1
  obtain ⟨w, s2, h2, b2, e2⟩ := grab_ok gcs (m := 4) b1 (by omega) (by omega) (by omega)
  have e2 : f_l_draw [.ref q, .int (4)] s1 = .ok (.int (w : Int)) s2 := e2
  have ex : left.eraseIdx 0 = left.drop 1 := by
    cases left with
    | nil => rfl
    | cons x l => rfl
  let one := left.getD 0 0
  let A : Option D → Dm.Env := fun y7 => yE q n way (left.drop 1) row y5 (some (.int (one : Int))) y7 y8
  have p1 : fSetPop 6 2 (fC (.int (0))) (yE q n way left row y5 y6 y7 y8) s = .ok (.nx (A y7)) s := by
    have z := setPop_ok (i := 6) (j := 2) (f := fC (.int (0))) (ρ := yE q n way left row y5 y6 y7 y8) (s := s) (s1 := s) (m := nD left) (k := 0) (y := .int (one : Int)) rfl c_ok (nD_get (get_getDT (by omega))) (by rw [nD_len]; omega)
    have en : (nD left).eraseIdx 0 = nD (left.drop 1) := by rw [nD_erase, ex]
    rw [en] at z
    exact z
  have p2 : fSet 7 (fOwn 2 f_l_draw (fCons (fVar 0) (fCons (fLenO 2) fNil))) (A y7) s = .ok (.nx (A (some (.int (at0 : Int))))) s1 := set_ok (own_ok (cons_ok (var_ok rfl) (cons_ok (lenO_ok rfl) nil_ok)) rfl e1)
  -- the place, perhaps another one
  have p3 : ∃ a s3, a < left.length - 1 ∧ BOk (k + 2) q T s3 ∧ (fIf (fAndT (fTr (fOp gtD (fVar 4) (fC (.int (0))))) (fTr (fOp gtD (fOwn 2 f_l_draw (fCons (fVar 0) (fCons (fC (.int (4))) fNil))) (fC (.int (0))))))
      (fSet 7 (fOp ixD (fLst (fCons (fC (.int (0))) (fCons (fOp subD (fLenO 2) (fC (.int (1)))) (fCons (fOp divD (fLenO 2) (fC (.int (2)))) fNil)))) (fOp subD (fVar 4) (fC
      (.int (1)))))) fSkip) (A (some (.int (at0 : Int)))) s1 = .ok (.nx (A (some (.int (a : Int))))) s3 := by
    have t1 : fTr (fOp gtD (fVar 4) (fC (.int (0)))) (A (some (.int (at0 : Int)))) s1 = .ok (decide (0 < way)) s1 := tr_ok (op_ok (var_ok rfl) c_ok (gt_n way 0))
    have t2 : fTr (fOp gtD (fOwn 2 f_l_draw (fCons (fVar 0) (fCons (fC (.int (4))) fNil))) (fC (.int (0)))) (A (some (.int (at0 : Int)))) s1 = .ok (decide (0 < w)) s2 := tr_ok (op_ok (own_ok (cons_ok (var_ok rfl) (cons_ok c_ok nil_ok)) rfl e2) c_ok (gt_n w 0))
    by_cases c1 : 0 < way
    · rw [decide_eq_true c1] at t1
      by_cases c2 : 0 < w
      · rw [decide_eq_true c2] at t2
        have pick : ∃ a, a < left.length - 1 ∧ ([.int (0), .int (((left.drop 1).length - 1 : Nat) : Int), .int (((left.drop 1).length / 2 : Nat) : Int)] : List D)[way - 1]? = some (.int (a : Int)) := by
          rcases (by omega : way = 1 ∨ way = 2 ∨ way = 3) with rfl | rfl | rfl
          · exact ⟨0, by omega, rfl⟩
          · exact ⟨(left.drop 1).length - 1, by omega, rfl⟩
          · exact ⟨(left.drop 1).length / 2, by omega, rfl⟩
        obtain ⟨a, ha, ea⟩ := pick
        refine ⟨a, s2, ha, b2, ifT_ok (and_tt t1 t2) (set_ok (op_ok (x := .lst [.int (0), .int (((left.drop 1).length - 1 : Nat) : Int), .int (((left.drop 1).length / 2 : Nat) : Int)]) (y := .int ((way - 1 : Nat) : Int)) (lst_ok (cons_ok c_ok (cons_ok (op_ok (lenO_ok rfl) c_ok ?_) (cons_ok (op_ok (lenO_ok rfl) c_ok (div2_n _)) nil_ok))) sz3) (op_ok (var_ok rfl) c_ok ?_) (atI_nat ea)))⟩
        · show some (D.int (((left.drop 1).length : Int) - 1)) = _
          rw [show (((left.drop 1).length - 1 : Nat) : Int) = ((left.drop 1).length : Int) - 1 by omega]
        · show some (D.int ((way : Int) - 1)) = _
          rw [show ((way - 1 : Nat) : Int) = (way : Int) - 1 by omega]
      · rw [decide_eq_false c2] at t2
        exact ⟨at0, s2, by omega, b2, skip_ok (and_tt t1 t2)⟩
    · rw [decide_eq_false c1] at t1
      exact ⟨at0, s1, by omega, b1.le (by omega), skip_ok (and_f t1)⟩
  obtain ⟨a, s3, ha, b3, e3⟩ := p3
  have m0 : one < n := hlt _ (getD_mem (by omega))
  have m1 : (left.drop 1).getD a 0 < n := hlt _ (List.mem_of_mem_drop (getD_mem (by omega)))
  refine ⟨a, s3, some (.int (a : Int)), ha, b3, then_ok p1 (then_ok p2 (then_ok e3 ?_))⟩
  have p4 : fSetPop 8 2 (fVar 7) (A (some (.int (a : Int)))) s3 = .ok (.nx (yE q n way ((left.drop 1).eraseIdx a) row y5 (some (.int (one : Int))) (some (.int (a : Int))) (some (.int (((left.drop 1).getD a 0 : Nat) : Int))))) s3 := by
    have z := setPop_ok (i := 8) (j := 2) (f := fVar 7) (ρ := A (some (.int (a : Int)))) (s := s3) (s1 := s3) (m := nD (left.drop 1)) (k := a) (y := .int (((left.drop 1).getD a 0 : Nat) : Int)) rfl (var_ok rfl) (nD_get (get_getDT (by omega))) (by rw [nD_len]; omega)
    rw [nD_erase] at z
    exact z
  refine then_ok p4 ?_
  have z := asg2_ok (i := 3) (fa := fVar 8) (fb := fVar 6) (fk := fVar 6) (fl := fVar 8) (ρ := yE q n way ((left.drop 1).eraseIdx a) row y5 (some (.int (one : Int))) (some (.int (a : Int))) (some (.int (((left.drop 1).getD a 0 : Nat) : Int)))) (s := s3) (s1 := s3) (s2 := s3) (s3 := s3) (s4 := s3) (l := nD row)
    (x := .int (((left.drop 1).getD a 0 : Nat) : Int)) (y := .int (one : Int)) (k := one) (m := (left.drop 1).getD a 0) (var_ok rfl) (var_ok rfl) rfl (var_ok rfl) (by rw [nD_len, hr]; exact m0) rfl (var_ok rfl) (by rw [nD_len, hr]; exact m1)
  rw [nD_set, nD_set] at z
  exact z
theorem ties_w {n k : Nat} {q : Addr} {T : List (Addr × Str)} {s : BS} (h : BOk k q T s) (hk : k ≤ 8000) (h10 : n ≤ 10) (hn : n % 2 = 0) :
    ∃ (r : List Nat) (s' : BS), r ∈ allT n ∧ BOk (k + 11) q T s' ∧ f_l_ties [.ref q, .int (n : Int)] s = .ok (.tup (nD r)) s' := by
  obtain ⟨way, s1, hway, b1, e1⟩ := grab_ok gcs (m := 4) h (by omega) (by omega) (by omega)
  have e1 : f_l_draw [.ref q, .int (4)] s = .ok (.int (way : Int)) s1 := e1
  obtain ⟨ρ', s', e3, p, y5, y6, y7, y8, rfl, hp, hb⟩ := loop_inv (g := gNm 5) (body := yB)
    (fun j ρ s => ∃ p y5 y6 y7 y8, ρ = yE q n way p.2 (rowT n p.1) y5 y6 y7 y8 ∧ p ∈ growK n j ∧ BOk (k + 1 + 2 * j) q T s)
    (nD (List.range (n / 2))) 0 (yE q n way (List.range n) (List.replicate n 0) none none none none) s1 ⟨([], List.range n), _, _, _, _, rfl, List.mem_singleton.mpr rfl, b1⟩ fun j d hd ρ s hP => by
      obtain ⟨p, y5, y6, y7, y8, rfl, hp, hb⟩ := hP
      rw [Nat.zero_add] at hp hb ⊢
      have lj : j < n / 2 := by
        have := (List.getElem?_eq_some_iff.mp hd).1
        rwa [nD_len, List.length_range] at this
      obtain ⟨f1, f2, f3⟩ := grow_facts hp (by omega)
      obtain ⟨a, s', y7', ha, hb', e⟩ := draw_step (n := n) (way := way) (row := rowT n p.1) (left := p.2) hb (by omega) hway (by omega) (by omega) (rowT_len n p.1) f2 (y5 := some d) (y6 := y6) (y7 := y7) (y8 := y8)
      refine ⟨yE q n way p.2 (rowT n p.1) (some d) y6 y7 y8, rfl, _, s', e, (p.1 ++ [(p.2.getD 0 0, (p.2.drop 1).getD a 0)], (p.2.drop 1).eraseIdx a), some d, some (.int ((p.2.getD 0 0 : Nat) : Int)), y7', some (.int (((p.2.drop 1).getD a 0 : Nat) : Int)), ?_, ?_, hb'⟩
      · show _ = yE q n way ((p.2.drop 1).eraseIdx a) (rowT n (p.1 ++ [(p.2.getD 0 0, (p.2.drop 1).getD a 0)])) _ _ _ _
        rw [rowT_snoc]
      · show _ ∈ (growK n j).flatMap grow1
        exact List.mem_flatMap.mpr ⟨p, hp, List.mem_map.mpr ⟨a, List.mem_range.mpr ha, rfl⟩⟩
  rw [Nat.zero_add, nD_len, List.length_range] at hp hb
  refine ⟨rowT n p.1, s', List.mem_map.mpr ⟨p, hp, rfl⟩, hb.le (by omega), fn_rt ?_⟩
  refine then_ok (ρ1 := yE q n way (List.range n) (List.replicate n 0) none none none none) (s1 := s1) ?_ (then_ok (ρ1 := yE q n way p.2 (rowT n p.1) y5 y6 y7 y8) (s1 := s') ((for_ok (rg1_n (cons_ok (op_ok (var_ok rfl) c_ok (div2_n n)) nil_ok) (by omega))).trans e3) (ret_ok (call_ok (cons_ok (var_ok rfl) nil_ok) rfl)))
  have h1 : fRgL (fVar 1) [some (.ref q), some (.int (n : Int)), none, none, none, none, none, none, none] s = .ok (nD (List.range n)) s := rgL_n (var_ok rfl) (by omega)
  have h2 : fRep (fLst (fCons (fC (.int (0))) fNil)) (fVar 1) [some (.ref q), some (.int (n : Int)), none, none, none, none, none, none, none] s = .ok (nD (List.replicate n 0)) s := rep_zero n (by omega) (var_ok rfl)
  have h3 : fOwn 2 f_l_draw (fCons (fVar 0) (fCons (fC (.int (4))) fNil)) [some (.ref q), some (.int (n : Int)), none, none, none, none, none, none, none] s = .ok (.int (way : Int)) s1 := own_ok (cons_ok (var_ok rfl) (cons_ok c_ok nil_ok)) rfl e1
  show fParFFE 2 3 4 _ _ _ [some (.ref q), some (.int (n : Int)), none, none, none, none, none, none, none] s = _
  unfold fParFFE
  exact (bnd_ok h1).trans ((bnd_ok h2).trans ((bnd_ok h3).trans rfl))
end My

namespace My
open PySem PySem.Spec PyProof.Rows L2 Dm
/-! all ties, in order -/
def chainLe : List D → Bool
  | x :: y :: l => leD' x y && chainLe (y :: l)
  | _ => true
theorem isort_chain : ∀ l : List D, chainLe l = true → isortD leD' l = l
  | [], _ => rfl
  | [x], _ => rfl
  | x :: y :: l, h => by
    have h : (leD' x y && chainLe (y :: l)) = true := h
    rw [Bool.and_eq_true] at h
    show insD leD' x (isortD leD' (y :: l)) = _
    rw [isort_chain (y :: l) h.2]
    show (if leD' x y = true then x :: y :: l else y :: insD leD' x l) = _
    rw [if_pos h.1]
theorem ints_rD : ∀ {F : List (List Nat)}, F ≠ [] → intsOf (rD F) = none
  | [], h => absurd rfl h
  | _ :: _, _ => rfl
def srtOk (F : List (List Nat)) : Bool := sortAnyB (rD F) && chainLe (rD F) && !F.isEmpty
theorem srt_of {F : List (List Nat)} (h : srtOk F = true) : sortA [.lst (rD F)] = some (.lst (rD F)) := by
  unfold srtOk at h
  rw [Bool.and_eq_true, Bool.and_eq_true] at h
  have ne : F ≠ [] := fun z => by
    rw [z] at h
    exact absurd h.2 (by decide)
  have e1 : sortedD [.lst (rD F)] = none := by
    show (match intsOf (rD F) with | some ns => if decide (ns.length < 64) = true then some (D.lst ((sortI ns).map D.int)) else none | none => none) = _
    rw [ints_rD ne]
  have e2 : sortAnyD [.lst (rD F)] = some (.lst (rD F)) := by
    show (if sortAnyB (rD F) = true then some (D.lst (isortD leD' (rD F))) else none) = _
    rw [if_pos h.1.1, isort_chain _ h.1.2]
  unfold sortA
  rw [e1]
  exact e2
theorem srt_2 : srtOk (allT 2) = true := by decide +kernel
theorem srt_4 : srtOk (allT 4) = true := by decide +kernel
theorem srt_6 : srtOk (allT 6) = true := by decide +kernel
theorem srt_8 : srtOk (allT 8) = true := by decide +kernel
end My

namespace My
open PySem PySem.Spec PyProof.Rows L2 Dm
/-! all ties are told -/
def psD (ps : List (Nat × Nat)) : List D := ps.map fun a => .tup [.int (a.1 : Int), .int (a.2 : Int)]
def pD (p : List (Nat × Nat) × List Nat) : D := .tup [.tup (psD p.1), .tup (nD p.2)]
theorem cut_ab (l : List Nat) {a b : Nat} (h : a ≤ b) (hb : b ≤ l.length) : slD (.tup (nD l)) (some (a : Int)) (some (b : Int)) = some (.tup (nD ((l.drop a).take (b - a)))) := by
  show some (D.tup (((nD l).drop (if (a : Int) < 0 then ((a : Int) + ((nD l).length : Int)).toNat else min (a : Int).toNat (nD l).length)).take ((if (b : Int) < 0 then ((b : Int) + ((nD l).length : Int)).toNat else min (b : Int).toNat (nD l).length) - (if (a : Int) < 0 then ((a : Int) + ((nD l).length : Int)).toNat else min (a : Int).toNat (nD l).length)))) = _
  rw [if_neg (by omega), if_neg (by omega), nD_len, Int.toNat_natCast, Int.toNat_natCast, Nat.min_eq_left hb, Nat.min_eq_left (Nat.le_trans h hb)]
  unfold nD
  rw [List.map_take, List.map_drop]
theorem cut_lo (l : List Nat) {a : Nat} (h : a ≤ l.length) : slD (.tup (nD l)) (some (a : Int)) none = some (.tup (nD (l.drop a))) := by
  show some (D.tup (((nD l).drop (if (a : Int) < 0 then ((a : Int) + ((nD l).length : Int)).toNat else min (a : Int).toNat (nD l).length)).take ((nD l).length - (if (a : Int) < 0 then ((a : Int) + ((nD l).length : Int)).toNat else min (a : Int).toNat (nD l).length)))) = _
  rw [if_neg (by omega), nD_len, Int.toNat_natCast, Nat.min_eq_left h, List.take_of_length_le (by rw [List.length_drop, nD_len]; omega)]
  unfold nD
  rw [List.map_drop]
theorem catT (a b : List D) (h : a.length + b.length ≤ 1000) : addD (.tup a) (.tup b) = some (.tup (a ++ b)) := by
  have e : addD (.tup a) (.tup b) = if szOk (a.length + b.length) = true then some (.tup (a ++ b)) else none := by
    unfold addD
    rfl
  rw [e, if_pos (szOk_le (by omega))]
theorem erase_cut (l : List Nat) {x : Nat} (h1 : 1 ≤ x) (h : x < l.length) : (l.drop 1).take (x - 1) ++ l.drop (x + 1) = (l.drop 1).eraseIdx (x - 1) := by
  rw [List.eraseIdx_eq_take_drop_succ, List.drop_drop]
  congr 2
  omega
abbrev gB : Dm.Env → M Out := (fApp 3 (fTup (fCons (fOp addD (fVar 4) (fTup (fCons (fTup (fCons (fOp ixD (fVar 5) (fC (.int (0)))) (fCons (fOp ixD (fVar 5) (fVar
    6)) fNil))) fNil))) (fCons (fOp addD (fSl (fVar 5) (fPart (fC (.int (1)))) (fPart (fVar 6))) (fSl (fVar 5) (fPart (fOp addD (fVar 6) (fC (.int (1))))) fPartN))
    fNil))))
abbrev gI : Dm.Env → M Out := (fFor (fRg2 (fCons (fC (.int (1))) (fCons (fCall lenD (fCons (fVar 5) fNil)) fNil))) (gNm 6) gB)
abbrev gE (n : Nat) (x1 y2 : Option D) (acc : List (List (Nat × Nat) × List Nat)) (y4 y5 y6 : Option D) : Dm.Env := [some (.int (n : Int)), x1, y2, some (.lst (acc.map pD)), y4, y5, y6, none, none, none, none]
theorem grow1_r (p : List (Nat × Nat) × List Nat) : grow1 p = (List.range' 1 (p.2.length - 1)).map fun x => (p.1 ++ [(p.2.getD 0 0, p.2.getD x 0)], (p.2.drop 1).eraseIdx (x - 1)) := by
  unfold grow1
  rw [List.range'_eq_map_range, List.map_map]
  refine List.map_congr_left fun a ha => ?_
  have ha := List.mem_range.mp ha
  show _ = (p.1 ++ [(p.2.getD 0 0, p.2.getD (1 + a) 0)], (p.2.drop 1).eraseIdx (1 + a - 1))
  rw [show (p.2.drop 1).getD a 0 = p.2.getD (1 + a) 0 by rw [List.getD_eq_getElem?_getD, List.getElem?_drop, List.getD_eq_getElem?_getD], show 1 + a - 1 = a by omega]
theorem grow1_len (p : List (Nat × Nat) × List Nat) : (grow1 p).length = p.2.length - 1 := by
  unfold grow1
  rw [List.length_map, List.length_range]
theorem inner_w {n : Nat} {x1 y2 y6 : Option D} {p : List (Nat × Nat) × List Nat} {acc : List (List (Nat × Nat) × List Nat)} (h1 : 1 ≤ p.2.length) (h9 : p.2.length ≤ 10) (hp : p.1.length ≤ 10) (ha : acc.length ≤ 100000) (s : BS) :
    ∃ y6', gI (gE n x1 y2 acc (some (.tup (psD p.1))) (some (.tup (nD p.2))) y6) s = .ok (.nx (gE n x1 y2 (acc ++ grow1 p) (some (.tup (psD p.1))) (some (.tup (nD p.2))) y6')) s := by
  let f : Nat → List (Nat × Nat) × List Nat := fun x => (p.1 ++ [(p.2.getD 0 0, p.2.getD x 0)], (p.2.drop 1).eraseIdx (x - 1))
  obtain ⟨ρ', e, y6', rfl⟩ := loop_some (g := gNm 6) (body := gB) (s := s) (List.range' 1 (p.2.length - 1)) (fun (i : Nat) => D.int (i : Int))
    (fun j ρ => ∃ y6, ρ = gE n x1 y2 (acc ++ ((List.range' 1 (p.2.length - 1)).take j).map f) (some (.tup (psD p.1))) (some (.tup (nD p.2))) y6) (ρ := gE n x1 y2 acc (some (.tup (psD p.1))) (some (.tup (nD p.2))) y6) ⟨y6, by rw [List.take_zero, List.map_nil, List.append_nil]⟩ fun j x ρ hx hP => by
      obtain ⟨y6, rfl⟩ := hP
      have hm := List.mem_range'_1.mp (List.mem_of_getElem? hx)
      have lj : j < p.2.length - 1 := by
        have := (List.getElem?_eq_some_iff.mp hx).1
        rwa [List.length_range'] at this
      have e2 : acc ++ ((List.range' 1 (p.2.length - 1)).take (j + 1)).map f = (acc ++ ((List.range' 1 (p.2.length - 1)).take j).map f) ++ [f x] := by
        rw [List.take_add_one, hx, List.map_append, List.append_assoc]
        rfl
      rw [e2]
      have la : (acc ++ ((List.range' 1 (p.2.length - 1)).take j).map f).length ≤ 200000 := by
        rw [List.length_append, List.length_map, List.length_take, List.length_range']
        omega
      generalize acc ++ ((List.range' 1 (p.2.length - 1)).take j).map f = ac at *
      refine ⟨gE n x1 y2 ac (some (.tup (psD p.1))) (some (.tup (nD p.2))) (some (.int (x : Int))), rfl, gE n x1 y2 (ac ++ [f x]) (some (.tup (psD p.1))) (some (.tup (nD p.2))) (some (.int (x : Int))), ?_, _, rfl⟩
      have z := app_ok (i := 3) (ρ := gE n x1 y2 ac (some (.tup (psD p.1))) (some (.tup (nD p.2))) (some (.int (x : Int)))) (s := s) (s1 := s) (l := ac.map pD) (d := pD (f x)) (f := (fTup (fCons (fOp addD (fVar 4) (fTup (fCons (fTup (fCons (fOp ixD (fVar 5) (fC (.int (0)))) (fCons (fOp ixD (fVar 5) (fVar
          6)) fNil))) fNil))) (fCons (fOp addD (fSl (fVar 5) (fPart (fC (.int (1)))) (fPart (fVar 6))) (fSl (fVar 5) (fPart (fOp addD (fVar 6) (fC (.int (1))))) fPartN))
          fNil)))) rfl ?_ (by rw [List.length_map]; omega)
      · have e3 : (ac ++ [f x]).map pD = ac.map pD ++ [pD (f x)] := by rw [List.map_append]; rfl
        show _ = Res.ok (Out.nx [some (.int (n : Int)), x1, y2, some (.lst ((ac ++ [f x]).map pD)), some (.tup (psD p.1)), some (.tup (nD p.2)), some (.int (x : Int)), none, none, none, none]) s
        rw [e3]
        exact z
      · refine tup_ok (l := [.tup (psD (p.1 ++ [(p.2.getD 0 0, p.2.getD x 0)])), .tup (nD ((p.2.drop 1).eraseIdx (x - 1)))]) (cons_ok (op_ok (y := .tup [.tup [.int ((p.2.getD 0 0 : Nat) : Int), .int ((p.2.getD x 0 : Nat) : Int)]]) (var_ok rfl) (tup_ok (cons_ok (tup_ok (cons_ok (op_ok (var_ok rfl) c_ok (ixD_nT (x := 0) (by omega))) (cons_ok (op_ok (var_ok rfl) (var_ok rfl) (ixD_nT (by omega))) nil_ok)) sz2) nil_ok) sz1) ?_)
          (cons_ok (op_ok (slice_ok (var_ok rfl) (part_ok c_ok) (part_ok (var_ok rfl)) (cut_ab p.2 (a := 1) (b := x) (by omega) (by omega))) (slice_ok (var_ok rfl) (part_ok (i := ((x + 1 : Nat) : Int)) (op_ok (var_ok rfl) c_ok rfl)) partN_ok (cut_lo p.2 (a := x + 1) (by omega))) ?_) nil_ok)) sz2
        · rw [catT _ _ (by unfold psD; rw [List.length_map]; show _ + 1 ≤ _; omega)]
          unfold psD
          rw [List.map_append]
          rfl
        · rw [add_nT (by rw [List.length_take, List.length_drop, List.length_drop]; omega), erase_cut p.2 (by omega) (by omega)]
  have full : (List.range' 1 (p.2.length - 1)).take (List.range' 1 (p.2.length - 1)).length = List.range' 1 (p.2.length - 1) := List.take_length
  rw [full, ← grow1_r p] at e
  exact ⟨y6', (for_ok (rg2_n (a := 1) (b := p.2.length) (cons_ok c_ok (cons_ok (call_ok (cons_ok (var_ok rfl) nil_ok) (lenD_T _)) nil_ok)) (by omega) (by omega))).trans e⟩
abbrev gO : Dm.Env → M Out := (fThen (fSetF 3 (fF fNil)) (fThen (fFor (fSeq (fVar 1)) (gTp 2 (gsCons (gNm 4) (gsCons (gNm 5) gsNil))) gI) (fSet 1 (fVar 3))))
theorem flat_len : ∀ (l : List (List (Nat × Nat) × List Nat)), (∀ p ∈ l, p.2.length ≤ 10) → (l.flatMap grow1).length ≤ 10 * l.length
  | [], _ => Nat.zero_le _
  | p :: l, h => by
    rw [List.flatMap_cons, List.length_append, grow1_len, List.length_cons]
    have := flat_len l fun q hq => h q (List.mem_cons_of_mem _ hq)
    have := h p List.mem_cons_self
    omega
theorem pairs_len {n : Nat} : ∀ {k : Nat} {p : List (Nat × Nat) × List Nat}, p ∈ growK n k → p.1.length = k
  | 0, p, h => by
    have h : p ∈ [([], List.range n)] := h
    rw [List.mem_singleton.mp h]
    rfl
  | k + 1, p, h => by
    have h : p ∈ (growK n k).flatMap grow1 := h
    obtain ⟨q, hq, hp⟩ := List.mem_flatMap.mp h
    have ih := pairs_len hq
    unfold grow1 at hp
    obtain ⟨a, ha, rfl⟩ := List.mem_map.mp hp
    show (q.1 ++ [_]).length = _
    rw [List.length_append, ih]
    rfl
theorem turn_w {n j : Nat} (h10 : n ≤ 10) (hj : 2 * (j + 1) ≤ n) (hs : (growK n j).length ≤ 1000) {y2 y3 y4 y5 y6 : Option D} (s : BS) :
    ∃ y3' y4' y5' y6', gO [some (.int (n : Int)), some (.lst ((growK n j).map pD)), y2, y3, y4, y5, y6, none, none, none, none] s = .ok (.nx [some (.int (n : Int)), some (.lst ((growK n (j + 1)).map pD)), y2, y3', y4', y5', y6', none, none, none, none]) s := by
  have gf : ∀ p ∈ growK n j, p.2.length = n - 2 * j ∧ p.1.length = j := fun p hp => ⟨(grow_facts hp (by omega)).1, pairs_len hp⟩
  have gs : growK n (j + 1) = (growK n j).flatMap grow1 := rfl
  rw [gs]
  generalize growK n j = F at *
  obtain ⟨ρ', e, y4', y5', y6', rfl⟩ := loop_some (g := gTp 2 (gsCons (gNm 4) (gsCons (gNm 5) gsNil))) (body := gI) (s := s) F pD
    (fun k ρ => ∃ y4 y5 y6, ρ = gE n (some (.lst (F.map pD))) y2 ((F.take k).flatMap grow1) y4 y5 y6) (ρ := gE n (some (.lst (F.map pD))) y2 [] y4 y5 y6) ⟨_, _, _, rfl⟩ fun k p ρ hp hP => by
      obtain ⟨y4, y5, y6, rfl⟩ := hP
      obtain ⟨g1, g2⟩ := gf p (List.mem_of_getElem? hp)
      have lk := (List.getElem?_eq_some_iff.mp hp).1
      obtain ⟨y6', e⟩ := inner_w (n := n) (x1 := some (.lst (F.map pD))) (y2 := y2) (y6 := y6) (p := p) (acc := (F.take k).flatMap grow1) (by omega) (by omega) (by omega) (by
        have := flat_len (F.take k) fun q hq => by have := (gf q (List.mem_of_mem_take hq)).1; omega
        rw [List.length_take] at this
        omega) s
      refine ⟨gE n (some (.lst (F.map pD))) y2 ((F.take k).flatMap grow1) (some (.tup (psD p.1))) (some (.tup (nD p.2))) y6, rfl, _, e, some (.tup (psD p.1)), some (.tup (nD p.2)), y6', ?_⟩
      rw [List.take_add_one, hp, List.flatMap_append]
      show _ = gE n _ y2 ((F.take k).flatMap grow1 ++ [p].flatMap grow1) _ _ _
      rw [List.flatMap_singleton]
  rw [List.take_length] at e
  refine ⟨some (.lst ((F.flatMap grow1).map pD)), y4', y5', y6', ?_⟩
  refine then_ok (ρ1 := gE n (some (.lst (F.map pD))) y2 [] y4 y5 y6) (s1 := s) (setF_ok (fF_ok nil_ok sz0)) ?_
  exact then_ok (ρ1 := gE n (some (.lst (F.map pD))) y2 (F.flatMap grow1) y4' y5' y6') (s1 := s) ((for_ok (seqo_ok (var_ok rfl) rfl)).trans e) (set_ok (var_ok rfl))
/-! rows of pairs -/
abbrev oB : Dm.Env → M Out := (fAsgM (fTup (fCons (fVar 10) (fCons (fVar 9) fNil))) (gmTp 2 (gmsCons (gmSub 8 (fVar 9)) (gmsCons (gmSub 8 (fVar 10)) gmsNil))))
abbrev oE (n : Nat) (x1 y2 y3 y4 y5 y6 : Option D) (rows : List (List Nat)) (y8 y9 y10 : Option D) : Dm.Env := [some (.int (n : Int)), x1, y2, y3, y4, y5, y6, some (.lst (rD rows)), y8, y9, y10]
theorem row_w {n : Nat} {x1 y2 y3 y4 y5 y6 y9 y10 : Option D} {rows : List (List Nat)} {ps : List (Nat × Nat)} (h : ∀ z ∈ ps, z.1 < n ∧ z.2 < n) (s : BS) :
    ∃ y9' y10', loopL (gTp 2 (gsCons (gNm 9) (gsCons (gNm 10) gsNil))) oB (psD ps) (oE n x1 y2 y3 y4 y5 y6 rows (some (.lst (nD (List.replicate n 0)))) y9 y10) s = .ok (.nx (oE n x1 y2 y3 y4 y5 y6 rows (some (.lst (nD (rowT n ps)))) y9' y10')) s := by
  obtain ⟨ρ', e, y9', y10', rfl⟩ := loop_some (g := gTp 2 (gsCons (gNm 9) (gsCons (gNm 10) gsNil))) (body := oB) (s := s) ps (fun a => D.tup [.int (a.1 : Int), .int (a.2 : Int)])
    (fun k ρ => ∃ y9 y10, ρ = oE n x1 y2 y3 y4 y5 y6 rows (some (.lst (nD (rowT n (ps.take k))))) y9 y10) (ρ := oE n x1 y2 y3 y4 y5 y6 rows (some (.lst (nD (List.replicate n 0)))) y9 y10) ⟨_, _, rfl⟩ fun k a ρ ha hP => by
      obtain ⟨y9, y10, rfl⟩ := hP
      obtain ⟨h1, h2⟩ := h a (List.mem_of_getElem? ha)
      have e2 : rowT n (ps.take (k + 1)) = rowTS (rowT n (ps.take k)) a := by
        rw [List.take_add_one, ha]
        exact rowT_snoc n _ a
      rw [e2]
      have lr := rowT_len n (ps.take k)
      generalize rowT n (ps.take k) = r at *
      refine ⟨oE n x1 y2 y3 y4 y5 y6 rows (some (.lst (nD r))) (some (.int (a.1 : Int))) (some (.int (a.2 : Int))), rfl, oE n x1 y2 y3 y4 y5 y6 rows (some (.lst (nD (rowTS r a)))) (some (.int (a.1 : Int))) (some (.int (a.2 : Int))), ?_, _, _, rfl⟩
      have z := asg2_ok (i := 8) (fa := fVar 10) (fb := fVar 9) (fk := fVar 9) (fl := fVar 10) (ρ := oE n x1 y2 y3 y4 y5 y6 rows (some (.lst (nD r))) (some (.int (a.1 : Int))) (some (.int (a.2 : Int)))) (s := s) (s1 := s) (s2 := s) (s3 := s) (s4 := s) (l := nD r)
        (x := .int (a.2 : Int)) (y := .int (a.1 : Int)) (k := a.1) (m := a.2) (var_ok rfl) (var_ok rfl) rfl (var_ok rfl) (by rw [nD_len, lr]; exact h1) rfl (var_ok rfl) (by rw [nD_len, lr]; exact h2)
      rw [nD_set, nD_set] at z
      exact z
  rw [List.take_length] at e
  exact ⟨y9', y10', e⟩
abbrev oO : Dm.Env → M Out := (fThen (fSetF 8 (fRep (fLst (fCons (fC (.int (0))) fNil)) (fVar 0))) (fThen (fFor (fSeq (fVar 4)) (gTp 2 (gsCons (gNm 9) (gsCons (gNm 10) gsNil))) oB) (fApp 7 (fCall tupleD (fCons (fVar 8) fNil)))))
theorem all_ties_w {n : Nat} (hn : n ∈ [2, 4, 6, 8]) (s : BS) : f_l_all_ties [.int (n : Int)] s = .ok (.lst (rD (allT n))) s := by
  have h10 : n ≤ 8 ∧ 2 ≤ n ∧ n % 2 = 0 := by
    simp only [List.mem_cons, List.not_mem_nil, or_false] at hn
    omega
  have hs : ∀ j, j ≤ n / 2 → (growK n j).length ≤ 1000 := by
    have z : ∀ n, n < 9 → ∀ j, j < 5 → (growK n j).length ≤ 1000 := by decide +kernel
    exact fun j hj => z n (by omega) j (by omega)
  have srt : sortA [.lst (rD (allT n))] = some (.lst (rD (allT n))) := by
    simp only [List.mem_cons, List.not_mem_nil, or_false] at hn
    rcases hn with rfl | rfl | rfl | rfl
    · exact srt_of srt_2
    · exact srt_of srt_4
    · exact srt_of srt_6
    · exact srt_of srt_8
  obtain ⟨ρ', e, y2, y3, y4, y5, y6, rfl⟩ := loop_some (g := gNm 2) (body := gO) (s := s) (List.range (n / 2)) (fun (i : Nat) => D.int (i : Int))
    (fun j ρ => ∃ y2 y3 y4 y5 y6, ρ = [some (.int (n : Int)), some (.lst ((growK n j).map pD)), y2, y3, y4, y5, y6, none, none, none, none]) (ρ := [some (.int (n : Int)), some (.lst ((growK n 0).map pD)), none, none, none, none, none, none, none, none, none]) ⟨_, _, _, _, _, rfl⟩ fun j i ρ hi hP => by
      obtain ⟨y2, y3, y4, y5, y6, rfl⟩ := hP
      have lj : j < n / 2 := by
        have := (List.getElem?_eq_some_iff.mp hi).1
        rwa [List.length_range] at this
      obtain ⟨y3', y4', y5', y6', e⟩ := turn_w (n := n) (j := j) (by omega) (by omega) (hs j (by omega)) (y2 := some (.int (i : Int))) (y3 := y3) (y4 := y4) (y5 := y5) (y6 := y6) s
      exact ⟨_, rfl, _, e, _, _, _, _, _, rfl⟩
  rw [List.length_range] at e
  have gf : ∀ p ∈ growK n (n / 2), ∀ z ∈ p.1, z.1 < n ∧ z.2 < n := fun p hp => (grow_facts hp (by omega)).2.2
  have gl := hs (n / 2) (Nat.le_refl _)
  have ea : allT n = (growK n (n / 2)).map fun p => rowT n p.1 := rfl
  rw [ea] at srt ⊢
  generalize growK n (n / 2) = F at *
  obtain ⟨ρ2, e2, z4, z5, z8, z9, z10, rfl⟩ := loop_some (g := gTp 2 (gsCons (gNm 4) (gsCons (gNm 5) gsNil))) (body := oO) (s := s) F pD
    (fun k ρ => ∃ y4 y5 y8 y9 y10, ρ = oE n (some (.lst (F.map pD))) y2 y3 y4 y5 y6 ((F.take k).map fun p => rowT n p.1) y8 y9 y10) (ρ := oE n (some (.lst (F.map pD))) y2 y3 y4 y5 y6 [] none none none) ⟨_, _, _, _, _, rfl⟩ fun k p ρ hp hP => by
      obtain ⟨y4, y5, y8, y9, y10, rfl⟩ := hP
      have lk := (List.getElem?_eq_some_iff.mp hp).1
      have e3 : (F.take (k + 1)).map (fun p => rowT n p.1) = (F.take k).map (fun p => rowT n p.1) ++ [rowT n p.1] := by
        rw [List.take_add_one, hp, List.map_append]
        rfl
      rw [e3]
      have la : ((F.take k).map fun p => rowT n p.1).length ≤ 1000 := by
        rw [List.length_map, List.length_take]
        omega
      generalize (F.take k).map (fun p => rowT n p.1) = rows at *
      obtain ⟨y9', y10', e4⟩ := row_w (n := n) (x1 := some (.lst (F.map pD))) (y2 := y2) (y3 := y3) (y4 := some (.tup (psD p.1))) (y5 := some (.tup (nD p.2))) (y6 := y6) (y9 := y9) (y10 := y10) (rows := rows) (ps := p.1) (gf p (List.mem_of_getElem? hp)) s
      refine ⟨oE n (some (.lst (F.map pD))) y2 y3 (some (.tup (psD p.1))) (some (.tup (nD p.2))) y6 rows y8 y9 y10, rfl, oE n (some (.lst (F.map pD))) y2 y3 (some (.tup (psD p.1))) (some (.tup (nD p.2))) y6 (rows ++ [rowT n p.1]) (some (.lst (nD (rowT n p.1)))) y9' y10', ?_, _, _, _, _, _, rfl⟩
      refine then_ok (ρ1 := oE n (some (.lst (F.map pD))) y2 y3 (some (.tup (psD p.1))) (some (.tup (nD p.2))) y6 rows (some (.lst (nD (List.replicate n 0)))) y9 y10) (s1 := s) (setF_ok (rep_zero n (by omega) (var_ok rfl))) ?_
      refine then_ok (ρ1 := oE n (some (.lst (F.map pD))) y2 y3 (some (.tup (psD p.1))) (some (.tup (nD p.2))) y6 rows (some (.lst (nD (rowT n p.1)))) y9' y10') (s1 := s) ((for_ok (seqo_ok (var_ok rfl) rfl)).trans e4) ?_
      have z := app_ok (i := 7) (ρ := oE n (some (.lst (F.map pD))) y2 y3 (some (.tup (psD p.1))) (some (.tup (nD p.2))) y6 rows (some (.lst (nD (rowT n p.1)))) y9' y10') (s := s) (s1 := s) (l := rD rows) (d := .tup (nD (rowT n p.1))) (f := fCall tupleD (fCons (fVar 8) fNil)) rfl (call_ok (cons_ok (var_ok rfl) nil_ok) rfl) (by rw [rD_len]; omega)
      have e5 : rD (rows ++ [rowT n p.1]) = rD rows ++ [.tup (nD (rowT n p.1))] := by
        unfold rD
        rw [List.map_append]
        rfl
      show _ = Res.ok (Out.nx [some (.int (n : Int)), some (.lst (F.map pD)), y2, y3, some (.tup (psD p.1)), some (.tup (nD p.2)), y6, some (.lst (rD (rows ++ [rowT n p.1]))), some (.lst (nD (rowT n p.1))), y9', y10']) s
      rw [e5]
      exact z
  rw [List.take_length] at e2
  refine fn_rt ?_
  refine then_ok (ρ1 := [some (.int (n : Int)), some (.lst ((growK n 0).map pD)), none, none, none, none, none, none, none, none, none]) (s1 := s) (set_ok ?_) ?_
  · refine lst_ok (l := [.tup [.tup [], .tup (nD (List.range n))]]) (cons_ok (tup_ok (cons_ok (tup_ok nil_ok sz0) (cons_ok ?_ nil_ok)) sz2) nil_ok) sz1
    have g : (decide (0 ≤ (n : Int)) && decide ((n : Int) ≤ 1000000)) = true := by
      rw [decide_eq_true (by omega), decide_eq_true (by omega)]
      rfl
    unfold fTupRg
    refine (bnd_ok (var_ok (d := .int (n : Int)) rfl)).trans ?_
    show (if (decide (0 ≤ (n : Int)) && decide ((n : Int) ≤ 1000000)) = true then Dm.ret (D.tup (rgD 0 (n : Int).toNat)) else Dm.bad) s = _
    rw [if_pos g, Int.toNat_natCast, rgN]
  refine then_ok (ρ1 := [some (.int (n : Int)), some (.lst (F.map pD)), y2, y3, y4, y5, y6, none, none, none, none]) (s1 := s) ((for_ok (rg1_n (cons_ok (op_ok (var_ok rfl) c_ok (div2_n n)) nil_ok) (by omega))).trans e) ?_
  refine then_ok (ρ1 := oE n (some (.lst (F.map pD))) y2 y3 y4 y5 y6 [] none none none) (s1 := s) (setF_ok (fF_ok nil_ok sz0)) ?_
  refine then_ok (ρ1 := oE n (some (.lst (F.map pD))) y2 y3 z4 z5 y6 (F.map fun p => rowT n p.1) z8 z9 z10) (s1 := s) ((for_ok (seqo_ok (var_ok rfl) rfl)).trans e2) ?_
  exact ret_ok (call_ok (cons_ok (var_ok rfl) nil_ok) srt)
end My

namespace My
open PySem PySem.Spec PyProof.Rows L2 Dm
/-! the latest of all that take the colours -/
theorem rg3_odd : ∀ c : Nat, c < 11 → rg3 [.int (1), .int (c : Int), .int (2)] = some (nD (oddsT c)) := fun c hc => by
  match c, hc with
  | 0, _ | 1, _ | 2, _ | 3, _ | 4, _ | 5, _ | 6, _ | 7, _ | 8, _ | 9, _ | 10, _ => rfl
theorem mul_n {i j : Nat} (h : i ≤ 1000) (h2 : j ≤ 1000) : mulD (.int (i : Int)) (.int (j : Int)) = some (.int ((i * j : Nat) : Int)) := by
  have a := Nat.log2_le_self i
  have b := Nat.log2_le_self j
  have e : mulD (.int (i : Int)) (.int (j : Int)) = if decide ((i : Int).natAbs.log2 + (j : Int).natAbs.log2 < 1000000) = true then some (.int ((i : Int) * (j : Int))) else none := rfl
  rw [e, if_pos (decide_eq_true (by rw [Int.natAbs_natCast, Int.natAbs_natCast]; omega)), Int.natCast_mul]
theorem prod_le : ∀ (l : List Nat) (d : Nat), (∀ x ∈ l, 1 ≤ x) → d ≤ l.foldl (fun d o => d * o) d
  | [], d, _ => Nat.le_refl _
  | x :: l, d, h => by
    rw [List.foldl_cons]
    refine Nat.le_trans ?_ (prod_le l (d * x) fun y hy => h y (List.mem_cons_of_mem _ hy))
    exact Nat.le_mul_of_pos_right d (h x List.mem_cons_self)
theorem odds_pos (c : Nat) : ∀ x ∈ oddsT c, 1 ≤ x := fun x hx => by
  obtain ⟨k, _, rfl⟩ := List.mem_map.mp hx
  omega
theorem odds_small {c : Nat} (h : c ≤ 100) : ∀ x ∈ oddsT c, x ≤ 1000 := fun x hx => by
  obtain ⟨k, hk, rfl⟩ := List.mem_map.mp hx
  have := List.mem_range.mp hk
  omega
def manyT (t : List Nat) (c : Nat) : Nat := ((colT t).filter fun x => decide (x = c)).length
def dueUp (t : List Nat) (l : List Nat) (d : Nat) : Nat := l.foldl (fun d c => (oddsT (manyT t c)).foldl (fun d o => d * o) d) d
theorem dueUp_le (t : List Nat) : ∀ (l : List Nat) (d : Nat), d ≤ dueUp t l d
  | [], d => Nat.le_refl _
  | c :: l, d => Nat.le_trans (prod_le _ d (odds_pos _)) (dueUp_le t l _)
theorem due_eq (t : List Nat) : dueT t = dueUp t (List.range (1 + mxN (colT t))) 1 := rfl
theorem allT_small : ∀ n, n ∈ [2, 4, 6, 8] → (allT n).length ≤ 105 := by decide +kernel
abbrev dB : Dm.Env → M Out := (fFor (fRg3 (fCons (fC (.int (1))) (fCons (fCall lenD (fCons (fL (fLc [8] (fSeq (fVar 2)) (gNm 8) (fTr (fOp eqD (fVar 8) (fVar 5))) (fVar 8))) fNil)) (fCons (fC (.int
    (2))) fNil)))) (gNm 6) (fSet 4 (fOp mulD (fVar 4) (fVar 6))))
theorem atI_lastD (l : List D) (x : D) : atI (l ++ [x]) (-1) = some x := by
  unfold atI ixN
  rw [if_neg (by omega), if_pos (by rw [List.length_append]; show -(((l.length + 1 : Nat) : Int)) ≤ -1; omega)]
  show (l ++ [x])[((-1 : Int) + ((l ++ [x]).length : Int)).toNat]? = _
  have e : ((-1 : Int) + ((l ++ [x]).length : Int)).toNat = l.length := by
    rw [List.length_append]
    show ((-1 : Int) + ((l.length + 1 : Nat) : Int)).toNat = _
    omega
  rw [e, List.getElem?_append_right (Nat.le_refl _), Nat.sub_self]
  rfl
theorem late_w {n : Nat} (hn : n ∈ [2, 4, 6, 8]) {t : List Nat} (ht : t ∈ allT n) (s : BS) : f_l_latest_right [.tup (nD t), .lst (rD (allT n))] s = .ok (.bl true) s := by
  have hT : ∀ o ∈ allT n, IsT o := fun o ho => ⟨n, by
    simp only [List.mem_cons, List.not_mem_nil, or_false] at hn ⊢
    omega, ho⟩
  have it := hT t ht
  have late : lateT n t = true := by
    simp only [List.mem_cons, List.not_mem_nil, or_false] at hn
    rcases hn with rfl | rfl | rfl | rfl
    · exact List.all_eq_true.mp late_2 t ht
    · exact List.all_eq_true.mp late_4 t ht
    · exact List.all_eq_true.mp late_6 t ht
    · exact List.all_eq_true.mp late_8 t ht
  unfold lateT at late
  rw [Bool.and_eq_true] at late
  have la := of_decide_eq_true late.1
  have lb := of_decide_eq_true late.2
  have al := allT_small n hn
  have fle := List.length_filter_le (fun o => takesT o (colT t)) (allT n)
  have f1 := tie_colours_w (x := .tup (nD t)) (.inr rfl) it s
  have lt : t.length = n := allT_len ht
  have cl := colT_len t
  have lm := (tOk it).most
  have l9 := long9 it
  have mc := mx_col it
  have tk : ∀ o ∈ allT n, f_l_takes [.tup (nD o), .tup (nD (colT t))] s = .ok (.bl (takesT o (colT t))) s := fun o ho =>
    takes_w (.inr rfl) (.inr rfl) (by rw [cl, lt, allT_len ho]) (tOk (hT o ho)).lt (by have := (hT o ho).small; omega) s
  have de := due_eq t
  have clen : (colT t).length ≤ 10 := by have := it.small; omega
  have many10 : ∀ c, manyT t c < 11 := fun c => by
    have := List.length_filter_le (fun x => decide (x = c)) (colT t)
    show ((colT t).filter fun x => decide (x = c)).length < 11
    omega
  have manyE : ∀ c, ((colT t).filter fun x => decide (x = c)).length = manyT t c := fun c => rfl
  let some_ := (allT n).filter fun o => takesT o (colT t)
  have dl : dueT t ≤ 105 := by omega
  generalize hc : colT t = c at *
  let R : Option D → Nat → Option D → Option D → Dm.Env := fun y3 d y5 y6 => [some (.tup (nD t)), some (.lst (rD (allT n))), some (.tup (nD c)), y3, some (.int (d : Int)), y5, y6, none, none]
  have lc : fLc [7] (fSeq (fVar 1)) (gNm 7) (fTr (fOwn 2 f_l_takes (fCons (fVar 7) (fCons (fVar 2) fNil)))) (fVar 7) [some (.tup (nD t)), some (.lst (rD (allT n))), some (.tup (nD c)), none, none, none, none, none, none] s = .ok (rD ((allT n).filter fun o => takesT o c)) s := by
    refine lc_of (s1 := s) (allT n) (fun o => D.tup (nD o)) (fun o => D.tup (nD o)) (fun o => takesT o c) (seqo_ok (var_ok rfl) rfl) (by omega) fun o ho => ⟨[some (.tup (nD t)), some (.lst (rD (allT n))), some (.tup (nD c)), none, none, none, none, some (.tup (nD o)), none], rfl, ?_, fun _ => var_ok rfl⟩
    exact tr_ok (own_ok (cons_ok (var_ok rfl) (cons_ok (var_ok rfl) nil_ok)) rfl (tk o ho))
  obtain ⟨ρ', e, y5, y6, rfl⟩ := loop_some (g := gNm 5) (body := dB) (s := s) (List.range (1 + mxN c)) (fun (i : Nat) => D.int (i : Int))
    (fun j ρ => ∃ y5 y6, ρ = R (some (.lst (rD ((allT n).filter fun o => takesT o c)))) (dueUp t ((List.range (1 + mxN c)).take j) 1) y5 y6) (ρ := R (some (.lst (rD ((allT n).filter fun o => takesT o c)))) 1 none none) ⟨_, _, rfl⟩ fun j i ρ hi hP => by
      obtain ⟨y5, y6, rfl⟩ := hP
      have up : dueUp t ((List.range (1 + mxN c)).take (j + 1)) 1 = (oddsT (manyT t i)).foldl (fun d o => d * o) (dueUp t ((List.range (1 + mxN c)).take j) 1) := by
        rw [List.take_add_one, hi]
        unfold dueUp
        rw [List.foldl_append]
        rfl
      have top : dueUp t ((List.range (1 + mxN c)).take (j + 1)) 1 ≤ 105 := by
        refine Nat.le_trans (dueUp_le t ((List.range (1 + mxN c)).drop (j + 1)) _) ?_
        have e2 : dueUp t ((List.range (1 + mxN c)).drop (j + 1)) (dueUp t ((List.range (1 + mxN c)).take (j + 1)) 1) = dueUp t (List.range (1 + mxN c)) 1 := by
          unfold dueUp
          rw [← List.foldl_append, List.take_append_drop]
        rw [e2, ← de]
        exact dl
      rw [up] at top ⊢
      generalize dueUp t ((List.range (1 + mxN c)).take j) 1 = d at *
      have m10 := many10 i
      have mE := manyE i
      generalize manyT t i = m at *
      have l8 : fLc [8] (fSeq (fVar 2)) (gNm 8) (fTr (fOp eqD (fVar 8) (fVar 5))) (fVar 8) (R (some (.lst (rD ((allT n).filter fun o => takesT o c)))) d (some (.int (i : Int))) y6) s = .ok (nD (c.filter fun x => decide (x = i))) s := by
        refine lc_of (s1 := s) c (fun (x : Nat) => D.int (x : Int)) (fun (x : Nat) => D.int (x : Int)) (fun x => decide (x = i)) (seqo_ok (var_ok rfl) rfl) (by omega) fun x hx => ⟨[some (.tup (nD t)), some (.lst (rD (allT n))), some (.tup (nD c)), some (.lst (rD ((allT n).filter fun o => takesT o c))), some (.int (d : Int)), some (.int (i : Int)), y6, none, some (.int (x : Int))], rfl, ?_, fun _ => var_ok rfl⟩
        exact tr_ok (op_ok (var_ok rfl) (var_ok rfl) (eqD_n _ _))
      obtain ⟨ρ2, e3, y6', rfl⟩ := loop_some (g := gNm 6) (body := fSet 4 (fOp mulD (fVar 4) (fVar 6))) (s := s) (oddsT m) (fun (o : Nat) => D.int (o : Int))
        (fun k ρ => ∃ y6, ρ = R (some (.lst (rD ((allT n).filter fun o => takesT o c)))) (((oddsT m).take k).foldl (fun d o => d * o) d) (some (.int (i : Int))) y6) (ρ := R (some (.lst (rD ((allT n).filter fun o => takesT o c)))) d (some (.int (i : Int))) y6) ⟨_, rfl⟩ fun k o ρ ho hP => by
          obtain ⟨y6, rfl⟩ := hP
          have le : ((oddsT m).take k).foldl (fun d o => d * o) d ≤ 105 := by
            refine Nat.le_trans (prod_le ((oddsT m).drop k) _ fun x hx => odds_pos m x (List.mem_of_mem_drop hx)) ?_
            rw [← List.foldl_append, List.take_append_drop]
            exact top
          rw [List.take_add_one, ho, List.foldl_append]
          generalize ((oddsT m).take k).foldl (fun d o => d * o) d = dd at *
          have os := odds_small (c := m) (by omega) o (List.mem_of_getElem? ho)
          exact ⟨R (some (.lst (rD ((allT n).filter fun o => takesT o c)))) dd (some (.int (i : Int))) (some (.int (o : Int))), rfl, R (some (.lst (rD ((allT n).filter fun o => takesT o c)))) (dd * o) (some (.int (i : Int))) (some (.int (o : Int))), set_ok (op_ok (var_ok rfl) (var_ok rfl) (mul_n (by omega) os)), _, rfl⟩
      rw [List.take_length] at e3
      refine ⟨R (some (.lst (rD ((allT n).filter fun o => takesT o c)))) d (some (.int (i : Int))) y6, rfl, R (some (.lst (rD ((allT n).filter fun o => takesT o c)))) ((oddsT m).foldl (fun d o => d * o) d) (some (.int (i : Int))) y6', ?_, _, _, rfl⟩
      refine (for_ok (l := (oddsT m).map fun (o : Nat) => D.int (o : Int)) ?_).trans e3
      have hf : fCons (fC (.int (1))) (fCons (fCall lenD (fCons (fL (fLc [8] (fSeq (fVar 2)) (gNm 8) (fTr (fOp eqD (fVar 8) (fVar 5))) (fVar 8))) fNil)) (fCons (fC (.int (2))) fNil)) (R (some (.lst (rD ((allT n).filter fun o => takesT o c)))) d (some (.int (i : Int))) y6) s = .ok [.int (1), .int (m : Int), .int (2)] s := by
        refine cons_ok c_ok (cons_ok (call_ok (cons_ok (fL_ok l8) nil_ok) ?_) (cons_ok c_ok nil_ok))
        rw [lenD_L, mE]
      exact (bnd_ok hf).trans (lift_some (rg3_odd m m10))
  rw [List.take_length, ← de] at e
  have ne : ((allT n).filter fun o => takesT o c) ≠ [] := fun z => by
    rw [z] at la
    cases la
  have lastD : ixD (.lst (rD ((allT n).filter fun o => takesT o c))) (.int (-1)) = some (.tup (nD t)) := by
    generalize (allT n).filter (fun o => takesT o c) = F at *
    obtain ⟨G, rfl⟩ : ∃ G, F = G ++ [t] := by
      refine ⟨F.dropLast, ?_⟩
      have z := List.dropLast_concat_getLast ne
      rw [List.getLast?_eq_some_getLast ne] at la
      rw [Option.some.inj la] at z
      exact z.symm
    show atI (rD (G ++ [t])) (-1) = _
    have e2 : rD (G ++ [t]) = rD G ++ [.tup (nD t)] := by
      unfold rD
      rw [List.map_append]
      rfl
    rw [e2]
    exact atI_lastD _ _
  refine fn_rt ?_
  refine then_ok (ρ1 := [some (.tup (nD t)), some (.lst (rD (allT n))), some (.tup (nD c)), none, none, none, none, none, none]) (s1 := s) (set_ok (own_ok (cons_ok (var_ok rfl) nil_ok) rfl f1)) ?_
  refine then_ok (ρ1 := R (some (.lst (rD ((allT n).filter fun o => takesT o c)))) 1 none none) (s1 := s) (par_ok (cons_ok (fL_ok lc) (cons_ok c_ok nil_ok))) ?_
  refine then_ok (ρ1 := R (some (.lst (rD ((allT n).filter fun o => takesT o c)))) (dueT t) y5 y6) (s1 := s) ((for_ok (rg1_n (cons_ok (op_ok c_ok (call_ok (cons_ok (var_ok rfl) nil_ok) mc) (z := .int ((1 + mxN c : Nat) : Int)) (by show some (D.int _) = _; rw [Int.natCast_add]; rfl)) nil_ok) (by omega))).trans e) ?_
  refine ret_ok (andV_tt (op_ok (op_ok (var_ok rfl) (un_ok c_ok rfl) lastD) (var_ok rfl) (eqD_self (gdT _))) (op_ok (call_ok (cons_ok (var_ok rfl) nil_ok) (z := .int (((allT n).filter fun o => takesT o c).length : Int)) ?_) (var_ok rfl) ?_))
  · rw [len_of_seq rfl, rD_len]
  · rw [eqD_n, decide_eq_true lb]
end My

namespace My
open PySem PySem.Spec PyProof.Rows L2 Dm
abbrev qnL : Str := (("_law_refused_right" : Str) ++ ".<locals>." ++ "<lambda>")
theorem pickAt {l : List D} {k : Nat} {q : Addr} {T : List (Addr × Str)} {s : BS} (h : BOk k q T s) (hk : k ≤ 10000) (h1 : 1 ≤ l.length) (h2 : l.length ≤ 100000) :
    ∃ (i : Nat) (d : D) (s' : BS), l[i]? = some d ∧ BOk (k + 1) q T s' ∧ f_l_pick [.ref q, .lst l] s = .ok d s' := by
  obtain ⟨j, s', hj, hb, e⟩ := grab_ok gcs h hk h1 (by omega)
  refine ⟨j, l[j], s', List.getElem?_eq_getElem hj, hb, fn_rt (ret_ok ?_)⟩
  have e2 : f_l_draw [.ref q, .int (l.length : Int)] s = .ok (.int (j : Int)) s' := e
  exact op_ok (var_ok rfl) (own_ok (cons_ok (var_ok rfl) (cons_ok (call_ok (cons_ok (var_ok rfl) nil_ok) rfl) nil_ok)) rfl e2) (atI_nat (List.getElem?_eq_getElem hj))
def oddL : List D := [.non, .int (5), .tup [], .lst [.int (0), .int (1)], .lst [.int (1), .int (0), .int (2)], .str "10", .lst [.bl true, .int (0)], .tup [.int (1), .int (0), .int (3), .int (3)], .lst [.int (1), .int (0), .int (3), .int (2), .int (5), .int (4), .int (7), .int (6), .int (9), .int (8), .int (11), .int (10)], .dic []]
def badL : List D := [.non, .int (0), .int (-1), .bl true, .str "1", .lst [.int (1)], .int (-1000000000000000000000000000000)]
theorem odd_no (s : BS) : ∀ v ∈ oddL, f_is_ties [v] s = .ok (.bl false) s := by
  intro v h
  simp only [oddL, List.mem_cons, List.not_mem_nil, or_false] at h
  rcases h with rfl | rfl | rfl | rfl | rfl | rfl | rfl | rfl | rfl | rfl <;> rfl
theorem bad_no (s : BS) : ∀ v ∈ badL, f_is_size [v] s = .ok (.bl false) s := by
  intro v h
  simp only [badL, List.mem_cons, List.not_mem_nil, or_false] at h
  rcases h with rfl | rfl | rfl | rfl | rfl | rfl | rfl <;> rfl
section
variable {x y p : D} {s : BS}
theorem need_no (h : f_is_ties [x] s = .ok (.bl false) s) : f_need_ties [x, p] s = .exc "BadTies" [("part", p)] s := by
  refine fn_exc (then_exc (ifT_ok (not_f (tr_ok (own_ok (cons_ok (var_ok rfl) nil_ok) rfl h))) ?_))
  rfl
theorem colours_no (h : f_is_ties [x] s = .ok (.bl false) s) : f_tie_colours [x] s = .exc "BadTies" [("part", .str "ties")] s := fn_exc (ret_exc (ownA_exc (cons_exc (own_exc (l := [x, .str "ties"]) (cons_ok (var_ok rfl) (cons_ok c_ok nil_ok)) rfl (need_no h)))))
theorem rise_no (h : f_is_ties [x] s = .ok (.bl false) s) : f_longest_rise [x] s = .exc "BadTies" [("part", .str "ties")] s := fn_exc (ret_exc (ownA_exc (cons_exc (own_exc (l := [x, .str "ties"]) (cons_ok (var_ok rfl) (cons_ok c_ok nil_ok)) rfl (need_no h)))))
theorem kept_no1 (h : f_is_ties [x] s = .ok (.bl false) s) : f_ties_kept [x, y] s = .exc "BadTies" [("part", .str "ties")] s := fn_exc (then_exc (set_exc (own_exc (l := [x, .str "ties"]) (cons_ok (var_ok rfl) (cons_ok c_ok nil_ok)) rfl (need_no h))))
theorem need_size_no (h : f_is_size [y] s = .ok (.bl false) s) : f_need_size [y] s = .exc "BadNumber" [("part", .str "size")] s := by
  refine fn_exc ((ifT_ok (not_f (tr_ok (own_ok (cons_ok (var_ok rfl) nil_ok) rfl h))) ?_))
  rfl
theorem kept_no2 {r : List Nat} (hx : Sqn x r) (hr : IsT r) (h : f_is_size [y] s = .ok (.bl false) s) : f_ties_kept [x, y] s = .exc "BadNumber" [("part", .str "size")] s := by
  refine fn_exc (Eq.trans (then_nx (ρ1 := [some x, some y, some (.tup (nD r))]) (s1 := s) (set_ok (own_ok (cons_ok (var_ok rfl) (cons_ok c_ok nil_ok)) rfl (need_ties_w hx hr s)))) ?_)
  exact then_exc (drop_exc (own_exc (l := [y]) (cons_ok (var_ok rfl) nil_ok) rfl (need_size_no h)))
end
theorem refused_w {pL : Addr} {k : Nat} {q : Addr} {s : BS} {r : List Nat} (hr : IsT r) (h : BOk k q [(pL, qnL)] s) (hk : k ≤ 8000) : ∃ s', f_l_refused_right pL [.ref q, .tup (nD r)] s = .ok (.bl true) s' ∧ BOk (k + 10) q [(pL, qnL)] s' := by
  obtain ⟨i1, odd, s1, ho, b1, e1⟩ := pickAt (l := oddL) h (by omega) (by decide) (by decide)
  obtain ⟨i2, bad, s2, hb, b2, e2⟩ := pickAt (l := badL) b1 (by omega) (by decide) (by decide)
  have ho := odd_no s2 odd (List.mem_of_getElem? ho)
  have hb := bad_no s2 bad (List.mem_of_getElem? hb)
  have tb := b2.tb
  let w : D := .tup [.str "ties", .str "ties"]
  let n : D := .tup [.str "number", .str "size"]
  let R : List D → Dm.Env := fun l => [some (.ref q), some (.tup (nD r)), some odd, some bad, some (.lst l)]
  have Lr : Sqn (.lst (nD r)) r := .inl rfl
  refine ⟨s2, fn_rt ?_, b2.le (by omega)⟩
  refine then_ok (ρ1 := [some (.ref q), some (.tup (nD r)), some odd, none, none]) (s1 := s1) (set_ok (own_ok (l := [.ref q, .lst oddL]) (cons_ok (var_ok rfl) (cons_ok rfl nil_ok)) rfl e1)) ?_
  refine then_ok (ρ1 := [some (.ref q), some (.tup (nD r)), some odd, some bad, none]) (s1 := s2) (set_ok (own_ok (l := [.ref q, .lst badL]) (cons_ok (var_ok rfl) (cons_ok rfl nil_ok)) rfl e2)) ?_
  refine then_ok (ρ1 := R [w]) (s1 := s2) (setF_ok (fF_ok (cons_ok (heard_exc tb (own_exc (l := [odd]) (cons_ok (var_ok rfl) nil_ok) rfl (colours_no ho)) rfl) nil_ok) sz1)) ?_
  refine then_ok (ρ1 := R [w, w]) (s1 := s2) (app_ok (l := [w]) rfl (heard_exc tb (own_exc (l := [odd]) (cons_ok (var_ok rfl) nil_ok) rfl (rise_no ho)) rfl) (by show 1 ≤ _; omega)) ?_
  refine then_ok (ρ1 := R [w, w, w]) (s1 := s2) (app_ok (l := [w, w]) rfl (heard_exc tb (own_exc (l := [odd, bad]) (cons_ok (var_ok rfl) (cons_ok (var_ok rfl) nil_ok)) rfl (kept_no1 ho)) rfl) (by show 2 ≤ _; omega)) ?_
  refine then_ok (ρ1 := R [w, w, w, n]) (s1 := s2) (app_ok (l := [w, w, w]) rfl (heard_exc tb (own_exc (l := [.lst (nD r), bad]) (cons_ok (call_ok (cons_ok (var_ok rfl) nil_ok) rfl) (cons_ok (var_ok rfl) nil_ok)) rfl (kept_no2 Lr hr hb)) rfl) (by show 3 ≤ _; omega)) ?_
  refine ret_ok (op_ok (var_ok rfl) (lst_ok (cons_ok (tup_ok (cons_ok c_ok (cons_ok c_ok nil_ok)) sz2) (cons_ok (tup_ok (cons_ok c_ok (cons_ok c_ok nil_ok)) sz2) (cons_ok (tup_ok (cons_ok c_ok (cons_ok c_ok nil_ok)) sz2) (cons_ok (tup_ok (cons_ok c_ok (cons_ok c_ok nil_ok)) sz2) nil_ok)))) sz4) (eqD_self (by decide +kernel)))
end My

namespace My
open PySem PySem.Spec PyProof.Rows L2 Dm
theorem t6 : [1, 0, 5, 4, 3, 2] ∈ allT 6 := by decide +kernel
theorem c6 : colT [1, 0, 5, 4, 3, 2] = [0, 0, 1, 1, 1, 1] := by decide +kernel
theorem law_true (pL q : Addr) (cells : List Int) : ∃ s', m_law pL ((List.replicate 5 none).set 1 (some (.ref q))) ⟨q, cells, 0, 0, [(pL, (("_law_refused_right" : Str) ++ ".<locals>." ++ "<lambda>"))]⟩ = .ok (.rt (.bl true)) s' := by
  have b0 : BOk 0 q [(pL, qnL)] ⟨q, cells, 0, 0, [(pL, qnL)]⟩ := ⟨rfl, rfl, by show (0 : Int) ≤ 0; omega, by show (0 : Int) ≤ 0; omega, by show (0 : Int) ≤ 0; omega⟩
  obtain ⟨ρ', s1, e1, x2, x3, rfl, b1⟩ := loop_inv (g := gNm 2) (body := (fThen (fSet 3 (fOwn 2 f_l_ties (fCons (fVar 1) (fCons (fOwn 2 f_l_pick (fCons (fVar 1) (fCons (fLst (fCons (fC
    (.int (6))) (fCons (fC (.int (8))) (fCons (fC (.int (10))) (fCons (fC (.int (4))) (fCons (fC (.int (2))) (fCons (fC (.int (8))) (fCons (fC (.int (10))) fNil))))))))
    fNil))) fNil)))) (fIf (fOrT (fNotT (fTr (fOwn 2 f_l_told_right (fCons (fVar 1) (fCons (fVar 3) fNil))))) (fNotT (fTr (fOwn 2 (f_l_refused_right pL) (fCons (fVar 1)
    (fCons (fVar 3) fNil)))))) (fRet (fC (.bl false))) fSkip)))
    (fun j ρ s => ∃ x2 x3, ρ = [none, some (.ref q), x2, x3, none] ∧ BOk (50 * j) q [(pL, qnL)] s) (nD (List.range 4)) 0 [none, some (.ref q), none, none, none] ⟨q, cells, 0, 0, [(pL, qnL)]⟩ ⟨none, none, rfl, b0⟩ fun j d hd ρ s hP => by
      obtain ⟨x2, x3, rfl, hb⟩ := hP
      have lj : j < 4 := by
        have := (List.getElem?_eq_some_iff.mp hd).1
        rwa [nD_len, List.length_range] at this
      rw [Nat.zero_add] at hb ⊢
      obtain ⟨i, d2, s1, hd2, b1, e1⟩ := pickAt (l := [.int (6), .int (8), .int (10), .int (4), .int (2), .int (8), .int (10)]) hb (by omega) (by decide) (by decide)
      obtain ⟨n, rfl, hn⟩ : ∃ n : Nat, d2 = .int (n : Int) ∧ n ∈ [2, 4, 6, 8, 10] := by
        have := List.mem_of_getElem? hd2
        simp only [List.mem_cons, List.not_mem_nil, or_false] at this
        rcases this with rfl | rfl | rfl | rfl | rfl | rfl | rfl
        · exact ⟨6, rfl, by decide⟩
        · exact ⟨8, rfl, by decide⟩
        · exact ⟨10, rfl, by decide⟩
        · exact ⟨4, rfl, by decide⟩
        · exact ⟨2, rfl, by decide⟩
        · exact ⟨8, rfl, by decide⟩
        · exact ⟨10, rfl, by decide⟩
      have hn2 : n ≤ 10 ∧ n % 2 = 0 := by
        simp only [List.mem_cons, List.not_mem_nil, or_false] at hn
        omega
      obtain ⟨r, s2, hr, b2, e2⟩ := ties_w (n := n) b1 (by omega) hn2.1 hn2.2
      have ht : IsT r := ⟨n, hn, hr⟩
      obtain ⟨s3, e3, b3⟩ := told_right_w ht b2 (by omega)
      obtain ⟨s4, e4, b4⟩ := refused_w (pL := pL) ht b3 (by omega)
      refine ⟨[none, some (.ref q), some d, x3, none], rfl, [none, some (.ref q), some d, some (.tup (nD r)), none], s4, ?_, some d, some (.tup (nD r)), rfl, b4.le (by omega)⟩
      refine then_ok (ρ1 := [none, some (.ref q), some d, some (.tup (nD r)), none]) (s1 := s2) (set_ok (own_ok (cons_ok (var_ok rfl) (cons_ok (own_ok (l := [.ref q, .lst [.int (6), .int (8), .int (10), .int (4), .int (2), .int (8), .int (10)]]) (cons_ok (var_ok rfl) (cons_ok rfl nil_ok)) rfl e1) nil_ok)) rfl e2)) ?_
      exact skip_ok (or_ff (not_t (tr_ok (own_ok (cons_ok (var_ok rfl) (cons_ok (var_ok rfl) nil_ok)) rfl e3))) (not_t (tr_ok (own_ok (cons_ok (var_ok rfl) (cons_ok (var_ok rfl) nil_ok)) rfl e4))))
  rw [nD_len, List.length_range] at b1
  obtain ⟨i, d2, s2, hd2, b2, e2⟩ := pickAt (l := [.int (6), .int (8), .int (4), .int (2), .int (6)]) b1 (by omega) (by decide) (by decide)
  obtain ⟨n, rfl, hn⟩ : ∃ n : Nat, d2 = .int (n : Int) ∧ n ∈ [2, 4, 6, 8] := by
    have := List.mem_of_getElem? hd2
    simp only [List.mem_cons, List.not_mem_nil, or_false] at this
    rcases this with rfl | rfl | rfl | rfl | rfl
    · exact ⟨6, rfl, by decide⟩
    · exact ⟨8, rfl, by decide⟩
    · exact ⟨4, rfl, by decide⟩
    · exact ⟨2, rfl, by decide⟩
    · exact ⟨6, rfl, by decide⟩
  have f1 := all_ties_w hn s2
  have al := allT_small n hn
  have ne : 1 ≤ (allT n).length := by
    simp only [List.mem_cons, List.not_mem_nil, or_false] at hn
    rcases hn with rfl | rfl | rfl | rfl <;> decide +kernel
  obtain ⟨ρ2, s3, e3, z2, rfl, b3⟩ := loop_inv (g := gNm 2) (body := (fIf (fNotT (fTr (fOwn 2 f_l_latest_right (fCons (fOwn 2 f_l_pick (fCons (fVar 1) (fCons (fVar 4) fNil))) (fCons (fVar 4) fNil))))) (fRet (fC (.bl
    false))) fSkip))
    (fun j ρ s => ∃ x2, ρ = [none, some (.ref q), x2, x3, some (.lst (rD (allT n)))] ∧ BOk (50 * 4 + 1 + j) q [(pL, qnL)] s) (nD (List.range 3)) 0 [none, some (.ref q), x2, x3, some (.lst (rD (allT n)))] s2 ⟨_, rfl, b2⟩ fun j d hd ρ s hP => by
      obtain ⟨x2, rfl, hb⟩ := hP
      have lj : j < 3 := by
        have := (List.getElem?_eq_some_iff.mp hd).1
        rwa [nD_len, List.length_range] at this
      rw [Nat.zero_add] at hb ⊢
      obtain ⟨i, d3, s', hd3, b', e'⟩ := pickAt (l := rD (allT n)) hb (by omega) (by rw [rD_len]; exact ne) (by rw [rD_len]; omega)
      obtain ⟨t, ht, rfl⟩ : ∃ t, t ∈ allT n ∧ d3 = .tup (nD t) := by
        have := List.mem_of_getElem? hd3
        obtain ⟨t, ht, rfl⟩ := List.mem_map.mp this
        exact ⟨t, ht, rfl⟩
      exact ⟨[none, some (.ref q), some d, x3, some (.lst (rD (allT n)))], rfl, [none, some (.ref q), some d, x3, some (.lst (rD (allT n)))], s', skip_ok (not_t (tr_ok (own_ok (cons_ok (own_ok (cons_ok (var_ok rfl) (cons_ok (var_ok rfl) nil_ok)) rfl e') (cons_ok (var_ok rfl) nil_ok)) rfl (late_w hn ht s')))), some d, rfl, b'⟩
  have hz : ∀ ρ s, fRg1 (fCons (fC (.int (4))) fNil) ρ s = .ok (nD (List.range 4)) s := fun ρ s => rg1_n (n := 4) rfl (by decide)
  have hz3 : ∀ ρ s, fRg1 (fCons (fC (.int (3))) fNil) ρ s = .ok (nD (List.range 3)) s := fun ρ s => rg1_n (n := 3) rfl (by decide)
  have g1 := tie_colours_w (x := .lst [.int (1), .int (0), .int (5), .int (4), .int (3), .int (2)]) (r := [1, 0, 5, 4, 3, 2]) (.inl rfl) ⟨6, by decide, t6⟩ s3
  rw [c6] at g1
  refine ⟨s3, ?_⟩
  refine then_ok (ρ1 := [none, some (.ref q), x2, x3, none]) (s1 := s1) ((for_ok (hz _ _)).trans e1) ?_
  refine then_ok (ρ1 := [none, some (.ref q), x2, x3, some (.lst (rD (allT n)))]) (s1 := s2) (set_ok (own_ok (cons_ok (own_ok (l := [.ref q, .lst [.int (6), .int (8), .int (4), .int (2), .int (6)]]) (cons_ok (var_ok rfl) (cons_ok rfl nil_ok)) rfl e2) nil_ok) rfl f1)) ?_
  refine then_ok (ρ1 := [none, some (.ref q), z2, x3, some (.lst (rD (allT n)))]) (s1 := s3) ((for_ok (hz3 _ _)).trans e3) ?_
  exact ret_ok (op_ok (own_ok (cons_ok (lst_ok (cons_ok c_ok (cons_ok c_ok (cons_ok c_ok (cons_ok c_ok (cons_ok c_ok (cons_ok c_ok nil_ok)))))) sz6) nil_ok) rfl g1) (tup_ok (cons_ok c_ok (cons_ok c_ok (cons_ok c_ok (cons_ok c_ok (cons_ok c_ok (cons_ok c_ok nil_ok)))))) sz6) (eqD_self (gdT [0, 0, 1, 1, 1, 1])))
end My

namespace My
open PySem PySem.Spec PyProof.Rows L2 LamX Dm
theorem all_mk {l : PySem.W.OpenLaw} {qq : Program} {w : World} {K : PySem.W.Frag} {h : Heap} {mg : Str → Option Value} {fa f0 f1 f2 f3 f4 f5 f6 f7 f8 f9 f10 f11 f12 f13 f14 f15 f16 f17 f18 f19 f20 f21 f22 f23 f24 f25 f26 f27 f28 f29 : Addr} (X : K.In h) (G : h.Ns mainGlobals mg) (hfa : mg "law" = some (.ref fa)) (own : ∀ (y : Str) (f : Addr), ((recsOf qq).any fun e => e.name == y) = true → mg y = some (.ref f) → OwnTab K f h) (hrec : ((recsOf qq).any fun e => e.name == ("_law_refused_right" : Str)) = true)
    {od0 an0 : Option Addr} {sl0 : Array (Option Value)} {oc0 kV0 dc0 pm0 cd0 ct0 : Value}
    (a0 : PySem.W.nsIn K mainGlobals "is_integer" = some (some (.ref f0))) (l0 : K.lookup f0 = some ⟨oc0, od0, .func (PySem.W.fnOf "is_integer" "is_integer" (defArgs s_is_integer) (defBody s_is_integer) (defScope s_is_integer) .none kV0 dc0 pm0 an0 cd0 ct0), sl0⟩)
    (c0 : PySem.W.codeIn K cd0 "is_integer" = true) (k0 : PySem.W.keepIn K (.ref f0) = true)
    {od1 an1 : Option Addr} {sl1 : Array (Option Value)} {oc1 kV1 dc1 pm1 cd1 ct1 : Value}
    (a1 : PySem.W.nsIn K mainGlobals "is_within" = some (some (.ref f1))) (l1 : K.lookup f1 = some ⟨oc1, od1, .func (PySem.W.fnOf "is_within" "is_within" (defArgs s_is_within) (defBody s_is_within) (defScope s_is_within) .none kV1 dc1 pm1 an1 cd1 ct1), sl1⟩)
    (c1 : PySem.W.codeIn K cd1 "is_within" = true) (k1 : PySem.W.keepIn K (.ref f1) = true)
    {od2 an2 : Option Addr} {sl2 : Array (Option Value)} {oc2 kV2 dc2 pm2 cd2 ct2 : Value}
    (a2 : PySem.W.nsIn K mainGlobals "is_list" = some (some (.ref f2))) (l2 : K.lookup f2 = some ⟨oc2, od2, .func (PySem.W.fnOf "is_list" "is_list" (defArgs s_is_list) (defBody s_is_list) (defScope s_is_list) .none kV2 dc2 pm2 an2 cd2 ct2), sl2⟩)
    (c2 : PySem.W.codeIn K cd2 "is_list" = true) (k2 : PySem.W.keepIn K (.ref f2) = true)
    {od3 an3 : Option Addr} {sl3 : Array (Option Value)} {oc3 kV3 dc3 pm3 cd3 ct3 : Value}
    (a3 : PySem.W.nsIn K mainGlobals "is_numbers" = some (some (.ref f3))) (l3 : K.lookup f3 = some ⟨oc3, od3, .func (PySem.W.fnOf "is_numbers" "is_numbers" (defArgs s_is_numbers) (defBody s_is_numbers) (defScope s_is_numbers) .none kV3 dc3 pm3 an3 cd3 ct3), sl3⟩)
    (c3 : PySem.W.codeIn K cd3 "is_numbers" = true) (k3 : PySem.W.keepIn K (.ref f3) = true)
    {od4 an4 : Option Addr} {sl4 : Array (Option Value)} {oc4 kV4 dc4 pm4 cd4 ct4 : Value}
    (a4 : PySem.W.nsIn K mainGlobals "is_size" = some (some (.ref f4))) (l4 : K.lookup f4 = some ⟨oc4, od4, .func (PySem.W.fnOf "is_size" "is_size" (defArgs s_is_size) (defBody s_is_size) (defScope s_is_size) .none kV4 dc4 pm4 an4 cd4 ct4), sl4⟩)
    (c4 : PySem.W.codeIn K cd4 "is_size" = true) (k4 : PySem.W.keepIn K (.ref f4) = true)
    {od5 an5 : Option Addr} {sl5 : Array (Option Value)} {oc5 kV5 dc5 pm5 cd5 ct5 : Value}
    (a5 : PySem.W.nsIn K mainGlobals "need_size" = some (some (.ref f5))) (l5 : K.lookup f5 = some ⟨oc5, od5, .func (PySem.W.fnOf "need_size" "need_size" (defArgs s_need_size) (defBody s_need_size) (defScope s_need_size) .none kV5 dc5 pm5 an5 cd5 ct5), sl5⟩)
    (c5 : PySem.W.codeIn K cd5 "need_size" = true) (k5 : PySem.W.keepIn K (.ref f5) = true)
    {od6 an6 : Option Addr} {sl6 : Array (Option Value)} {oc6 kV6 dc6 pm6 cd6 ct6 : Value}
    (a6 : PySem.W.nsIn K mainGlobals "is_ties" = some (some (.ref f6))) (l6 : K.lookup f6 = some ⟨oc6, od6, .func (PySem.W.fnOf "is_ties" "is_ties" (defArgs s_is_ties) (defBody s_is_ties) (defScope s_is_ties) .none kV6 dc6 pm6 an6 cd6 ct6), sl6⟩)
    (c6 : PySem.W.codeIn K cd6 "is_ties" = true) (k6 : PySem.W.keepIn K (.ref f6) = true)
    {od7 an7 : Option Addr} {sl7 : Array (Option Value)} {oc7 kV7 dc7 pm7 cd7 ct7 : Value}
    (a7 : PySem.W.nsIn K mainGlobals "are_ends_many" = some (some (.ref f7))) (l7 : K.lookup f7 = some ⟨oc7, od7, .func (PySem.W.fnOf "are_ends_many" "are_ends_many" (defArgs s_are_ends_many) (defBody s_are_ends_many) (defScope s_are_ends_many) .none kV7 dc7 pm7 an7 cd7 ct7), sl7⟩)
    (c7 : PySem.W.codeIn K cd7 "are_ends_many" = true) (k7 : PySem.W.keepIn K (.ref f7) = true)
    {od8 an8 : Option Addr} {sl8 : Array (Option Value)} {oc8 kV8 dc8 pm8 cd8 ct8 : Value}
    (a8 : PySem.W.nsIn K mainGlobals "need_ties" = some (some (.ref f8))) (l8 : K.lookup f8 = some ⟨oc8, od8, .func (PySem.W.fnOf "need_ties" "need_ties" (defArgs s_need_ties) (defBody s_need_ties) (defScope s_need_ties) .none kV8 dc8 pm8 an8 cd8 ct8), sl8⟩)
    (c8 : PySem.W.codeIn K cd8 "need_ties" = true) (k8 : PySem.W.keepIn K (.ref f8) = true)
    {od9 an9 : Option Addr} {sl9 : Array (Option Value)} {oc9 kV9 dc9 pm9 cd9 ct9 : Value}
    (a9 : PySem.W.nsIn K mainGlobals "tie_colours" = some (some (.ref f9))) (l9 : K.lookup f9 = some ⟨oc9, od9, .func (PySem.W.fnOf "tie_colours" "tie_colours" (defArgs s_tie_colours) (defBody s_tie_colours) (defScope s_tie_colours) .none kV9 dc9 pm9 an9 cd9 ct9), sl9⟩)
    (c9 : PySem.W.codeIn K cd9 "tie_colours" = true) (k9 : PySem.W.keepIn K (.ref f9) = true)
    {od10 an10 : Option Addr} {sl10 : Array (Option Value)} {oc10 kV10 dc10 pm10 cd10 ct10 : Value}
    (a10 : PySem.W.nsIn K mainGlobals "longest_rise" = some (some (.ref f10))) (l10 : K.lookup f10 = some ⟨oc10, od10, .func (PySem.W.fnOf "longest_rise" "longest_rise" (defArgs s_longest_rise) (defBody s_longest_rise) (defScope s_longest_rise) .none kV10 dc10 pm10 an10 cd10 ct10), sl10⟩)
    (c10 : PySem.W.codeIn K cd10 "longest_rise" = true) (k10 : PySem.W.keepIn K (.ref f10) = true)
    {od11 an11 : Option Addr} {sl11 : Array (Option Value)} {oc11 kV11 dc11 pm11 cd11 ct11 : Value}
    (a11 : PySem.W.nsIn K mainGlobals "ties_kept" = some (some (.ref f11))) (l11 : K.lookup f11 = some ⟨oc11, od11, .func (PySem.W.fnOf "ties_kept" "ties_kept" (defArgs s_ties_kept) (defBody s_ties_kept) (defScope s_ties_kept) .none kV11 dc11 pm11 an11 cd11 ct11), sl11⟩)
    (c11 : PySem.W.codeIn K cd11 "ties_kept" = true) (k11 : PySem.W.keepIn K (.ref f11) = true)
    {od12 an12 : Option Addr} {sl12 : Array (Option Value)} {oc12 kV12 dc12 pm12 cd12 ct12 : Value}
    (a12 : PySem.W.nsIn K mainGlobals "end_colours" = some (some (.ref f12))) (l12 : K.lookup f12 = some ⟨oc12, od12, .func (PySem.W.fnOf "end_colours" "end_colours" (defArgs s_end_colours) (defBody s_end_colours) (defScope s_end_colours) .none kV12 dc12 pm12 an12 cd12 ct12), sl12⟩)
    (c12 : PySem.W.codeIn K cd12 "end_colours" = true) (k12 : PySem.W.keepIn K (.ref f12) = true)
    {od13 an13 : Option Addr} {sl13 : Array (Option Value)} {oc13 kV13 dc13 pm13 cd13 ct13 : Value}
    (a13 : PySem.W.nsIn K mainGlobals "rise_of" = some (some (.ref f13))) (l13 : K.lookup f13 = some ⟨oc13, od13, .func (PySem.W.fnOf "rise_of" "rise_of" (defArgs s_rise_of) (defBody s_rise_of) (defScope s_rise_of) .none kV13 dc13 pm13 an13 cd13 ct13), sl13⟩)
    (c13 : PySem.W.codeIn K cd13 "rise_of" = true) (k13 : PySem.W.keepIn K (.ref f13) = true)
    {od14 an14 : Option Addr} {sl14 : Array (Option Value)} {oc14 kV14 dc14 pm14 cd14 ct14 : Value}
    (a14 : PySem.W.nsIn K mainGlobals "are_kept_at" = some (some (.ref f14))) (l14 : K.lookup f14 = some ⟨oc14, od14, .func (PySem.W.fnOf "are_kept_at" "are_kept_at" (defArgs s_are_kept_at) (defBody s_are_kept_at) (defScope s_are_kept_at) .none kV14 dc14 pm14 an14 cd14 ct14), sl14⟩)
    (c14 : PySem.W.codeIn K cd14 "are_kept_at" = true) (k14 : PySem.W.keepIn K (.ref f14) = true)
    {od15 an15 : Option Addr} {sl15 : Array (Option Value)} {oc15 kV15 dc15 pm15 cd15 ct15 : Value}
    (a15 : PySem.W.nsIn K mainGlobals "rise_beyond" = some (some (.ref f15))) (l15 : K.lookup f15 = some ⟨oc15, od15, .func (PySem.W.fnOf "rise_beyond" "rise_beyond" (defArgs s_rise_beyond) (defBody s_rise_beyond) (defScope s_rise_beyond) .none kV15 dc15 pm15 an15 cd15 ct15), sl15⟩)
    (c15 : PySem.W.codeIn K cd15 "rise_beyond" = true) (k15 : PySem.W.keepIn K (.ref f15) = true)
    {od16 an16 : Option Addr} {sl16 : Array (Option Value)} {oc16 kV16 dc16 pm16 cd16 ct16 : Value}
    (a16 : PySem.W.nsIn K mainGlobals "_law_spool" = some (some (.ref f16))) (l16 : K.lookup f16 = some ⟨oc16, od16, .func (PySem.W.fnOf "_law_spool" "_law_spool" (defArgs s_l_spool) (defBody s_l_spool) (defScope s_l_spool) .none kV16 dc16 pm16 an16 cd16 ct16), sl16⟩)
    (c16 : PySem.W.codeIn K cd16 "_law_spool" = true) (k16 : PySem.W.keepIn K (.ref f16) = true)
    {od17 an17 : Option Addr} {sl17 : Array (Option Value)} {oc17 kV17 dc17 pm17 cd17 ct17 : Value}
    (a17 : PySem.W.nsIn K mainGlobals "_law_draw" = some (some (.ref f17))) (l17 : K.lookup f17 = some ⟨oc17, od17, .func (PySem.W.fnOf "_law_draw" "_law_draw" (defArgs s_l_draw) (defBody s_l_draw) (defScope s_l_draw) .none kV17 dc17 pm17 an17 cd17 ct17), sl17⟩)
    (c17 : PySem.W.codeIn K cd17 "_law_draw" = true) (k17 : PySem.W.keepIn K (.ref f17) = true)
    {od18 an18 : Option Addr} {sl18 : Array (Option Value)} {oc18 kV18 dc18 pm18 cd18 ct18 : Value}
    (a18 : PySem.W.nsIn K mainGlobals "_law_pick" = some (some (.ref f18))) (l18 : K.lookup f18 = some ⟨oc18, od18, .func (PySem.W.fnOf "_law_pick" "_law_pick" (defArgs s_l_pick) (defBody s_l_pick) (defScope s_l_pick) .none kV18 dc18 pm18 an18 cd18 ct18), sl18⟩)
    (c18 : PySem.W.codeIn K cd18 "_law_pick" = true) (k18 : PySem.W.keepIn K (.ref f18) = true)
    {od19 an19 : Option Addr} {sl19 : Array (Option Value)} {oc19 kV19 dc19 pm19 cd19 ct19 : Value}
    (a19 : PySem.W.nsIn K mainGlobals "_law_ties" = some (some (.ref f19))) (l19 : K.lookup f19 = some ⟨oc19, od19, .func (PySem.W.fnOf "_law_ties" "_law_ties" (defArgs s_l_ties) (defBody s_l_ties) (defScope s_l_ties) .none kV19 dc19 pm19 an19 cd19 ct19), sl19⟩)
    (c19 : PySem.W.codeIn K cd19 "_law_ties" = true) (k19 : PySem.W.keepIn K (.ref f19) = true)
    {od20 an20 : Option Addr} {sl20 : Array (Option Value)} {oc20 kV20 dc20 pm20 cd20 ct20 : Value}
    (a20 : PySem.W.nsIn K mainGlobals "_law_all_ties" = some (some (.ref f20))) (l20 : K.lookup f20 = some ⟨oc20, od20, .func (PySem.W.fnOf "_law_all_ties" "_law_all_ties" (defArgs s_l_all_ties) (defBody s_l_all_ties) (defScope s_l_all_ties) .none kV20 dc20 pm20 an20 cd20 ct20), sl20⟩)
    (c20 : PySem.W.codeIn K cd20 "_law_all_ties" = true) (k20 : PySem.W.keepIn K (.ref f20) = true)
    {od21 an21 : Option Addr} {sl21 : Array (Option Value)} {oc21 kV21 dc21 pm21 cd21 ct21 : Value}
    (a21 : PySem.W.nsIn K mainGlobals "_law_longest" = some (some (.ref f21))) (l21 : K.lookup f21 = some ⟨oc21, od21, .func (PySem.W.fnOf "_law_longest" "_law_longest" (defArgs s_l_longest) (defBody s_l_longest) (defScope s_l_longest) .none kV21 dc21 pm21 an21 cd21 ct21), sl21⟩)
    (c21 : PySem.W.codeIn K cd21 "_law_longest" = true) (k21 : PySem.W.keepIn K (.ref f21) = true)
    {od22 an22 : Option Addr} {sl22 : Array (Option Value)} {oc22 kV22 dc22 pm22 cd22 ct22 : Value}
    (a22 : PySem.W.nsIn K mainGlobals "_law_levels" = some (some (.ref f22))) (l22 : K.lookup f22 = some ⟨oc22, od22, .func (PySem.W.fnOf "_law_levels" "_law_levels" (defArgs s_l_levels) (defBody s_l_levels) (defScope s_l_levels) .none kV22 dc22 pm22 an22 cd22 ct22), sl22⟩)
    (c22 : PySem.W.codeIn K cd22 "_law_levels" = true) (k22 : PySem.W.keepIn K (.ref f22) = true)
    {od23 an23 : Option Addr} {sl23 : Array (Option Value)} {oc23 kV23 dc23 pm23 cd23 ct23 : Value}
    (a23 : PySem.W.nsIn K mainGlobals "_law_takes" = some (some (.ref f23))) (l23 : K.lookup f23 = some ⟨oc23, od23, .func (PySem.W.fnOf "_law_takes" "_law_takes" (defArgs s_l_takes) (defBody s_l_takes) (defScope s_l_takes) .none kV23 dc23 pm23 an23 cd23 ct23), sl23⟩)
    (c23 : PySem.W.codeIn K cd23 "_law_takes" = true) (k23 : PySem.W.keepIn K (.ref f23) = true)
    {od24 an24 : Option Addr} {sl24 : Array (Option Value)} {oc24 kV24 dc24 pm24 cd24 ct24 : Value}
    (a24 : PySem.W.nsIn K mainGlobals "_law_rise_right" = some (some (.ref f24))) (l24 : K.lookup f24 = some ⟨oc24, od24, .func (PySem.W.fnOf "_law_rise_right" "_law_rise_right" (defArgs s_l_rise_right) (defBody s_l_rise_right) (defScope s_l_rise_right) .none kV24 dc24 pm24 an24 cd24 ct24), sl24⟩)
    (c24 : PySem.W.codeIn K cd24 "_law_rise_right" = true) (k24 : PySem.W.keepIn K (.ref f24) = true)
    {od25 an25 : Option Addr} {sl25 : Array (Option Value)} {oc25 kV25 dc25 pm25 cd25 ct25 : Value}
    (a25 : PySem.W.nsIn K mainGlobals "_law_told_right" = some (some (.ref f25))) (l25 : K.lookup f25 = some ⟨oc25, od25, .func (PySem.W.fnOf "_law_told_right" "_law_told_right" (defArgs s_l_told_right) (defBody s_l_told_right) (defScope s_l_told_right) .none kV25 dc25 pm25 an25 cd25 ct25), sl25⟩)
    (c25 : PySem.W.codeIn K cd25 "_law_told_right" = true) (k25 : PySem.W.keepIn K (.ref f25) = true)
    {od26 an26 : Option Addr} {sl26 : Array (Option Value)} {oc26 kV26 dc26 pm26 cd26 ct26 : Value}
    (a26 : PySem.W.nsIn K mainGlobals "_law_latest_right" = some (some (.ref f26))) (l26 : K.lookup f26 = some ⟨oc26, od26, .func (PySem.W.fnOf "_law_latest_right" "_law_latest_right" (defArgs s_l_latest_right) (defBody s_l_latest_right) (defScope s_l_latest_right) .none kV26 dc26 pm26 an26 cd26 ct26), sl26⟩)
    (c26 : PySem.W.codeIn K cd26 "_law_latest_right" = true) (k26 : PySem.W.keepIn K (.ref f26) = true)
    {od27 an27 : Option Addr} {sl27 : Array (Option Value)} {oc27 kV27 dc27 pm27 cd27 ct27 : Value}
    (a27 : PySem.W.nsIn K mainGlobals "_law_heard" = some (some (.ref f27))) (l27 : K.lookup f27 = some ⟨oc27, od27, .func (PySem.W.fnOf "_law_heard" "_law_heard" (defArgs s_l_heard) (defBody s_l_heard) (defScope s_l_heard) .none kV27 dc27 pm27 an27 cd27 ct27), sl27⟩)
    (c27 : PySem.W.codeIn K cd27 "_law_heard" = true) (k27 : PySem.W.keepIn K (.ref f27) = true)
    {od28 an28 : Option Addr} {sl28 : Array (Option Value)} {oc28 kV28 dc28 pm28 ct28 : Value} {cL pL : Addr}
    (a28 : PySem.W.nsIn K mainGlobals "_law_refused_right" = some (some (.ref f28))) (l28 : K.lookup f28 = some ⟨oc28, od28, .func (PySem.W.fnOf "_law_refused_right" "_law_refused_right" (defArgs s_l_refused_right) (defBody s_l_refused_right) (defScope s_l_refused_right) .none kV28 dc28 pm28 an28 (.ref cL) ct28), sl28⟩)
    (c28 : PySem.W.codeIn K (.ref cL) "_law_refused_right" = true) (k28 : PySem.W.keepIn K (.ref f28) = true)
    {od29 an29 : Option Addr} {sl29 : Array (Option Value)} {oc29 kV29 dc29 pm29 cd29 ct29 : Value}
    (a29 : PySem.W.nsIn K mainGlobals "law" = some (some (.ref f29))) (l29 : K.lookup f29 = some ⟨oc29, od29, .func (PySem.W.fnOf "law" "law" (defArgs s_law) (defBody s_law) (defScope s_law) .none kV29 dc29 pm29 an29 cd29 ct29), sl29⟩)
    (c29 : PySem.W.codeIn K cd29 "law" = true) (k29 : PySem.W.keepIn K (.ref f29) = true)
    {eC : Value} {dC : Option Addr} {vC : Array Value} {zC : Array (Option Value)} (lC : K.lookup cL = some ⟨eC, dC, .fields vC, zC⟩) (vP : vC[11]? = some (.ref pL)) (hC : PySem.W.codeHdIn K cL pL = true) (nP : K.lookup pL = none)
    {tc_MOST_ENDS : Tok} (ac_MOST_ENDS : PySem.W.nsIn K mainGlobals "MOST_ENDS" = some (some (.int 10 tc_MOST_ENDS)))
    (z_isinstance : PySem.W.nsIn K mainGlobals "isinstance" = some none)
    (z_int : PySem.W.nsIn K mainGlobals "int" = some none)
    (z_bool : PySem.W.nsIn K mainGlobals "bool" = some none)
    (z_list : PySem.W.nsIn K mainGlobals "list" = some none)
    (z_tuple : PySem.W.nsIn K mainGlobals "tuple" = some none)
    (z_all : PySem.W.nsIn K mainGlobals "all" = some none)
    (z_len : PySem.W.nsIn K mainGlobals "len" = some none)
    (z_sorted : PySem.W.nsIn K mainGlobals "sorted" = some none)
    (z_range : PySem.W.nsIn K mainGlobals "range" = some none)
    (z_enumerate : PySem.W.nsIn K mainGlobals "enumerate" = some none)
    (z_zip : PySem.W.nsIn K mainGlobals "zip" = some none)
    (z_max : PySem.W.nsIn K mainGlobals "max" = some none)
    (z_min : PySem.W.nsIn K mainGlobals "min" = some none)
    (z_abs : PySem.W.nsIn K mainGlobals "abs" = some none)
    (z_repr : PySem.W.nsIn K mainGlobals "repr" = some none)
    (z_type : PySem.W.nsIn K mainGlobals "type" = some none)
    {cS : Addr} (aS : PySem.W.nsIn K mainGlobals "SizeError" = some (some (.ref cS))) (uS : PySem.W.subIn K (.ref cS) (.type "BaseException") = some true) (dS : PySem.W.hasDictIn K cS = true) (tS : PySem.W.typeIn K (.ref cS) = some (.type "type"))
    (gn : PySem.W.specialIn K (.builtin "object.__class__") "__get__" = some (some (.builtin "getset_descriptor.__get__"))) (gt : PySem.W.takesIn K (.builtin "object.__class__") = some true)
    {nmB qB : Str} {NB cB fB : Addr} {bsB bmB : List Value} {snB : List Str} {subB : List Value} {abB : Bool} {colB : Option Bool} {ddB : Option Addr} {m0B m1B m2B m3B m5B : Option Value}
    {odB anB : Option Addr} {slB : Array (Option Value)} {ocB kVB dcB pmB cdB ctB : Value}
    (e1B : PySem.W.nsIn K mainGlobals "BadTies" = some (some (.ref cB)))
    (e2B : K.lookup cB = some (excClassObj nmB qB cB NB bsB bmB true snB subB abB colB ddB m0B m1B m2B m3B m5B "ValueError.__new__"))
    (e4B : PySem.W.findIn K (.ref cB) "__setattr__" = some (some (.builtin "object.__setattr__")))
    (e5B : PySem.W.subIn K (.ref cB) (.type "BaseException") = some true)
    (e6B : PySem.W.typeIn K (.ref cB) = some (.type "type"))
    (e7B : PySem.W.keepIn K (.ref cB) = true)
    (e8B : PySem.W.findIn K (.ref cB) "__getattribute__" = some (some (.builtin "BaseException.__getattribute__")))
    (e9B : PySem.W.findIn K (.ref cB) "__getattr__" = some none)
    (e10B : PySem.W.hasDictIn K cB = true)
    (e11B : PySem.W.isClsIn K cB = true)
    (e12B : PySem.W.findIn K (.ref cB) "__class__" = some (some (.builtin "object.__class__")))
    (e13B : PySem.W.mroIn K cB (.type "object") = some true)
    (e14B : PySem.W.findIn K (.ref cB) "__init__" = some (some (.ref fB)))
    (e15B : PySem.W.typeIn K (.ref fB) = some (.type "function"))
    (e16B : K.lookup fB = some ⟨ocB, odB, .func (PySem.W.fnOf "__init__" "BadTies.__init__" (defArgs s_bt) (defBody s_bt) (defScope s_bt) .none kVB dcB pmB anB cdB ctB), slB⟩)
    (e17B : PySem.W.codeIn K cdB "BadTies.__init__" = true)
    (e18B : PySem.W.keepIn K (.ref fB) = true)
    (e20B : PySem.W.subIn K (.ref cB) (.ref cS) = some true)
    (e21Bpart : PySem.W.findIn K (.ref cB) "part" = some none)
    (nnB : PySem.W.kitOne K (.type "NoneType") (.ref cB) = some false)
    (e3B : PySem.HandSPX.refsVE bmB = true)
    {nmN qN : Str} {NN cN fN : Addr} {bsN bmN : List Value} {snN : List Str} {subN : List Value} {abN : Bool} {colN : Option Bool} {ddN : Option Addr} {m0N m1N m2N m3N m5N : Option Value}
    {odN anN : Option Addr} {slN : Array (Option Value)} {ocN kVN dcN pmN cdN ctN : Value}
    (e1N : PySem.W.nsIn K mainGlobals "BadNumber" = some (some (.ref cN)))
    (e2N : K.lookup cN = some (excClassObj nmN qN cN NN bsN bmN true snN subN abN colN ddN m0N m1N m2N m3N m5N "ValueError.__new__"))
    (e4N : PySem.W.findIn K (.ref cN) "__setattr__" = some (some (.builtin "object.__setattr__")))
    (e5N : PySem.W.subIn K (.ref cN) (.type "BaseException") = some true)
    (e6N : PySem.W.typeIn K (.ref cN) = some (.type "type"))
    (e7N : PySem.W.keepIn K (.ref cN) = true)
    (e8N : PySem.W.findIn K (.ref cN) "__getattribute__" = some (some (.builtin "BaseException.__getattribute__")))
    (e9N : PySem.W.findIn K (.ref cN) "__getattr__" = some none)
    (e10N : PySem.W.hasDictIn K cN = true)
    (e11N : PySem.W.isClsIn K cN = true)
    (e12N : PySem.W.findIn K (.ref cN) "__class__" = some (some (.builtin "object.__class__")))
    (e13N : PySem.W.mroIn K cN (.type "object") = some true)
    (e14N : PySem.W.findIn K (.ref cN) "__init__" = some (some (.ref fN)))
    (e15N : PySem.W.typeIn K (.ref fN) = some (.type "function"))
    (e16N : K.lookup fN = some ⟨ocN, odN, .func (PySem.W.fnOf "__init__" "BadNumber.__init__" (defArgs s_bn) (defBody s_bn) (defScope s_bn) .none kVN dcN pmN anN cdN ctN), slN⟩)
    (e17N : PySem.W.codeIn K cdN "BadNumber.__init__" = true)
    (e18N : PySem.W.keepIn K (.ref fN) = true)
    (e20N : PySem.W.subIn K (.ref cN) (.ref cS) = some true)
    (e21Npart : PySem.W.findIn K (.ref cN) "part" = some none)
    (nnN : PySem.W.kitOne K (.type "NoneType") (.ref cN) = some false)
    (e3N : PySem.HandSPX.refsVE bmN = true)
    (noBN : PySem.W.kitOne K (.ref cB) (.ref cN) = some false)
    (noNB : PySem.W.kitOne K (.ref cN) (.ref cB) = some false)
    : Dm.LawAtG l w K 11 63 "_law_script" mg fa h := by
  have e := hfa.symm.trans (PySem.W.mg_of X G a29)
  cases e
  have F0 := fun_mk (st := s_is_integer) l0 c0 k0
  have b0 := F0.binds (ps := ["value"]) fun _ _ _ _ _ _ us hl => match us, hl with | [_], _ => rfl
  have F1 := fun_mk (st := s_is_within) l1 c1 k1
  have b1 := F1.binds (ps := ["value", "least", "most"]) fun _ _ _ _ _ _ us hl => match us, hl with | [_, _, _], _ => rfl
  have F2 := fun_mk (st := s_is_list) l2 c2 k2
  have b2 := F2.binds (ps := ["value"]) fun _ _ _ _ _ _ us hl => match us, hl with | [_], _ => rfl
  have F3 := fun_mk (st := s_is_numbers) l3 c3 k3
  have b3 := F3.binds (ps := ["value"]) fun _ _ _ _ _ _ us hl => match us, hl with | [_], _ => rfl
  have F4 := fun_mk (st := s_is_size) l4 c4 k4
  have b4 := F4.binds (ps := ["value"]) fun _ _ _ _ _ _ us hl => match us, hl with | [_], _ => rfl
  have F5 := fun_mk (st := s_need_size) l5 c5 k5
  have b5 := F5.binds (ps := ["size"]) fun _ _ _ _ _ _ us hl => match us, hl with | [_], _ => rfl
  have F6 := fun_mk (st := s_is_ties) l6 c6 k6
  have b6 := F6.binds (ps := ["value"]) fun _ _ _ _ _ _ us hl => match us, hl with | [_], _ => rfl
  have F7 := fun_mk (st := s_are_ends_many) l7 c7 k7
  have b7 := F7.binds (ps := ["value"]) fun _ _ _ _ _ _ us hl => match us, hl with | [_], _ => rfl
  have F8 := fun_mk (st := s_need_ties) l8 c8 k8
  have b8 := F8.binds (ps := ["value", "part"]) fun _ _ _ _ _ _ us hl => match us, hl with | [_, _], _ => rfl
  have F9 := fun_mk (st := s_tie_colours) l9 c9 k9
  have b9 := F9.binds (ps := ["ties"]) fun _ _ _ _ _ _ us hl => match us, hl with | [_], _ => rfl
  have F10 := fun_mk (st := s_longest_rise) l10 c10 k10
  have b10 := F10.binds (ps := ["ties"]) fun _ _ _ _ _ _ us hl => match us, hl with | [_], _ => rfl
  have F11 := fun_mk (st := s_ties_kept) l11 c11 k11
  have b11 := F11.binds (ps := ["ties", "size"]) fun _ _ _ _ _ _ us hl => match us, hl with | [_, _], _ => rfl
  have F12 := fun_mk (st := s_end_colours) l12 c12 k12
  have b12 := F12.binds (ps := ["row"]) fun _ _ _ _ _ _ us hl => match us, hl with | [_], _ => rfl
  have F13 := fun_mk (st := s_rise_of) l13 c13 k13
  have b13 := F13.binds (ps := ["row"]) fun _ _ _ _ _ _ us hl => match us, hl with | [_], _ => rfl
  have F14 := fun_mk (st := s_are_kept_at) l14 c14 k14
  have b14 := F14.binds (ps := ["row", "size"]) fun _ _ _ _ _ _ us hl => match us, hl with | [_, _], _ => rfl
  have F15 := fun_mk (st := s_rise_beyond) l15 c15 k15
  have b15 := F15.binds (ps := ["row", "size"]) fun _ _ _ _ _ _ us hl => match us, hl with | [_, _], _ => rfl
  have F16 := fun_mk (st := s_l_spool) l16 c16 k16
  have b16 := F16.binds (ps := ["_law_script"]) fun _ _ _ _ _ _ us hl => match us, hl with | [_], _ => rfl
  have F17 := fun_mk (st := s_l_draw) l17 c17 k17
  have b17 := F17.binds (ps := ["_law_spool_here", "_law_many"]) fun _ _ _ _ _ _ us hl => match us, hl with | [_, _], _ => rfl
  have F18 := fun_mk (st := s_l_pick) l18 c18 k18
  have b18 := F18.binds (ps := ["_law_spool_here", "_law_some"]) fun _ _ _ _ _ _ us hl => match us, hl with | [_, _], _ => rfl
  have F19 := fun_mk (st := s_l_ties) l19 c19 k19
  have b19 := F19.binds (ps := ["_law_spool_here", "_law_many"]) fun _ _ _ _ _ _ us hl => match us, hl with | [_, _], _ => rfl
  have F20 := fun_mk (st := s_l_all_ties) l20 c20 k20
  have b20 := F20.binds (ps := ["_law_many"]) fun _ _ _ _ _ _ us hl => match us, hl with | [_], _ => rfl
  have F21 := fun_mk (st := s_l_longest) l21 c21 k21
  have b21 := F21.binds (ps := ["_law_ties_here"]) fun _ _ _ _ _ _ us hl => match us, hl with | [_], _ => rfl
  have F22 := fun_mk (st := s_l_levels) l22 c22 k22
  have b22 := F22.binds (ps := ["_law_ties_here"]) fun _ _ _ _ _ _ us hl => match us, hl with | [_], _ => rfl
  have F23 := fun_mk (st := s_l_takes) l23 c23 k23
  have b23 := F23.binds (ps := ["_law_ties_here", "_law_setting"]) fun _ _ _ _ _ _ us hl => match us, hl with | [_, _], _ => rfl
  have F24 := fun_mk (st := s_l_rise_right) l24 c24 k24
  have b24 := F24.binds (ps := ["_law_ties_here", "_law_told", "_law_many"]) fun _ _ _ _ _ _ us hl => match us, hl with | [_, _, _], _ => rfl
  have F25 := fun_mk (st := s_l_told_right) l25 c25 k25
  have b25 := F25.binds (ps := ["_law_spool_here", "_law_ties_here"]) fun _ _ _ _ _ _ us hl => match us, hl with | [_, _], _ => rfl
  have F26 := fun_mk (st := s_l_latest_right) l26 c26 k26
  have b26 := F26.binds (ps := ["_law_ties_here", "_law_every"]) fun _ _ _ _ _ _ us hl => match us, hl with | [_, _], _ => rfl
  have F27 := fun_mk (st := s_l_heard) l27 c27 k27
  have b27 := F27.binds (ps := ["_law_ask"]) fun _ _ _ _ _ _ us hl => match us, hl with | [_], _ => rfl
  have F28 := fun_mk (st := s_l_refused_right) l28 c28 k28
  have b28 := F28.binds (ps := ["_law_spool_here", "_law_ties_here"]) fun _ _ _ _ _ _ us hl => match us, hl with | [_, _], _ => rfl
  have F29 := fun_mk (st := s_law) l29 c29 k29
  have b29 := F29.binds (ps := ["_law_script"]) fun _ _ _ _ _ _ us hl => match us, hl with | [_], _ => rfl
  have kb9_ties : KBinds K _ ["ties"] ["ties"] (permOf 0 1 [0]).g (permOf 0 1 [0]).g := kb_of (by decide) fun s us ws h1 h2 => match us, ws, h1, h2 with
    | [], [_], _, _ => .of_eq (fd := PySem.W.fnOf "tie_colours" "tie_colours" (defArgs s_tie_colours) (defBody s_tie_colours) (defScope s_tie_colours) .none kV9 dc9 pm9 an9 cd9 ct9) rfl
  have kb10_ties : KBinds K _ ["ties"] ["ties"] (permOf 0 1 [0]).g (permOf 0 1 [0]).g := kb_of (by decide) fun s us ws h1 h2 => match us, ws, h1, h2 with
    | [], [_], _, _ => .of_eq (fd := PySem.W.fnOf "longest_rise" "longest_rise" (defArgs s_longest_rise) (defBody s_longest_rise) (defScope s_longest_rise) .none kV10 dc10 pm10 an10 cd10 ct10) rfl
  have kb11_size_ties : KBinds K _ ["ties", "size"] ["size", "ties"] (permOf 0 2 [1, 0]).g (permOf 0 2 [1, 0]).g := kb_of (by decide) fun s us ws h1 h2 => match us, ws, h1, h2 with
    | [], [_, _], _, _ => .of_eq (fd := PySem.W.fnOf "ties_kept" "ties_kept" (defArgs s_ties_kept) (defBody s_ties_kept) (defScope s_ties_kept) .none kV11 dc11 pm11 an11 cd11 ct11) rfl
  have FB := fun_mk (st := s_bt) e16B e17B e18B
  have bB := FB.binds (ps := ["self", "part"]) fun _ _ _ _ _ _ us hl => match us, hl with | [_, _], _ => rfl
  have EB : ErrK K cB := ⟨⟨⟨_, _, _, _, _, _, _, _, _, _, _, _, _, _, _, e2B, e3B⟩, e4B, e5B, e6B, e7B⟩, ⟨e8B, e9B, e5B, e10B⟩, e11B, e12B, gn, gt, e13B⟩
  have FN := fun_mk (st := s_bn) e16N e17N e18N
  have bN := FN.binds (ps := ["self", "part"]) fun _ _ _ _ _ _ us hl => match us, hl with | [_, _], _ => rfl
  have EN : ErrK K cN := ⟨⟨⟨_, _, _, _, _, _, _, _, _, _, _, _, _, _, _, e2N, e3N⟩, e4N, e5N, e6N, e7N⟩, ⟨e8N, e9N, e5N, e10N⟩, e11N, e12N, gn, gt, e13N⟩
  let T : Txt K mg := {
    a_is_integer := f0, fd_is_integer := _, F_is_integer := F0, g_is_integer := PySem.W.mg_of X G a0, b_is_integer := b0,
    a_is_within := f1, fd_is_within := _, F_is_within := F1, g_is_within := PySem.W.mg_of X G a1, b_is_within := b1,
    a_is_list := f2, fd_is_list := _, F_is_list := F2, g_is_list := PySem.W.mg_of X G a2, b_is_list := b2,
    a_is_numbers := f3, fd_is_numbers := _, F_is_numbers := F3, g_is_numbers := PySem.W.mg_of X G a3, b_is_numbers := b3,
    a_is_size := f4, fd_is_size := _, F_is_size := F4, g_is_size := PySem.W.mg_of X G a4, b_is_size := b4,
    a_need_size := f5, fd_need_size := _, F_need_size := F5, g_need_size := PySem.W.mg_of X G a5, b_need_size := b5,
    a_is_ties := f6, fd_is_ties := _, F_is_ties := F6, g_is_ties := PySem.W.mg_of X G a6, b_is_ties := b6,
    a_are_ends_many := f7, fd_are_ends_many := _, F_are_ends_many := F7, g_are_ends_many := PySem.W.mg_of X G a7, b_are_ends_many := b7,
    a_need_ties := f8, fd_need_ties := _, F_need_ties := F8, g_need_ties := PySem.W.mg_of X G a8, b_need_ties := b8,
    a_tie_colours := f9, fd_tie_colours := _, F_tie_colours := F9, g_tie_colours := PySem.W.mg_of X G a9, b_tie_colours := b9,
    a_longest_rise := f10, fd_longest_rise := _, F_longest_rise := F10, g_longest_rise := PySem.W.mg_of X G a10, b_longest_rise := b10,
    a_ties_kept := f11, fd_ties_kept := _, F_ties_kept := F11, g_ties_kept := PySem.W.mg_of X G a11, b_ties_kept := b11,
    a_end_colours := f12, fd_end_colours := _, F_end_colours := F12, g_end_colours := PySem.W.mg_of X G a12, b_end_colours := b12,
    a_rise_of := f13, fd_rise_of := _, F_rise_of := F13, g_rise_of := PySem.W.mg_of X G a13, b_rise_of := b13,
    a_are_kept_at := f14, fd_are_kept_at := _, F_are_kept_at := F14, g_are_kept_at := PySem.W.mg_of X G a14, b_are_kept_at := b14,
    a_rise_beyond := f15, fd_rise_beyond := _, F_rise_beyond := F15, g_rise_beyond := PySem.W.mg_of X G a15, b_rise_beyond := b15,
    a_l_spool := f16, fd_l_spool := _, F_l_spool := F16, g_l_spool := PySem.W.mg_of X G a16, b_l_spool := b16,
    a_l_draw := f17, fd_l_draw := _, F_l_draw := F17, g_l_draw := PySem.W.mg_of X G a17, b_l_draw := b17,
    a_l_pick := f18, fd_l_pick := _, F_l_pick := F18, g_l_pick := PySem.W.mg_of X G a18, b_l_pick := b18,
    a_l_ties := f19, fd_l_ties := _, F_l_ties := F19, g_l_ties := PySem.W.mg_of X G a19, b_l_ties := b19,
    a_l_all_ties := f20, fd_l_all_ties := _, F_l_all_ties := F20, g_l_all_ties := PySem.W.mg_of X G a20, b_l_all_ties := b20,
    a_l_longest := f21, fd_l_longest := _, F_l_longest := F21, g_l_longest := PySem.W.mg_of X G a21, b_l_longest := b21,
    a_l_levels := f22, fd_l_levels := _, F_l_levels := F22, g_l_levels := PySem.W.mg_of X G a22, b_l_levels := b22,
    a_l_takes := f23, fd_l_takes := _, F_l_takes := F23, g_l_takes := PySem.W.mg_of X G a23, b_l_takes := b23,
    a_l_rise_right := f24, fd_l_rise_right := _, F_l_rise_right := F24, g_l_rise_right := PySem.W.mg_of X G a24, b_l_rise_right := b24,
    a_l_told_right := f25, fd_l_told_right := _, F_l_told_right := F25, g_l_told_right := PySem.W.mg_of X G a25, b_l_told_right := b25,
    a_l_latest_right := f26, fd_l_latest_right := _, F_l_latest_right := F26, g_l_latest_right := PySem.W.mg_of X G a26, b_l_latest_right := b26,
    a_l_heard := f27, fd_l_heard := _, F_l_heard := F27, g_l_heard := PySem.W.mg_of X G a27, b_l_heard := b27,
    a_l_refused_right := f28, fd_l_refused_right := _, F_l_refused_right := F28, g_l_refused_right := PySem.W.mg_of X G a28, b_l_refused_right := b28,
    a_law := fa, fd_law := _, F_law := F29, g_law := PySem.W.mg_of X G a29, b_law := b29,
    t_MOST_ENDS := tc_MOST_ENDS, c_MOST_ENDS := PySem.W.mg_of X G ac_MOST_ENDS,
    k_tie_colours_ties := kb9_ties,
    k_longest_rise_ties := kb10_ties,
    k_ties_kept_size_ties := kb11_size_ties,
    z_isinstance := PySem.W.mg_none_of X G z_isinstance,
    z_int := PySem.W.mg_none_of X G z_int,
    z_bool := PySem.W.mg_none_of X G z_bool,
    z_list := PySem.W.mg_none_of X G z_list,
    z_tuple := PySem.W.mg_none_of X G z_tuple,
    z_all := PySem.W.mg_none_of X G z_all,
    z_len := PySem.W.mg_none_of X G z_len,
    z_sorted := PySem.W.mg_none_of X G z_sorted,
    z_range := PySem.W.mg_none_of X G z_range,
    z_enumerate := PySem.W.mg_none_of X G z_enumerate,
    z_zip := PySem.W.mg_none_of X G z_zip,
    z_max := PySem.W.mg_none_of X G z_max,
    z_min := PySem.W.mg_none_of X G z_min,
    z_abs := PySem.W.mg_none_of X G z_abs,
    z_repr := PySem.W.mg_none_of X G z_repr,
    z_type := PySem.W.mg_none_of X G z_type,
    cS := cS, gS := PySem.W.mg_of X G aS,
    cB := cB, gB := PySem.W.mg_of X G e1B, fB := fB, fdB := _, FB := FB, bB := bB, iB := e14B, tB := e15B, eB := EB, xB := PySem.W.exm_ref uS dS tS e20B,
    nB_part := e21Bpart,
    nnB := nnB,
    noBN := noBN,
    cN := cN, gN := PySem.W.mg_of X G e1N, fN := fN, fdN := _, FN := FN, bN := bN, iN := e14N, tN := e15N, eN := EN, xN := PySem.W.exm_ref uS dS tS e20N,
    nN_part := e21Npart,
    nnN := nnN,
    noNB := noNB,
    cL := cL, pL := pL, lL := ⟨_, _, _, _, _, _, _, _, rfl, l28, c28⟩ }
  have tab : h.get? pL = some { cls := .none, data := .fields #[] } := own "_law_refused_right" f28 hrec (PySem.W.mg_of X G a28) cL pL _ _ _ _ _ _ l28 rfl rfl lC vP
  have hd : PySem.W.CodeHd h cL pL := PySem.W.codeHd_of_K X hC
  refine ⟨PySem.W.fnOf "law" "law" (defArgs s_law) (defBody s_law) (defScope s_law) .none kV29 dc29 pm29 an29 cd29 ct29, [(cL, pL)], sp_lawD K [pL], ⟨fun p hp => ?_, fun p hp => ?_, fun p hp => ?_, fun s v => .of_eq rfl, fun H a ns hl ht hS => ?_, fun base _ _ TB => ?_⟩⟩
  · rw [List.mem_singleton.mp hp]
    exact tab
  · rw [List.mem_singleton.mp hp]
    exact nP
  · rw [List.mem_singleton.mp hp]
    exact hd
  · exact ⟨a, ns, rfl, hS, hl, fun p hp => by
      rw [List.mem_singleton.mp hp]
      exact ht _ (List.mem_singleton.mpr rfl), fun _ => rfl⟩
  · exact ok_law T (TB _ (List.mem_singleton.mpr rfl)) (fun q cells => law_true T.pL q cells)
end My
open PySem PySem.W PyProof.Rows
set_option maxHeartbeats 0 in
theorem PySem.Challenge.cw_fromsize_k27_rises_and_colours_holds : PySem.Challenge.rw_fromsize_k27_rises_and_colours.Holds := by
  w_on; o_law; k_head; (case hw => w_witness2)
  k_fill
  refine Dm.walk_ofTabsG (l := PySem.Challenge.rw_fromsize_k27_rises_and_colours) (n := 63) (k := 11) (x := "_law_script") rfl (by decide) rfl ⟨rfl, by decide, by decide⟩ (fun w h Y => PySem.W.km_in_of Y) ?F
  case F =>
    intro w mg fa h Y KX G hmg own
    refine' My.all_mk KX G hmg own ?hrec ?a0 ?l0 ?c0 ?k0 ?a1 ?l1 ?c1 ?k1 ?a2 ?l2 ?c2 ?k2 ?a3 ?l3 ?c3 ?k3 ?a4 ?l4 ?c4 ?k4 ?a5 ?l5 ?c5 ?k5 ?a6 ?l6 ?c6 ?k6 ?a7 ?l7 ?c7 ?k7 ?a8 ?l8 ?c8 ?k8 ?a9 ?l9 ?c9 ?k9 ?a10 ?l10 ?c10 ?k10 ?a11 ?l11 ?c11 ?k11 ?a12 ?l12 ?c12 ?k12 ?a13 ?l13 ?c13 ?k13 ?a14 ?l14 ?c14 ?k14 ?a15 ?l15 ?c15 ?k15 ?a16 ?l16 ?c16 ?k16 ?a17 ?l17 ?c17 ?k17 ?a18 ?l18 ?c18 ?k18 ?a19 ?l19 ?c19 ?k19 ?a20 ?l20 ?c20 ?k20 ?a21 ?l21 ?c21 ?k21 ?a22 ?l22 ?c22 ?k22 ?a23 ?l23 ?c23 ?k23 ?a24 ?l24 ?c24 ?k24 ?a25 ?l25 ?c25 ?k25 ?a26 ?l26 ?c26 ?k26 ?a27 ?l27 ?c27 ?k27 ?a28 ?l28 ?c28 ?k28 ?a29 ?l29 ?c29 ?k29 ?lC ?vP ?hC ?nP ?ac_MOST_ENDS ?z_isinstance ?z_int ?z_bool ?z_list ?z_tuple ?z_all ?z_len ?z_sorted ?z_range ?z_enumerate ?z_zip ?z_max ?z_min ?z_abs ?z_repr ?z_type ?aS ?uS ?dS ?tS ?gn ?gt ?e1B ?e2B ?e4B ?e5B ?e6B ?e7B ?e8B ?e9B ?e10B ?e11B ?e12B ?e13B ?e14B ?e15B ?e16B ?e17B ?e18B ?e20B ?e21Bpart ?nnB ?e3B ?e1N ?e2N ?e4N ?e5N ?e6N ?e7N ?e8N ?e9N ?e10N ?e11N ?e12N ?e13N ?e14N ?e15N ?e16N ?e17N ?e18N ?e20N ?e21Npart ?nnN ?e3N ?noBN ?noNB
    (case hrec => kernel_rfl)
    (case a0 => k_is)
    (case l0 => k_is)
    (case c0 => k_is)
    (case k0 => k_is)
    (case a1 => k_is)
    (case l1 => k_is)
    (case c1 => k_is)
    (case k1 => k_is)
    (case a2 => k_is)
    (case l2 => k_is)
    (case c2 => k_is)
    (case k2 => k_is)
    (case a3 => k_is)
    (case l3 => k_is)
    (case c3 => k_is)
    (case k3 => k_is)
    (case a4 => k_is)
    (case l4 => k_is)
    (case c4 => k_is)
    (case k4 => k_is)
    (case a5 => k_is)
    (case l5 => k_is)
    (case c5 => k_is)
    (case k5 => k_is)
    (case a6 => k_is)
    (case l6 => k_is)
    (case c6 => k_is)
    (case k6 => k_is)
    (case a7 => k_is)
    (case l7 => k_is)
    (case c7 => k_is)
    (case k7 => k_is)
    (case a8 => k_is)
    (case l8 => k_is)
    (case c8 => k_is)
    (case k8 => k_is)
    (case a9 => k_is)
    (case l9 => k_is)
    (case c9 => k_is)
    (case k9 => k_is)
    (case a10 => k_is)
    (case l10 => k_is)
    (case c10 => k_is)
    (case k10 => k_is)
    (case a11 => k_is)
    (case l11 => k_is)
    (case c11 => k_is)
    (case k11 => k_is)
    (case a12 => k_is)
    (case l12 => k_is)
    (case c12 => k_is)
    (case k12 => k_is)
    (case a13 => k_is)
    (case l13 => k_is)
    (case c13 => k_is)
    (case k13 => k_is)
    (case a14 => k_is)
    (case l14 => k_is)
    (case c14 => k_is)
    (case k14 => k_is)
    (case a15 => k_is)
    (case l15 => k_is)
    (case c15 => k_is)
    (case k15 => k_is)
    (case a16 => k_is)
    (case l16 => k_is)
    (case c16 => k_is)
    (case k16 => k_is)
    (case a17 => k_is)
    (case l17 => k_is)
    (case c17 => k_is)
    (case k17 => k_is)
    (case a18 => k_is)
    (case l18 => k_is)
    (case c18 => k_is)
    (case k18 => k_is)
    (case a19 => k_is)
    (case l19 => k_is)
    (case c19 => k_is)
    (case k19 => k_is)
    (case a20 => k_is)
    (case l20 => k_is)
    (case c20 => k_is)
    (case k20 => k_is)
    (case a21 => k_is)
    (case l21 => k_is)
    (case c21 => k_is)
    (case k21 => k_is)
    (case a22 => k_is)
    (case l22 => k_is)
    (case c22 => k_is)
    (case k22 => k_is)
    (case a23 => k_is)
    (case l23 => k_is)
    (case c23 => k_is)
    (case k23 => k_is)
    (case a24 => k_is)
    (case l24 => k_is)
    (case c24 => k_is)
    (case k24 => k_is)
    (case a25 => k_is)
    (case l25 => k_is)
    (case c25 => k_is)
    (case k25 => k_is)
    (case a26 => k_is)
    (case l26 => k_is)
    (case c26 => k_is)
    (case k26 => k_is)
    (case a27 => k_is)
    (case l27 => k_is)
    (case c27 => k_is)
    (case k27 => k_is)
    (case a28 => k_is)
    (case l28 => k_is)
    (case c28 => k_is)
    (case k28 => k_is)
    (case a29 => k_is)
    (case l29 => k_is)
    (case c29 => k_is)
    (case k29 => k_is)
    (case lC => k_is)
    (case vP => exact rfl)
    (case hC => kernel_rfl)
    (case nP => kernel_rfl)
    (case ac_MOST_ENDS => k_is)
    (case z_isinstance => k_is)
    (case z_int => k_is)
    (case z_bool => k_is)
    (case z_list => k_is)
    (case z_tuple => k_is)
    (case z_all => k_is)
    (case z_len => k_is)
    (case z_sorted => k_is)
    (case z_range => k_is)
    (case z_enumerate => k_is)
    (case z_zip => k_is)
    (case z_max => k_is)
    (case z_min => k_is)
    (case z_abs => k_is)
    (case z_repr => k_is)
    (case z_type => k_is)
    (case aS => k_is)
    (case uS => k_is)
    (case dS => k_is)
    (case tS => k_is)
    (case gn => k_is)
    (case gt => k_is)
    (case e1B => k_is)
    (case e2B => k_is)
    (case e4B => k_is)
    (case e5B => k_is)
    (case e6B => k_is)
    (case e7B => k_is)
    (case e8B => k_is)
    (case e9B => k_is)
    (case e10B => k_is)
    (case e11B => k_is)
    (case e12B => k_is)
    (case e13B => k_is)
    (case e14B => k_is)
    (case e15B => k_is)
    (case e16B => k_is)
    (case e17B => k_is)
    (case e18B => k_is)
    (case e20B => first | k_is | kernel_rfl)
    (case e21Bpart => k_is)
    (case nnB => first | kit_is | kernel_rfl)
    (case e3B => exact rfl)
    (case e1N => k_is)
    (case e2N => k_is)
    (case e4N => k_is)
    (case e5N => k_is)
    (case e6N => k_is)
    (case e7N => k_is)
    (case e8N => k_is)
    (case e9N => k_is)
    (case e10N => k_is)
    (case e11N => k_is)
    (case e12N => k_is)
    (case e13N => k_is)
    (case e14N => k_is)
    (case e15N => k_is)
    (case e16N => k_is)
    (case e17N => k_is)
    (case e18N => k_is)
    (case e20N => first | k_is | kernel_rfl)
    (case e21Npart => k_is)
    (case nnN => first | kit_is | kernel_rfl)
    (case e3N => exact rfl)
    (case noBN => first | kit_is | kernel_rfl)
    (case noNB => first | kit_is | kernel_rfl)

