import PyProof.Rows.All
import Wide.All
import OpenK.AllK
import Wide.FinOn
import HandS.ForMost
import HandS.Wide
import HandS.Evl
import HandS.TupAny
import HandS.TupMul
import HandS.Conv
import HandS.IsInst
import HandS.Strs
import HandS.Deep
import HandS.Style
import HandS.SortInts
import KE.KTupSum
import KE.GoesMore
import KE.GoesEnum
import HandS.Zip
import KE.DataMinMax
import HandS.NamedTupSort
import HandS.TupSets
import HandS.SortKw
import HandS.TryOnly
import HandS.Small
import HandS.RaiseMore
import PyProof.CallFns
import KE.SortKeyHeap
import HandS.GenList
import HandS.GenYield
import HandS.WordsExc
import KE.KOwnIn
import HandS.FStr
import HandS.Gcd
import KE.KMathGC
import HandS.SetFor
import HandS.SetKeys
import KE.KDictZip
import KE.KDictKeyed
import KE.KeyNested
import KE.KDictDisplayH
import KE.KDictWalk
import KE.KItemsList
import KE.KDictPairs
import KE.SortData
import KE.KEqDeep
import HandS.CallLocal
import PySem.Challenge.RW_swapsheets_k10_whole_dimensions
set_option Elab.async false
set_option linter.all false
set_option maxRecDepth 100000
set_option maxHeartbeats 4000000
/-! RtU: tuples whose objects are known: what makes them, their methods, isinstance. -/
namespace RtU
open PySem L2 PySem.Spec PyProof.Rows
section
variable {X : Cx} {pins : List (Addr × Obj)} {σ : L2.St} {H : Hp} {s : Shared} {t : TA} {es : List Expr} {pos : Pos}
/-- the object of a tuple that is made -/
abbrev tob (its : Array Value) (n : Nat := 0) : Obj := { cls := .type "tuple", data := .seq its n }
/-- a tuple is made at the heap's end, and its object known -/
theorem laidU {its : List Value} {xs : List V} {tk n : Nat} {h' : Heap} (I : Inv X pins σ H { s with heap := h', toks := tk }) (r : Vals xs its) (z : xs.length ≤ sizeLine) :
    Inv X pins σ (upd H h'.objs.size (.frz (tob its.toArray n) (.tup xs))) { s with heap := h'.push (tob its.toArray n), toks := tk } ∧ H h'.objs.size = none :=
  ⟨I.laid (t' := tk) (fun b u e => Heap.get?_push_of_some _ e) (Nat.le_refl _) (show ObjOk X.prog X.w _ _ _ (.frz (tob its.toArray n) (.tup xs)) from ⟨Heap.get?_push_size _ rfl, z, its, r, ⟨_, Heap.get?_push_size _ rfl, rfl, _, rfl⟩⟩), I.hok.fresh (Nat.le_refl _)⟩
/-- wanted of a new tuple -/
def NewT (Q : VK) (H : Hp) (xs : List V) : Prop := ∀ p o, o.dict = none → H p = none → Q (.ref p) (upd H p (.frz o (.tup xs)))
def tTupU (t : TA) : TE := fun σ H Q => t σ H fun xs H1 => xs.length ≤ sizeLine ∧ NewT Q H1 xs
theorem pe_tupU {x1} (h : PA X es t) : PE X (.Tuple es x1 pos) (tTupU t) := by
  refine ⟨fun pins s σ H Q I hq => wpAny_Tuple_spliced (thn (h.run pos pins s σ H _ I hq) fun us s1 ⟨xs, H1, I1, r, z, q⟩ => ⟨by rw [← r.length]; exact z, ?_⟩)⟩
  obtain ⟨I2, hf⟩ := laidU (s := s1) (n := 0) (h' := s1.heap) (tk := s1.toks) I1 r z
  exact ⟨.ref _, _, I2, rfl, q _ _ rfl hf⟩
/-- t + u -/
def rCatU (K : PySem.W.Frag) : R2 := fun x y H Q => ∃ a b xs ys, x = .ref a ∧ y = .ref b ∧ SqT K H a xs ∧ SqT K H b ys ∧ xs.length + ys.length ≤ sizeLine ∧
  (xs = [] → Q (.ref b) H) ∧ (xs ≠ [] → ys = [] → Q (.ref a) H) ∧ (xs ≠ [] → ys ≠ [] → NewT Q H (xs ++ ys))
theorem op_catU : OpR X (binaryOp .Add) (rCatU X.K) := by
  intro pins s σ H x y v u Q I rx ry ⟨a, b, xs, ys, ex, ey, ha, hb, hz, q0, q1, q2⟩
  subst ex ey
  by_cases hx : xs = []
  · exact op_catA pins s σ H _ _ v u Q I rx ry ⟨a, b, xs, ys, rfl, rfl, ha, hb, hz, q0, q1, fun z => absurd hx z⟩
  · cases rx
    cases ry
    obtain ⟨its, r1, p1, _⟩ := I.tuple ha
    obtain ⟨its2, r2, p2, _⟩ := I.tuple hb
    refine HT.cat_tup p1 p2 (fun z => hx (r1.nil_iff.mp z)) (fun z => ⟨.ref a, H, I, rfl, q1 hx (r2.nil_iff.mp z)⟩) (fun z => ?_) (by rw [← r1.length, ← r2.length]; exact hz)
    obtain ⟨I2, hf⟩ := laidU (s := s) (n := 0) (h' := s.heap) (tk := s.toks) I (r1.append r2) (by rw [List.length_append]; exact hz)
    exact ⟨.ref _, _, I2, rfl, q2 hx (fun w => z (r2.nil_iff.mpr w)) _ _ rfl hf⟩
/-- t[lo:hi]: the whole of it is t itself -/
def rSlU (K : PySem.W.Frag) : V → Option Int → Option Int → Hp → VK → Prop := fun x lo hi H Q => ∃ a xs, x = .ref a ∧ SqT K H a xs ∧
  (HT.sIx xs.length 0 lo = 0 ∧ HT.sIx xs.length xs.length hi = xs.length → Q (.ref a) H) ∧ (¬ (HT.sIx xs.length 0 lo = 0 ∧ HT.sIx xs.length xs.length hi = xs.length) → NewT Q H (cutV xs lo hi))
theorem sl_tupU : SlR X (rSlU X.K) := by
  intro pins s σ H x v vl vu lo hi sl Q I rx hs pl pu ⟨a, xs, ex, hx, q1, q2⟩
  by_cases hw : HT.sIx xs.length 0 lo = 0 ∧ HT.sIx xs.length xs.length hi = xs.length
  · exact sl_tupA pins s σ H x v vl vu lo hi sl Q I rx hs pl pu ⟨a, xs, ex, hx, q1, fun z => absurd hw z⟩
  · subst ex
    cases rx
    obtain ⟨its, r, ht, hz⟩ := I.tuple hx
    have hlen : its.toArray.size = xs.length := by rw [List.size_toArray]; exact r.length.symm
    refine ⟨"tuple", _, PyProof.Rows.slot_tuple_getitem.lookup, ht.typeIs, HT.getItem_tuple_cut ht hs pl pu (by rw [hlen]; exact hw) ?_ (by rw [hlen]; exact hz)⟩
    rw [hlen]
    obtain ⟨I2, hf⟩ := laidU (s := s) (n := 0) (h' := s.heap) (tk := s.toks) I ((r.drop (HT.sIx xs.length 0 lo)).take (HT.sIx xs.length xs.length hi - HT.sIx xs.length 0 lo)) (Nat.le_trans (cutV_length xs lo hi) hz)
    exact ⟨.ref _, _, I2, rfl, q2 hw _ _ rfl hf⟩
/-- tuple(xs) of a list -/
theorem call_tuple_ofU : CallR X (.type "tuple") (fun xs H Q => ∃ p ys, xs = [.ref p] ∧ SqL X.K H p ys ∧ NewT Q H ys) := by
  intro pins s σ H xs us Q I r ⟨p, ys, ex, hq, q⟩
  subst ex
  obtain ⟨u, rfl, rx⟩ := vals1 r
  cases rx
  obtain ⟨its, r', pl, hz⟩ := I.list hq
  have hlen := r'.length
  refine call_tuple_list pl.isList (fun h' kp => ?_) (by simp only [List.size_toArray]; omega)
  have I1 : Inv X pins σ H { s with heap := h' } := I.kept (t' := s.toks) kp
  obtain ⟨I2, hf⟩ := laidU (s := s) (n := 0) (h' := h') (tk := s.toks) I1 r' hz
  exact ⟨.ref _, _, I2, rfl, q _ _ rfl hf⟩
/-- tuple(range(..)) -/
def tTupRgU (te : L2.St → Hp → (Int → Int → Hp → Prop) → Prop) : TE := fun σ H Q => te σ H fun a b H1 => RgOk a b ∧ NewT Q H1 (rgV a b)
theorem pe_tupRgU {e : Expr} {te : L2.St → Hp → (Int → Int → Hp → Prop) → Prop} {p : Pos} (hc : X.calm = true) (hg : Gl X "tuple") (hm : X.mg "tuple" = none) (he : PRg X e te) (na : starEach [e] X.env = (false, eval e X.env) :: starEach [] X.env := by rfl) : PE X (.Call (.Name "tuple" p) [e] [] pos) (tTupRgU te) := by
  refine ⟨fun pins s σ H Q I h => Call_ (ld_blt I hg hm boot_tuple (PyProof.Rows.callWith_type1 (args_cons (thn (he pins s σ H _ I h) fun x s1 ⟨r, a, b, t, u, v, H1, ex, hr, I1, ok, q⟩ => args_nil ?_) na) na))⟩
  subst ex
  obtain ⟨b1, b2, b3, b4, b5⟩ := ok
  refine call_tuple_range (n := (b - a).toNat) (I1.ok.hd hc) hr (small_one b1 b2 b3 b4) (rangeSize_nat a b) b5 fun h' tk acc hk hi => ?_
  have I2 : Inv X pins σ H1 { s1 with heap := h', toks := tk } := I1.kept hk
  obtain ⟨I3, hf⟩ := laidU (s := s1) (n := 0) (h' := h') (tk := tk) I2 (its := acc.toList) (xs := rgV a b) (vals_rg hi) (by rw [rgV_length, sizeLine_eq]; omega)
  exact ⟨.ref _, _, I3, rfl, q _ _ rfl hf⟩
/-- t * k, k at least 2 -/
def rRepU (K : PySem.W.Frag) : R2 := fun x y H Q => ∃ l k xs, x = .ref l ∧ y = .int k ∧ SqT K H l xs ∧ xs ≠ [] ∧ (k = 0 ∨ 2 ≤ k) ∧ k ≤ 1000 ∧ xs.length ≤ 1000 ∧ NewT Q H (List.replicate k.toNat xs).flatten
/-- t * 0 -/
theorem tuple_mul0 (l : Addr) (items : Array Value) (n : Nat) (dd : Option Addr) (sl : Array (Option Value)) (x : Int) (u : Tok) (c0 : (decide (x < -(2 ^ 63)) || decide (x ≥ 2 ^ 63)) = false) (c1 : (items.isEmpty || x == 1) = false) (c2 : (decide (x ≤ 0) || items.isEmpty) = true) :
    Meets (Builtin.«tuple.__mul__» ⟨[.ref l, .int x u], []⟩) (fun _ R s => s.heap.get? l = some { cls := .type "tuple", dict := dd, data := .seq items n, slots := sl } ∧
      R (.ok (.ret (Value.ref s.heap.objs.size))) { s with heap := s.heap.push { cls := Value.type "tuple", data := Data.seq #[] }, toks := s.toks }) :=
  .of_wp fun prog w A R s h => by
    obtain ⟨hp, g, d, tk, os⟩ := s
    obtain ⟨hl, h⟩ := h
    have f1 := AutoSeq1.idx_int
    wp_walk using AutoSeq1.wpAny_loadPart' hl
    repeat (first
      | (refine wpAny_ite_false (decide_eq_false (by rw [c0]; exact Bool.false_ne_true)) ?_; wp_walk using AutoSeq1.wpAny_loadPart' hl)
      | (refine wpAny_ite_false (decide_eq_false (by rw [c1]; exact Bool.false_ne_true)) ?_; wp_walk using AutoSeq1.wpAny_loadPart' hl)
      | (refine wpAny_ite_true (decide_eq_true c2) ?_; wp_walk using AutoSeq1.wpAny_loadPart' hl))
    exact ⟨_, rfl, h⟩
theorem op_repU : OpR X (binaryOp .Mult) (rRepU X.K) := by
  intro pins s σ H x y v u Q I rx ry ⟨l, k, xs, ex, ey, hT, hne, h1, h2, hz, q⟩
  subst ex ey
  cases rx
  obtain ⟨t, rfl⟩ := ry
  obtain ⟨its, r, ⟨⟨cls, dd, data, sl⟩, ho, hc, n, hd⟩, hs⟩ := I.tuple hT
  simp only at hc hd
  subst hc hd
  have hle : its.length = xs.length := r.length.symm
  have hn : its ≠ [] := fun e => hne (List.eq_nil_of_length_eq_zero (by rw [← hle, e]; rfl))
  have hi : its.toArray.isEmpty = false := by cases its with | nil => exact absurd rfl hn | cons a b => rfl
  have hsz0 : its.toArray.size = xs.length := by rw [List.size_toArray, hle]
  have c1 : (its.toArray.isEmpty || k == 1) = false := by rw [hi, Bool.false_or]; exact beq_eq_false_iff_ne.mpr (by omega)
  have c0 : (decide (k < -(2 ^ 63)) || decide (k ≥ 2 ^ 63)) = false := by rw [decide_eq_false (by omega), decide_eq_false (by omega)]; rfl
  rcases h1 with h0 | h1
  · subst h0
    refine wpAny_binaryOp_repeat_ref (T := "tuple") (U := "int") (by decide) ⟨_, ho, rfl⟩ (fun s' => typeIs_int s' 0 t) noFill_tuple_mul F.fills_int_mul F.slot_int_rmul repeat_tuple F.slot_int_index.lookup
      (call_meets F.slot_int_rmul (typeIs_int s 0 t) F.entry_int_rmul (F.args_int_rmul_2 _ _) (int_rmul_tuple 0 t l its.toArray n dd sl)
        ⟨ho, rfl, ⟨_, ho, rfl⟩, call_meets F.slot_tuple_mul ⟨_, ho, rfl⟩ F.entry_tuple_mul (F.args_tuple_mul_2 _ _) (tuple_mul0 l its.toArray n dd sl 0 t c0 c1 rfl) ⟨ho, ?_⟩⟩)
    obtain ⟨I2, hf⟩ := laidU (s := s) (n := 0) (h' := s.heap) (tk := s.toks) (its := []) (xs := []) I .nil (Nat.zero_le _)
    exact ⟨.ref _, _, I2, rfl, q _ _ rfl hf⟩
  · have hm : ((its.toArray.size : Nat) : Int) * k ≤ 1000000 := by
      rw [hsz0]
      have a1 : ((xs.length : Nat) : Int) * k ≤ 1000 * k := Int.mul_le_mul_of_nonneg_right (by omega) (by omega)
      omega
    have flen : (List.replicate k.toNat its).flatten.length ≤ sizeLine := by
      rw [PyProof.Rows.lm_len_rep_flat, hle, sizeLine_eq]
      have a1 : k.toNat * xs.length ≤ 1000 * 1000 := Nat.mul_le_mul (by omega) hz
      omega
    have c2 : (decide (k ≤ 0) || its.toArray.isEmpty) = false := by rw [hi, Bool.or_false]; exact decide_eq_false (by omega)
    have c4 : Builtin.Tuple.tupleTooMany (((its.toArray.size : Nat) : Int) * k) = false := decide_eq_false (by rw [sizeLine_eq]; omega)
    refine wpAny_binaryOp_repeat_ref (T := "tuple") (U := "int") (by decide) ⟨_, ho, rfl⟩ (fun s' => typeIs_int s' k t) noFill_tuple_mul F.fills_int_mul F.slot_int_rmul repeat_tuple F.slot_int_index.lookup
      (call_meets F.slot_int_rmul (typeIs_int s k t) F.entry_int_rmul (F.args_int_rmul_2 _ _) (int_rmul_tuple k t l its.toArray n dd sl) ⟨ho, rfl, ⟨_, ho, rfl⟩,
        call_meets F.slot_tuple_mul ⟨_, ho, rfl⟩ F.entry_tuple_mul (F.args_tuple_mul_2 _ _) (tuple_mulW l its.toArray n dd sl k t c0 c1 c2 (by omega) c4 (by rw [size_rep, List.size_toArray]; exact flen)) ⟨ho, ?_⟩⟩)
    rw [size_rep]
    obtain ⟨I2, hf⟩ := laidU (s := s) (n := 0) (h' := s.heap) (tk := s.toks) I (r.rep k.toNat) (by
      rw [PyProof.Rows.lm_len_rep_flat, sizeLine_eq]
      have a1 : k.toNat * xs.length ≤ 1000 * 1000 := Nat.mul_le_mul (by omega) hz
      omega)
    exact ⟨.ref _, _, I2, rfl, q _ _ rfl hf⟩
/-! ### isinstance -/
/-- of what type a value is -/
def TyU (K : PySem.W.Frag) (H : Hp) (x : V) (t : Value) : Prop := TyOf K H x t ∨ (t = .type "tuple" ∧ ∃ p o vs, x = .ref p ∧ H p = some (.frz o (.tup vs)))
def rIsiU (K : PySem.W.Frag) : List V → Hp → VK → Prop := fun xs H Q => ∃ (x : V) (n m : String) (b : Bool), xs = [x, .ty n] ∧ TyU K H x (.type m) ∧ kitB m n = some b ∧ Q (.bl b) H
theorem call_isiU : CallR X (.builtin "isinstance") (rIsiU X.K) := by
  intro pins s σ H xs us Q I r ⟨x, n, m, b, ex, ty, e, q⟩
  rcases ty with ty | ⟨et, p, o, vs, ep, hp⟩
  · exact call_isi pins s σ H xs us Q I r ⟨x, .ty n, .type m, .type n, b, ex, .ty n, .base ty, kit_ty e, q⟩
  · subst ex ep
    cases et
    obtain ⟨u1, u2, rfl, r1, r2⟩ := vals2 r
    cases r1
    have e2 := (ClsV.ty n).eq r2
    subst e2
    obtain ⟨_, _, _, _, o', h1, h2, _⟩ := (show ObjOk X.prog X.w H s.heap p (.frz o (.tup vs)) from I.hok p _ hp)
    exact PySem.W.kia_one PySem.W.kitx_tuple I.kIn ⟨o', h1, h2⟩ (kit_ty e) (fun z => nomatch z) fun tk => ⟨.bl b, H, I.tok tk, rfl, q⟩
/-! ### methods -/
def tBMU (r : V → List V → Hp → VK → Prop) (to : TE) (t : TA) : TE := fun σ H Q => to σ H fun x H1 => (∃ p o vs, x = .ref p ∧ o.dict = none ∧ H1 p = some (.frz o (.tup vs))) ∧ t σ H1 fun xs H2 => r x xs H2 Q
theorem pe_bmU {o e : Expr} {name : Str} {id : String} {apos cpos : Pos} {r : V → List V → Hp → VK → Prop} {to : TE} (slot : Slot "tuple" name id) (hty : typeOf (.builtin id) = pure (.type "method_descriptor")) (hm : MtR X id r) (ho : PE X o to) (ha : PA X (e :: es) t)
    (hbase : attributeBase o name X.env (eval o X.env) = eval o X.env := by rfl) (hfew : ((backTo cpos (starEach (e :: es) X.env)).all (fun x => !x.1) && (backToKw cpos (keywordEach [] X.env)).all (fun x => x.1.isSome) && decide ((e :: es).length + ([] : List Keyword).length + (if ([] : List Keyword).isEmpty then 0 else 1) < 30)) = true := by rfl)
    (hline : (apos.endLine == cpos.line) = true := by rfl) (hs : starEach (e :: es) X.env = (false, eval e X.env) :: starEach es X.env := by rfl) (hplain : (backTo cpos (starEach es X.env)).any (·.1) = false := by rfl) : PE X (.Call (.Attribute o name apos) (e :: es) [] cpos) (tBMU r to t) := by
  refine ⟨fun pins s σ H Q I h => wpAny_Call_method_late hbase hfew hline rfl (thn (ho.run pins s σ H _ I h) fun v s1 ⟨x, H1, I1, r1, ⟨p, ob, vs, ex, hdn, hp⟩, q1⟩ => ?_)⟩
  subst ex
  cases r1
  obtain ⟨h1, _, _, _, o', h2, h3, _⟩ := (show ObjOk X.prog X.w H1 s1.heap p (.frz ob (.tup vs)) from I1.hok p _ hp)
  refine ⟨"tuple", id, PySem.F.plainAttrs_tuple, slot, hty, ⟨o', h2, h3⟩, fun a ea => by cases ea; exact ⟨ob, h1, hdn⟩, ?_⟩
  have hA := ha.run cpos pins s1 σ H1 _ I1 q1
  rw [hs] at hA ⊢
  refine Calls.callWith_builtin (by show (false || (backTo cpos (starEach es X.env)).any (·.1)) = false; rw [hplain]; rfl) (Calls.evalArgs_plain (thn hA fun us s2 ⟨vs2, H2, I2, r2, q2⟩ => hm pins s2 σ H2 (.ref p) vs2 _ us Q I2 rfl r2 q2))
def rIndexU (K : PySem.W.Frag) : V → List V → Hp → VK → Prop := fun x xs H Q => ∃ (a : Addr) (ys : List V) (y : V) (j : Nat) (z : V), x = V.ref a ∧ xs = [y] ∧ SqT K H a ys ∧ flatV y = true ∧ ys.all flatV = true ∧ ys[j]? = some z ∧ eqV z y = true ∧
  (∀ (m : Nat) (z' : V), m < j → ys[m]? = some z' → eqV z' y = false) ∧ Q (.int (j : Nat)) H
theorem mt_indexU : MtR X "tuple.index" (rIndexU X.K) := by
  intro pins s σ H x xs v us Q I rx rxs ⟨a, ys, y, j, z, e1, e2, hs, fy, fys, hz, hzj, hno, q⟩
  subst e1 e2
  cases rx
  cases rxs with
  | cons ry rt =>
    rename_i uy ut
    cases rt
    obtain ⟨its, rv, ⟨⟨cls, dd, data, sl⟩, ho, hc, n, hd⟩, hlen⟩ := I.tuple hs
    simp only at hc hd
    subst hc hd
    obtain ⟨u, hu, ru⟩ := rv.get hz
    obtain ⟨hjl, hje⟩ := List.getElem?_eq_some_iff.mp hu
    have hvl := rv.length
    have hj : j < its.toArray.size := by simpa using hjl
    refine call_meets PySem.F.slot_tuple_index ⟨_, ho, rfl⟩ PySem.F.entry_tuple_index (PySem.F.args_tuple_index_2 _ _) (TI.tuple_indexAt a its.toArray n dd sl uy (eqU y) j hj ?_ ?_) ⟨ho, fun u' hu' => mem_eqAt ry fy rv fys u' (by simpa using hu'), ?_⟩
    · rw [show its.toArray[j] = u by simpa using hje, eqU_of ru (flat_at fys hz)]
      exact hzj
    · intro m hm hmj
      have hml : m < its.length := by simpa using hm
      have hmy : m < ys.length := by omega
      obtain ⟨u2, hu2, ru2⟩ := rv.get (List.getElem?_eq_getElem hmy)
      obtain ⟨_, hme⟩ := List.getElem?_eq_some_iff.mp hu2
      rw [show its.toArray[m] = u2 by simpa using hme, eqU_of ru2 (flat_at fys (List.getElem?_eq_getElem hmy))]
      exact hno m _ hmj (List.getElem?_eq_getElem hmy)
    · exact ⟨.int (j : Nat), H, I.tok _, ⟨_, rfl⟩, q⟩
def rCountU (K : PySem.W.Frag) : V → List V → Hp → VK → Prop := fun x xs H Q => ∃ (a : Addr) (ys : List V) (y : V), x = V.ref a ∧ xs = [y] ∧ SqT K H a ys ∧ flatV y = true ∧ ys.all flatV = true ∧ Q (.int ((ys.countP fun z => eqV z y : Nat) : Int)) H
theorem count_eqU {x : V} : ∀ {xs : List V} {us : List Value}, Vals xs us → xs.all flatV = true → us.countP (eqU x) = xs.countP fun y => eqV y x
  | _, _, .nil, _ => rfl
  | y :: xs, u :: us, .cons r t, f => by
    rw [List.all_cons, Bool.and_eq_true] at f
    rw [List.countP_cons, List.countP_cons, count_eqU t f.2, eqU_of r f.1]
theorem mt_countU : MtR X "tuple.count" (rCountU X.K) := by
  intro pins s σ H x xs v us Q I rx rxs ⟨a, ys, y, e1, e2, hs, fy, fys, q⟩
  subst e1 e2
  cases rx
  cases rxs with
  | cons ry rt =>
    rename_i uy ut
    cases rt
    obtain ⟨its, rv, ⟨⟨cls, dd, data, sl⟩, ho, hc, n, hd⟩, hlen⟩ := I.tuple hs
    simp only at hc hd
    subst hc hd
    refine call_meets PySem.F.slot_tuple_count ⟨_, ho, rfl⟩ PySem.F.entry_tuple_count (PySem.F.args_tuple_count_2 _ _) (SeqAt.tuple_countAt a its.toArray n dd sl uy (eqU y)) ⟨ho, fun u' hu' => mem_eqAt ry fy rv fys u' (by simpa using hu'), ?_⟩
    refine ⟨.int _, H, I.tok _, ⟨_, rfl⟩, ?_⟩
    rw [show its.toArray.toList.countP (eqU y) = ys.countP fun z => eqV z y from count_eqU rv fys]
    exact q
/-! ### t[::-1] -/
def tRevU (K : PySem.W.Frag) (te : TE) : TE := fun σ H Q => te σ H fun x H1 => ∃ a xs, x = .ref a ∧ SqT K H1 a xs ∧ NewT Q H1 xs.reverse
end
end RtU

set_option maxRecDepth 100000
set_option maxHeartbeats 4000000
/-! Rt1: data over the layer: what a value stands for, frames of data, expressions that give data. -/
namespace Rt
open PySem L2

/-! ### extensions of a heap -/
def Ex (H H' : Hp) : Prop := ∀ a o, H a = some o → H' a = some o
theorem Ex.refl (H : Hp) : Ex H H := fun _ _ h => h
theorem Ex.trans {H H1 H2 : Hp} (a : Ex H H1) (b : Ex H1 H2) : Ex H H2 := fun x o h => b x o (a x o h)
theorem Ex.new {H : Hp} {p : Addr} {o : HO} (h : H p = none) : Ex H (upd H p o) := fun a u e => by
  rw [upd_ne (ne_of_none e h)]
  exact e
theorem Ex.back {H H' : Hp} {p : Addr} (e : Ex H H') (h : H' p = none) : H p = none := by
  cases h1 : H p with
  | none => rfl
  | some o =>
    rw [e p o h1] at h
    cases h
/-- what both lay anew -/
theorem Ex.upd2 {H H' : Hp} {p : Addr} {o : HO} (e : Ex H H') : Ex (upd H p o) (upd H' p o) := fun a u h => by
  by_cases q : a = p
  · subst q
    rw [upd_same] at h ⊢
    exact h
  · rw [upd_ne q] at h ⊢
    exact e a u h
/-- a thing that the lesser heap doesn't know may change -/
theorem Ex.mut {H H' : Hp} {p : Addr} {o : HO} (e : Ex H H') (h : H p = none) : Ex H (upd H' p o) := fun a u ha => by
  rw [upd_ne (ne_of_none ha h)]
  exact e a u ha

/-! ### lists side by side -/
def All2 {α β : Type} (R : α → β → Prop) : List α → List β → Prop
  | [], [] => True
  | a :: as, b :: bs => R a b ∧ All2 R as bs
  | _, _ => False
section
variable {α β γ : Type} {R R' : α → β → Prop}
theorem All2.mono (h : ∀ a b, R a b → R' a b) : ∀ {as : List α} {bs : List β}, All2 R as bs → All2 R' as bs
  | [], [], _ => True.intro
  | a :: as, b :: bs, ⟨x, y⟩ => ⟨h a b x, All2.mono h y⟩
  | [], _ :: _, z => z.elim
  | _ :: _, [], z => z.elim
theorem All2.length : ∀ {as : List α} {bs : List β}, All2 R as bs → as.length = bs.length
  | [], [], _ => rfl
  | a :: as, b :: bs, ⟨x, y⟩ => by rw [List.length_cons, List.length_cons, All2.length y]
  | [], _ :: _, z => z.elim
  | _ :: _, [], z => z.elim
theorem All2.append : ∀ {as cs : List α} {bs ds : List β}, All2 R as bs → All2 R cs ds → All2 R (as ++ cs) (bs ++ ds)
  | [], _, [], _, _, h => h
  | a :: as, _, b :: bs, _, ⟨x, y⟩, h => ⟨x, All2.append y h⟩
  | [], _, _ :: _, _, z, _ => z.elim
  | _ :: _, _, [], _, z, _ => z.elim
theorem All2.get : ∀ {as : List α} {bs : List β} (i : Nat) {b : β}, All2 R as bs → bs[i]? = some b → ∃ a, as[i]? = some a ∧ R a b
  | [], [], _, _, _, h => by simp at h
  | a :: as, b :: bs, 0, c, ⟨x, y⟩, h => by
    simp at h
    subst h
    exact ⟨a, rfl, x⟩
  | a :: as, b :: bs, i + 1, c, ⟨x, y⟩, h => by
    simp at h
    obtain ⟨v, e, r⟩ := All2.get i y h
    exact ⟨v, by simpa using e, r⟩
  | [], _ :: _, _, _, z, _ => z.elim
  | _ :: _, [], _, _, z, _ => z.elim
theorem All2.getL : ∀ {as : List α} {bs : List β} (i : Nat) {a : α}, All2 R as bs → as[i]? = some a → ∃ b, bs[i]? = some b ∧ R a b
  | [], [], _, _, _, h => by simp at h
  | a :: as, b :: bs, 0, c, ⟨x, y⟩, h => by
    simp at h
    subst h
    exact ⟨b, rfl, x⟩
  | a :: as, b :: bs, i + 1, c, ⟨x, y⟩, h => by
    simp at h
    obtain ⟨v, e, r⟩ := All2.getL i y h
    exact ⟨v, by simpa using e, r⟩
  | [], _ :: _, _, _, z, _ => z.elim
  | _ :: _, [], _, _, z, _ => z.elim
theorem All2.take : ∀ (n : Nat) {as : List α} {bs : List β}, All2 R as bs → All2 R (as.take n) (bs.take n)
  | 0, _, _, _ => True.intro
  | n + 1, [], [], _ => True.intro
  | n + 1, a :: as, b :: bs, ⟨x, y⟩ => ⟨x, All2.take n y⟩
  | _ + 1, [], _ :: _, z => z.elim
  | _ + 1, _ :: _, [], z => z.elim
theorem All2.drop : ∀ (n : Nat) {as : List α} {bs : List β}, All2 R as bs → All2 R (as.drop n) (bs.drop n)
  | 0, _, _, h => h
  | n + 1, [], [], _ => True.intro
  | n + 1, a :: as, b :: bs, ⟨x, y⟩ => All2.drop n y
  | _ + 1, [], _ :: _, z => z.elim
  | _ + 1, _ :: _, [], z => z.elim
theorem All2.snoc {as : List α} {bs : List β} {a : α} {b : β} (h : All2 R as bs) (r : R a b) : All2 R (as ++ [a]) (bs ++ [b]) := h.append ⟨r, True.intro⟩
theorem All2.set : ∀ (i : Nat) {as : List α} {bs : List β} {a : α} {b : β}, All2 R as bs → R a b → All2 R (as.set i a) (bs.set i b)
  | _, [], [], _, _, _, _ => True.intro
  | 0, a :: as, b :: bs, _, _, ⟨x, y⟩, r => ⟨r, y⟩
  | i + 1, a :: as, b :: bs, _, _, ⟨x, y⟩, r => ⟨x, All2.set i y r⟩
  | _, [], _ :: _, _, _, z, _ => z.elim
  | _, _ :: _, [], _, _, z, _ => z.elim
theorem All2.map_eq {f : β → α} : ∀ {as : List α} {bs : List β}, All2 (fun a b => a = f b) as bs → as = bs.map f
  | [], [], _ => rfl
  | a :: as, b :: bs, ⟨x, y⟩ => by rw [x, All2.map_eq y]; rfl
  | [], _ :: _, z => z.elim
  | _ :: _, [], z => z.elim
theorem All2.of_map {f : β → α} : ∀ (bs : List β), All2 (fun a b => a = f b) (bs.map f) bs
  | [] => True.intro
  | b :: bs => ⟨rfl, All2.of_map bs⟩
theorem All2.reverse {as : List α} {bs : List β} (h : All2 R as bs) : All2 R as.reverse bs.reverse := by
  induction as generalizing bs with
  | nil => cases bs with | nil => exact True.intro | cons _ _ => exact h.elim
  | cons a as ih => cases bs with | nil => exact h.elim | cons b bs =>
      rw [List.reverse_cons, List.reverse_cons]
      exact (ih h.2).snoc h.1
end

/-! ### what a value stands for -/
structure Rp (α : Type) where
  p : Hp → V → α → Prop
  mono : ∀ {H H' : Hp} {v : V} {a : α}, Ex H H' → p H v a → p H' v a
def qI : Rp Int := ⟨fun _ v a => v = .int a, fun _ h => h⟩
def qB : Rp Bool := ⟨fun _ v a => v = .bl a, fun _ h => h⟩
def qN : Rp Unit := ⟨fun _ v _ => v = .non, fun _ h => h⟩
def qS : Rp Str := ⟨fun _ v a => v = .str a, fun _ h => h⟩
/-- a tuple whose object is known, no attributes of its own -/
def TupAt (H : Hp) (p : Addr) (vs : List V) : Prop := ∃ o : Obj, o.dict = none ∧ H p = some (.frz o (.tup vs))
theorem TupAt.mono {H H' : Hp} {p : Addr} {vs : List V} (e : Ex H H') : TupAt H p vs → TupAt H' p vs := fun ⟨o, h1, h2⟩ => ⟨o, h1, e _ _ h2⟩
theorem TupAt.sq {K : PySem.W.Frag} {H : Hp} {p : Addr} {vs : List V} : TupAt H p vs → SqT K H p vs := fun ⟨o, _, h⟩ => .inl (.inr ⟨o, h⟩)
theorem TupAt.uniq {H : Hp} {p : Addr} {vs ws : List V} : TupAt H p vs → TupAt H p ws → vs = ws := fun ⟨o, _, h⟩ ⟨u, _, h'⟩ => by
  rw [h] at h'
  cases h'
  rfl
theorem TupAt.new {H : Hp} {p : Addr} {o : Obj} {vs : List V} (h : o.dict = none) : TupAt (upd H p (.frz o (.tup vs))) p vs := ⟨o, h, upd_same⟩
/-- a list: k = true; a tuple: k = false -/
def Sq (k : Bool) (H : Hp) (p : Addr) (vs : List V) : Prop := match k with
  | true => H p = some (.lst vs)
  | false => TupAt H p vs
theorem Sq.mono {k : Bool} {H H' : Hp} {p : Addr} {vs : List V} (e : Ex H H') (h : Sq k H p vs) : Sq k H' p vs := by
  cases k with
  | true => exact e _ _ h
  | false => exact TupAt.mono e h
theorem Sq.uniq {k : Bool} {H : Hp} {p : Addr} {vs ws : List V} (h : Sq k H p vs) (h' : Sq k H p ws) : vs = ws := by
  cases k with
  | true =>
    have h : H p = some (.lst vs) := h
    have h' : H p = some (.lst ws) := h'
    rw [h] at h'
    cases h'
    rfl
  | false => exact TupAt.uniq h h'
def qSeq (k : Bool) {α : Type} (r : Rp α) : Rp (List α) :=
  ⟨fun H v xs => ∃ p vs, v = .ref p ∧ Sq k H p vs ∧ All2 (r.p H) vs xs, fun e ⟨p, vs, h1, h2, h3⟩ => ⟨p, vs, h1, h2.mono e, h3.mono fun _ _ q => r.mono e q⟩⟩
abbrev qL {α : Type} (r : Rp α) : Rp (List α) := qSeq true r
abbrev qT {α : Type} (r : Rp α) : Rp (List α) := qSeq false r
def qP {α β : Type} (r : Rp α) (q : Rp β) : Rp (α × β) :=
  ⟨fun H v a => ∃ p x y, v = .ref p ∧ TupAt H p [x, y] ∧ r.p H x a.1 ∧ q.p H y a.2, fun e ⟨p, x, y, h1, h2, h3, h4⟩ => ⟨p, x, y, h1, h2.mono e, r.mono e h3, q.mono e h4⟩⟩
def qP3 {α β γ : Type} (r : Rp α) (q : Rp β) (t : Rp γ) : Rp (α × β × γ) :=
  ⟨fun H v a => ∃ p x y z, v = .ref p ∧ TupAt H p [x, y, z] ∧ r.p H x a.1 ∧ q.p H y a.2.1 ∧ t.p H z a.2.2, fun e ⟨p, x, y, z, h1, h2, h3, h4, h5⟩ => ⟨p, x, y, z, h1, h2.mono e, r.mono e h3, q.mono e h4, t.mono e h5⟩⟩
/-- a pair that a walk makes: its object may be unknown -/
def qW {α β : Type} (r : Rp α) (q : Rp β) : Rp (α × β) :=
  ⟨fun H v a => ∃ p x y, v = .ref p ∧ (H p = some (.tup [x, y]) ∨ TupAt H p [x, y]) ∧ r.p H x a.1 ∧ q.p H y a.2, fun e ⟨p, x, y, h1, h2, h3, h4⟩ => ⟨p, x, y, h1, h2.imp (e _ _) (TupAt.mono e), r.mono e h3, q.mono e h4⟩⟩
theorem sq_seq {K : PySem.W.Frag} {H : Hp} {p : Addr} {k : Bool} {vs : List V} (h : Sq k H p vs) : SqL K H p vs ∨ SqT K H p vs := by
  cases k with
  | true => exact .inl (SqL.of h)
  | false => exact .inr (TupAt.sq h)

/-! ### frames of data -/
/-- what an own object that is no list stands for -/
structure Og (α : Type) where
  p : Hp → HO → α → Prop
  mono : ∀ {H H' : Hp} {u : HO} {a : α}, Ex H H' → p H u a → p H' u a
inductive Sl : Type 1 where
  | un
  /-- data that nobody changes -/
  | im {α : Type} (r : Rp α) (a : α)
  /-- a list of the def's own, that it may change -/
  | ow {α : Type} (r : Rp α) (xs : List α)
  /-- the object at d, that more than one def changes -/
  | iv (d : Addr) (o : HO)
  /-- another object of the def's own (a dict), that it may change -/
  | ob {α : Type} (q : Og α) (a : α)
def SlOk (S H : Hp) (v : Option V) : Sl → Prop
  | .un => True
  | .im r a => ∃ x, v = some x ∧ r.p S x a
  | .ow r xs => ∃ p vs, v = some (.ref p) ∧ S p = none ∧ H p = some (.lst vs) ∧ All2 (r.p S) vs xs
  | .iv d o => ∃ p u, v = some (.ref p) ∧ S p = none ∧ H p = some u ∧ p = d ∧ u = o
  | .ob q a => ∃ p u, v = some (.ref p) ∧ S p = none ∧ H p = some u ∧ q.p S u a
/-- the address of a slot that may change -/
def ownOf : Option V → Sl → List Addr
  | some (.ref p), .ow _ _ => [p]
  | some (.ref p), .iv _ _ => [p]
  | some (.ref p), .ob _ _ => [p]
  | _, _ => []
def SlAll (S H : Hp) : St → List Sl → Prop
  | [], [] => True
  | v :: σ, s :: env => SlOk S H v s ∧ SlAll S H σ env
  | _, _ => False
def owns : St → List Sl → List Addr
  | v :: σ, s :: env => ownOf v s ++ owns σ env
  | _, _ => []
/-- all tuples that stand are among the data that nobody changes -/
def Tc (S H : Hp) : Prop := ∀ b vs, H b = some (.tup vs) → S b ≠ none
theorem Tc.both {S H : Hp} (t : Tc S H) (p : Addr) (o : HO) : Tc (upd S p o) (upd H p o) := fun b vs e => by
  by_cases z : b = p
  · rw [z, upd_same]
    exact fun z => nomatch z
  · rw [upd_ne z] at e ⊢
    exact t b vs e
theorem Tc.up {S H : Hp} (t : Tc S H) {p : Addr} {o : HO} (ho : ∀ vs, o ≠ .tup vs) : Tc S (upd H p o) := fun b vs e => by
  by_cases z : b = p
  · rw [z, upd_same] at e
    exact absurd (Option.some.inj e) (ho vs)
  · rw [upd_ne z] at e
    exact t b vs e
theorem Tc.grow {S S' H : Hp} (t : Tc S H) (e : Ex S S') : Tc S' H := fun b vs h z => by
  cases q : S b with
  | none => exact t b vs h q
  | some o =>
    rw [e _ _ q] at z
    cases z
theorem Tc.get {S H : Hp} (t : Tc S H) (x : Ex S H) {b : Addr} {vs : List V} (h : H b = some (.tup vs)) : S b = some (.tup vs) := by
  cases q : S b with
  | none => exact absurd q (t b vs h)
  | some o =>
    have := x _ _ q
    rw [h] at this
    exact this.symm
structure Cs where
  A0 : List Addr
  S0 : Hp
  H0 : Hp
structure Fr (C : Cs) (S H : Hp) (σ : St) (env : List Sl) : Prop where
  e0 : Ex C.S0 S
  e1 : Ex S H
  e2 : ∀ b o, C.H0 b = some o → b ∉ C.A0 → H b = some o
  nw : ∀ b, C.S0 b = none → C.H0 b ≠ none → S b = none
  al : ∀ b, C.H0 b ≠ none → H b ≠ none
  sl : SlAll S H σ env
  ow : ∀ p ∈ owns σ env, C.H0 p = none ∨ p ∈ C.A0
  nd : (owns σ env).Nodup
  tc : Tc S H

section
variable {C : Cs} {S S' H H' : Hp} {σ : St} {env : List Sl}
theorem SlAll.len : ∀ {σ : St} {env : List Sl}, SlAll S H σ env → σ.length = env.length
  | [], [], _ => rfl
  | _ :: _, _ :: _, ⟨_, h⟩ => by rw [List.length_cons, List.length_cons, SlAll.len h]
  | [], _ :: _, z => z.elim
  | _ :: _, [], z => z.elim
theorem SlAll.get : ∀ {σ : St} {env : List Sl} (i : Nat) {s : Sl}, SlAll S H σ env → env[i]? = some s → ∃ v, σ[i]? = some v ∧ SlOk S H v s
  | [], [], _, _, _, h => by simp at h
  | v :: σ, t :: env, 0, s, ⟨a, b⟩, h => by
    simp at h
    subst h
    exact ⟨v, rfl, a⟩
  | v :: σ, t :: env, i + 1, s, ⟨a, b⟩, h => by
    obtain ⟨w, e, r⟩ := SlAll.get i b (by simpa using h)
    exact ⟨w, by simpa using e, r⟩
  | [], _ :: _, _, _, z, _ => z.elim
  | _ :: _, [], _, _, z, _ => z.elim
theorem SlAll.set : ∀ {σ : St} {env : List Sl} (i : Nat) {v : Option V} {s : Sl}, SlAll S H σ env → SlOk S H v s → SlAll S H (σ.set i v) (env.set i s)
  | [], [], _, _, _, _, _ => True.intro
  | v :: σ, t :: env, 0, _, _, ⟨a, b⟩, h => ⟨h, b⟩
  | v :: σ, t :: env, i + 1, _, _, ⟨a, b⟩, h => ⟨a, SlAll.set i b h⟩
  | [], _ :: _, _, _, _, z, _ => z.elim
  | _ :: _, [], _, _, _, z, _ => z.elim
theorem owns_mem_get : ∀ {σ : St} {env : List Sl} (i : Nat) {p : Addr} {s : Sl}, env[i]? = some s → σ[i]? = some (some (.ref p)) → ownOf (some (.ref p)) s = [p] → p ∈ owns σ env
  | v :: σ, t :: env, 0, p, s, h1, h2, h3 => by
    simp at h1 h2
    subst h1 h2
    unfold owns
    rw [h3]
    simp
  | v :: σ, t :: env, i + 1, p, s, h1, h2, h3 => by
    unfold owns
    exact List.mem_append_right _ (owns_mem_get i (by simpa using h1) (by simpa using h2) h3)
  | [], _, _, _, _, _, h2, _ => by simp at h2
  | _ :: _, [], _, _, _, h1, _, _ => by simp at h1
/-- each slot's own address -/
theorem owns_of : ∀ {σ : St} {env : List Sl} {p : Addr}, p ∈ owns σ env → ∃ (i : Nat) (s : Sl), env[i]? = some s ∧ σ[i]? = some (some (.ref p)) ∧ ownOf (some (.ref p)) s = [p]
  | v :: σ, t :: env, p, h => by
    unfold owns at h
    rcases List.mem_append.mp h with h | h
    · refine ⟨0, t, rfl, ?_, ?_⟩
      · unfold ownOf at h
        split at h <;> simp_all
      · unfold ownOf at h ⊢
        split at h <;> simp_all
    · obtain ⟨i, s, a, b, c⟩ := owns_of h
      exact ⟨i + 1, s, by simpa using a, by simpa using b, c⟩
  | [], _, _, h => by simp [owns] at h
  | _ :: _, [], _, h => by simp [owns] at h
/-- two slots with one own address are one slot -/
theorem owns_inj : ∀ {σ : St} {env : List Sl} {p : Addr} {i j : Nat} {s t : Sl}, (owns σ env).Nodup → env[i]? = some s → σ[i]? = some (some (.ref p)) → ownOf (some (.ref p)) s = [p] → env[j]? = some t → σ[j]? = some (some (.ref p)) → ownOf (some (.ref p)) t = [p] → i = j
  | v :: σ, u :: env, p, 0, 0, s, t, nd, a1, a2, a3, b1, b2, b3 => rfl
  | v :: σ, u :: env, p, 0, j + 1, s, t, nd, a1, a2, a3, b1, b2, b3 => by
    unfold owns at nd
    have m : p ∈ owns σ env := owns_mem_get j (by simpa using b1) (by simpa using b2) b3
    simp at a1 a2
    subst a1 a2
    rw [a3] at nd
    exact absurd m (List.nodup_cons.mp (by simpa using nd)).1
  | v :: σ, u :: env, p, i + 1, 0, s, t, nd, a1, a2, a3, b1, b2, b3 => by
    unfold owns at nd
    have m : p ∈ owns σ env := owns_mem_get i (by simpa using a1) (by simpa using a2) a3
    simp at b1 b2
    subst b1 b2
    rw [b3] at nd
    exact absurd m (List.nodup_cons.mp (by simpa using nd)).1
  | v :: σ, u :: env, p, i + 1, j + 1, s, t, nd, a1, a2, a3, b1, b2, b3 => by
    unfold owns at nd
    have nd2 : (owns σ env).Nodup := (List.nodup_append.mp nd).2.1
    rw [owns_inj (i := i) (j := j) nd2 (by simpa using a1) (by simpa using a2) a3 (by simpa using b1) (by simpa using b2) b3]
  | [], _, _, _, _, _, _, _, _, h, _, _, _, _ => by simp at h
  | _ :: _, [], _, _, _, _, _, _, h, _, _, _, _, _ => by simp at h
/-- the own addresses behind a store -/
theorem owns_set : ∀ {σ : St} {env : List Sl} (i : Nat) {v : Option V} {s : Sl} {p : Addr}, p ∈ owns (σ.set i v) (env.set i s) → p ∈ owns σ env ∨ p ∈ ownOf v s
  | [], _, _, _, _, _, h => by simp [owns] at h
  | _ :: _, [], _, _, _, _, h => by simp [owns] at h
  | w :: σ, t :: env, 0, v, s, p, h => by
    simp only [List.set_cons_zero, owns, List.mem_append] at h ⊢
    rcases h with h | h
    · exact .inr h
    · exact .inl (.inr h)
  | w :: σ, t :: env, i + 1, v, s, p, h => by
    simp only [List.set_cons_succ, owns, List.mem_append] at h ⊢
    rcases h with h | h
    · exact .inl (.inl h)
    · rcases owns_set i h with h | h
      · exact .inl (.inr h)
      · exact .inr h
theorem owns_set_nd : ∀ {σ : St} {env : List Sl} (i : Nat) {v : Option V} {s : Sl}, (owns σ env).Nodup → (∀ p ∈ ownOf v s, p ∉ owns σ env) → (owns (σ.set i v) (env.set i s)).Nodup
  | [], _, _, _, _, h, _ => by simp [owns]
  | _ :: _, [], _, _, _, h, _ => by simp [owns]
  | w :: σ, t :: env, 0, v, s, h, n => by
    simp only [List.set_cons_zero, owns] at h n ⊢
    refine List.nodup_append.mpr ⟨?_, (List.nodup_append.mp h).2.1, fun a ha b hb e => ?_⟩
    · unfold ownOf
      split <;> simp
    · subst e
      exact n a ha (List.mem_append_right _ hb)
  | w :: σ, t :: env, i + 1, v, s, h, n => by
    simp only [List.set_cons_succ, owns] at h n ⊢
    have h2 := List.nodup_append.mp h
    refine List.nodup_append.mpr ⟨h2.1, owns_set_nd i h2.2.1 (fun p hp z => n p hp (List.mem_append_right _ z)), fun a ha b hb e => ?_⟩
    subst e
    rcases owns_set i hb with hb | hb
    · exact h2.2.2 a ha a hb rfl
    · exact n a hb (List.mem_append_left _ ha)
theorem SlAll.setEnv : ∀ {σ : St} {env : List Sl} (i : Nat) {v : Option V} {t : Sl}, SlAll S H σ env → σ[i]? = some v → SlOk S H v t → SlAll S H σ (env.set i t)
  | [], [], _, _, _, _, _, _ => True.intro
  | v :: σ, u :: env, 0, _, _, ⟨a, b⟩, h, q => by
    simp at h
    subst h
    exact ⟨q, b⟩
  | v :: σ, u :: env, i + 1, _, _, ⟨a, b⟩, h, q => ⟨a, SlAll.setEnv i b (by simpa using h) q⟩
  | [], _ :: _, _, _, _, z, _, _ => z.elim
  | _ :: _, [], _, _, _, z, _, _ => z.elim
/-- an own address is none of the frozen part -/
theorem SlAll.own (h : SlAll S H σ env) {p : Addr} (hp : p ∈ owns σ env) : S p = none ∧ ∃ o, H p = some o := by
  obtain ⟨i, s, a, b, c⟩ := owns_of hp
  obtain ⟨v, e, r⟩ := h.get i a
  rw [b] at e
  cases e
  cases s with
  | un => cases c
  | im _ _ => cases c
  | ow r' xs =>
    obtain ⟨q, vs, e1, e2, e3, _⟩ := r
    cases e1
    exact ⟨e2, _, e3⟩
  | iv d0 o0 =>
    obtain ⟨q, o, e1, e2, e3, _⟩ := r
    cases e1
    exact ⟨e2, _, e3⟩
  | ob q0 a0 =>
    obtain ⟨q, o, e1, e2, e3, _⟩ := r
    cases e1
    exact ⟨e2, _, e3⟩
/-- both heaps grow, the own things stand -/
theorem SlOk.mono {v : Option V} {s : Sl} (eS : Ex S S') (eH : Ex H H') (n : ∀ p ∈ ownOf v s, S' p = none) (h : SlOk S H v s) : SlOk S' H' v s := by
  cases s with
  | un => exact True.intro
  | im r a =>
    obtain ⟨x, e, q⟩ := h
    exact ⟨x, e, r.mono eS q⟩
  | ow r xs =>
    obtain ⟨p, vs, e, e2, e3, q⟩ := h
    subst e
    exact ⟨p, vs, rfl, n p (by simp [ownOf]), eH _ _ e3, q.mono fun _ _ z => r.mono eS z⟩
  | iv d0 o0 =>
    obtain ⟨p, o, e, e2, e3, q⟩ := h
    subst e
    exact ⟨p, o, rfl, n p (by simp [ownOf]), eH _ _ e3, q⟩
  | ob q0 a0 =>
    obtain ⟨p, o, e, e2, e3, q⟩ := h
    subst e
    exact ⟨p, o, rfl, n p (by simp [ownOf]), eH _ _ e3, q0.mono eS q⟩
theorem SlAll.mono : ∀ {σ : St} {env : List Sl}, Ex S S' → Ex H H' → (∀ p ∈ owns σ env, S' p = none) → SlAll S H σ env → SlAll S' H' σ env
  | [], [], _, _, _, _ => True.intro
  | v :: σ, s :: env, a, b, n, ⟨x, y⟩ => ⟨x.mono a b (fun p hp => n p (by unfold owns; exact List.mem_append_left _ hp)), SlAll.mono a b (fun p hp => n p (by unfold owns; exact List.mem_append_right _ hp)) y⟩
  | [], _ :: _, _, _, _, z => z.elim
  | _ :: _, [], _, _, _, z => z.elim
/-- a new thing that nobody changes -/
theorem Fr.new (F : Fr C S H σ env) {p : Addr} {o : HO} (hp : H p = none) : Fr C (upd S p o) (upd H p o) σ env := by
  have sp : S p = none := F.e1.back hp
  have hp0 : C.H0 p = none := by
    cases q : C.H0 p with
    | none => rfl
    | some u => exact absurd hp (F.al p (by rw [q]; exact fun z => nomatch z))
  refine ⟨F.e0.trans (Ex.new sp), F.e1.upd2, fun b u e n => ?_, fun b s0 h0 => ?_, fun b h0 => ?_, F.sl.mono (Ex.new sp) (Ex.new hp) fun q hq => ?_, F.ow, F.nd, F.tc.both p o⟩
  · exact Ex.new hp _ _ (F.e2 b u e n)
  · have nb : b ≠ p := fun z => by
      subst z
      exact h0 hp0
    rw [upd_ne nb]
    exact F.nw b s0 h0
  · by_cases z : b = p
    · subst z
      exact absurd hp0 h0
    · rw [upd_ne z]
      exact F.al b h0
  · obtain ⟨a, u, b⟩ := F.sl.own hq
    rw [upd_ne (ne_of_none b hp)]
    exact a
/-- a slot stored: data that nobody changes -/
theorem Fr.setIm (F : Fr C S H σ env) (i : Nat) {α : Type} {r : Rp α} {v : V} {a : α} (h : r.p S v a) : Fr C S H (σ.set i (some v)) (env.set i (.im r a)) := by
  have n0 : ownOf (some v) (Sl.im r a) = [] := by cases v <;> rfl
  exact ⟨F.e0, F.e1, F.e2, F.nw, F.al, F.sl.set i ⟨v, rfl, h⟩, fun p hp => (owns_set i hp).elim (F.ow p) (fun z => by rw [n0] at z; cases z), owns_set_nd i F.nd (fun p hp => by rw [n0] at hp; cases hp), F.tc⟩
/-- .. forgotten -/
theorem Fr.setUn (F : Fr C S H σ env) (i : Nat) (v : Option V) : Fr C S H (σ.set i v) (env.set i .un) := by
  have n0 : ownOf v Sl.un = [] := by cases v with | none => rfl | some v => cases v <;> rfl
  exact ⟨F.e0, F.e1, F.e2, F.nw, F.al, F.sl.set i True.intro, fun p hp => (owns_set i hp).elim (F.ow p) (fun z => by rw [n0] at z; cases z), owns_set_nd i F.nd (fun p hp => by rw [n0] at hp; cases hp), F.tc⟩
/-- a new list of the def's own -/
theorem Fr.setOw (F : Fr C S H σ env) (i : Nat) {α : Type} {r : Rp α} {p : Addr} {vs : List V} {xs : List α} (hp : H p = none) (h : All2 (r.p S) vs xs) :
    Fr C S (upd H p (.lst vs)) (σ.set i (some (.ref p))) (env.set i (.ow r xs)) := by
  have sp : S p = none := F.e1.back hp
  have hp0 : C.H0 p = none := by
    cases q : C.H0 p with
    | none => rfl
    | some u => exact absurd hp (F.al p (by rw [q]; exact fun z => nomatch z))
  have sl : SlAll S (upd H p (.lst vs)) σ env := F.sl.mono (Ex.refl S) (Ex.new hp) fun q hq => (F.sl.own hq).1
  refine ⟨F.e0, F.e1.trans (Ex.new hp), fun b u e n => Ex.new hp _ _ (F.e2 b u e n), F.nw, fun b h0 => ?_, sl.set i ⟨p, vs, rfl, sp, upd_same, h⟩, fun q hq => ?_, owns_set_nd i F.nd (fun q hq z => ?_), F.tc.up fun _ z => nomatch z⟩
  · by_cases z : b = p
    · rw [z, upd_same]
      exact fun z => nomatch z
    · rw [upd_ne z]
      exact F.al b h0
  · rcases owns_set i hq with z | z
    · exact F.ow q z
    · simp [ownOf] at z
      subst z
      exact .inl hp0
  · simp [ownOf] at hq
    subst hq
    obtain ⟨_, o, e⟩ := F.sl.own z
    rw [hp] at e
    cases e
theorem SlAll.mutOne : ∀ {σ : St} {env : List Sl} {i : Nat} {p : Addr} {o : HO} {s t : Sl}, SlAll S H σ env → (owns σ env).Nodup → env[i]? = some s → σ[i]? = some (some (.ref p)) → ownOf (some (.ref p)) s = [p] → SlOk S (upd H p o) (some (.ref p)) t →
    SlAll S (upd H p o) σ (env.set i t)
  | v :: σ, u :: env, 0, p, o, s, t, ⟨a, b⟩, nd, h1, h2, h3, h4 => by
    simp at h1 h2
    subst h1 h2
    unfold owns at nd
    rw [h3] at nd
    have np : p ∉ owns σ env := (List.nodup_cons.mp (by simpa using nd)).1
    refine ⟨h4, ?_⟩
    have key : ∀ {σ : St} {env : List Sl}, p ∉ owns σ env → SlAll S H σ env → SlAll S (upd H p o) σ env := by
      intro σ
      induction σ with
      | nil => intro env n z; cases env with | nil => exact True.intro | cons _ _ => exact z.elim
      | cons w σ ih => intro env n z; cases env with | nil => exact z.elim | cons s env =>
          obtain ⟨z1, z2⟩ := z
          unfold owns at n
          refine ⟨?_, ih (fun q => n (List.mem_append_right _ q)) z2⟩
          have n1 : p ∉ ownOf w s := fun q => n (List.mem_append_left _ q)
          cases s with
          | un => exact True.intro
          | im r a => exact z1
          | ow r xs =>
            obtain ⟨q, vs, e, e2, e3, e4⟩ := z1
            subst e
            have : q ≠ p := fun z => n1 (by rw [z]; simp [ownOf])
            exact ⟨q, vs, rfl, e2, by rw [upd_ne this]; exact e3, e4⟩
          | iv d0 o0 =>
            obtain ⟨q, o2, e, e2, e3, e4⟩ := z1
            subst e
            have : q ≠ p := fun z => n1 (by rw [z]; simp [ownOf])
            exact ⟨q, o2, rfl, e2, by rw [upd_ne this]; exact e3, e4⟩
          | ob q0 a0 =>
            obtain ⟨q, o2, e, e2, e3, e4⟩ := z1
            subst e
            have : q ≠ p := fun z => n1 (by rw [z]; simp [ownOf])
            exact ⟨q, o2, rfl, e2, by rw [upd_ne this]; exact e3, e4⟩
    exact key np b
  | v :: σ, u :: env, i + 1, p, o, s, t, ⟨a, b⟩, nd, h1, h2, h3, h4 => by
    have m : p ∈ owns σ env := owns_mem_get i (by simpa using h1) (by simpa using h2) h3
    have nd' := nd
    unfold owns at nd'
    have n1 : p ∉ ownOf v u := fun z => (List.nodup_append.mp nd').2.2 p z p m rfl
    refine ⟨?_, SlAll.mutOne b (List.nodup_append.mp nd').2.1 (by simpa using h1) (by simpa using h2) h3 h4⟩
    cases u with
    | un => exact True.intro
    | im r a => exact a
    | ow r xs =>
      obtain ⟨q, vs, e, e2, e3, e4⟩ := a
      subst e
      have : q ≠ p := fun z => n1 (by rw [z]; simp [ownOf])
      exact ⟨q, vs, rfl, e2, by rw [upd_ne this]; exact e3, e4⟩
    | iv d0 o0 =>
      obtain ⟨q, o2, e, e2, e3, e4⟩ := a
      subst e
      have : q ≠ p := fun z => n1 (by rw [z]; simp [ownOf])
      exact ⟨q, o2, rfl, e2, by rw [upd_ne this]; exact e3, e4⟩
    | ob q0 a0 =>
      obtain ⟨q, o2, e, e2, e3, e4⟩ := a
      subst e
      have : q ≠ p := fun z => n1 (by rw [z]; simp [ownOf])
      exact ⟨q, o2, rfl, e2, by rw [upd_ne this]; exact e3, e4⟩
  | [], _, _, _, _, _, _, _, _, _, h2, _, _ => by simp at h2
  | _ :: _, [], _, _, _, _, _, _, _, h1, _, _, _ => by simp at h1
theorem owns_same : ∀ {σ : St} {env : List Sl} {i : Nat} {p : Addr} {s t : Sl}, env[i]? = some s → σ[i]? = some (some (.ref p)) → ownOf (some (.ref p)) s = [p] → ownOf (some (.ref p)) t = [p] → owns σ (env.set i t) = owns σ env
  | v :: σ, u :: env, 0, p, s, t, h1, h2, h3, h4 => by
    simp at h1 h2
    subst h1 h2
    simp only [List.set_cons_zero, owns]
    rw [h3, h4]
  | v :: σ, u :: env, i + 1, p, s, t, h1, h2, h3, h4 => by
    simp only [List.set_cons_succ, owns]
    rw [owns_same (by simpa using h1) (by simpa using h2) h3 h4]
  | [], _, _, _, _, _, _, h2, _, _ => by simp at h2
  | _ :: _, [], _, _, _, _, h1, _, _, _ => by simp at h1
/-- a list of the def's own is changed -/
theorem Fr.write (F : Fr C S H σ env) {i : Nat} {α : Type} {r : Rp α} {xs ys : List α} {p : Addr} {vs : List V} (hi : env[i]? = some (.ow r xs)) (hp : σ[i]? = some (some (.ref p))) (h : All2 (r.p S) vs ys) :
    Fr C S (upd H p (.lst vs)) σ (env.set i (.ow r ys)) := by
  have m : p ∈ owns σ env := owns_mem_get i hi hp rfl
  obtain ⟨sp, o, ho⟩ := F.sl.own m
  have eo : owns σ (env.set i (.ow r ys)) = owns σ env := owns_same hi hp rfl rfl
  refine ⟨F.e0, F.e1.mut sp, fun b u e n => ?_, F.nw, fun b h0 => ?_, F.sl.mutOne F.nd hi hp rfl ⟨p, vs, rfl, sp, upd_same, h⟩, by rw [eo]; exact F.ow, by rw [eo]; exact F.nd, F.tc.up fun _ z => nomatch z⟩
  · have nb : b ≠ p := fun z => by
      subst z
      rcases F.ow b m with q | q
      · rw [q] at e
        cases e
      · exact n q
    rw [upd_ne nb]
    exact F.e2 b u e n
  · by_cases z : b = p
    · rw [z, upd_same]
      exact fun z => nomatch z
    · rw [upd_ne z]
      exact F.al b h0
theorem owns_less : ∀ {σ : St} {env : List Sl} {i : Nat} {p : Addr} {s t : Sl}, env[i]? = some s → σ[i]? = some (some (.ref p)) → ownOf (some (.ref p)) s = [p] → ownOf (some (.ref p)) t = [] → (owns σ env).Nodup → p ∉ owns σ (env.set i t) ∧ (owns σ (env.set i t)).Nodup ∧ ∀ q ∈ owns σ (env.set i t), q ∈ owns σ env
  | v :: σ, u :: env, 0, p, s, t, h1, h2, h3, h4, nd => by
    simp at h1 h2
    subst h1 h2
    simp only [List.set_cons_zero, owns] at nd ⊢
    rw [h3] at nd ⊢
    rw [h4]
    have q := List.nodup_cons.mp (show (p :: owns σ env).Nodup by simpa using nd)
    exact ⟨by simpa using q.1, by simpa using q.2, fun q hq => List.mem_append_right _ (by simpa using hq)⟩
  | v :: σ, u :: env, i + 1, p, s, t, h1, h2, h3, h4, nd => by
    have m : p ∈ owns σ env := owns_mem_get i (by simpa using h1) (by simpa using h2) h3
    simp only [List.set_cons_succ, owns] at nd ⊢
    obtain ⟨a, b, c⟩ := owns_less (i := i) (t := t) (by simpa using h1) (by simpa using h2) h3 h4 (List.nodup_append.mp nd).2.1
    have nd2 := List.nodup_append.mp nd
    refine ⟨fun z => ?_, List.nodup_append.mpr ⟨nd2.1, b, fun x hx y hy e => nd2.2.2 x hx y (c y hy) e⟩, fun q hq => ?_⟩
    · rcases List.mem_append.mp z with z | z
      · exact nd2.2.2 p z p m rfl
      · exact a z
    · rcases List.mem_append.mp hq with z | z
      · exact List.mem_append_left _ z
      · exact List.mem_append_right _ (c q z)
  | [], _, _, _, _, _, _, h2, _, _, _ => by simp at h2
  | _ :: _, [], _, _, _, _, h1, _, _, _, _ => by simp at h1
/-- a list of the def's own is changed no more -/
theorem Fr.freeze (F : Fr C S H σ env) {i : Nat} {α : Type} {r : Rp α} {xs : List α} (hi : env[i]? = some (.ow r xs)) (h0 : ∀ p, σ[i]? = some (some (.ref p)) → p ∉ C.A0) :
    ∃ S', Ex S S' ∧ Fr C S' H σ (env.set i (.im (qL r) xs)) := by
  obtain ⟨v, e, p, vs, rfl, sp, hp, h⟩ := F.sl.get i hi
  have m : p ∈ owns σ env := owns_mem_get i hi e rfl
  obtain ⟨l1, l2, l3⟩ := owns_less (t := .im (qL r) xs) hi e rfl rfl F.nd
  have eS : Ex S (upd S p (.lst vs)) := Ex.new sp
  have eH : Ex (upd S p (.lst vs)) H := fun b u q => by
    by_cases z : b = p
    · subst z
      rw [upd_same] at q
      rw [hp]
      exact q
    · rw [upd_ne z] at q
      exact F.e1 b u q
  refine ⟨upd S p (.lst vs), eS, F.e0.trans eS, eH, F.e2, fun b s0 h0' => ?_, F.al, ?_, fun q hq => F.ow q (l3 q hq), l2, F.tc.grow eS⟩
  · by_cases z : b = p
    · subst z
      rcases F.ow b m with q | q
      · exact absurd q h0'
      · exact absurd q (h0 b e)
    · rw [upd_ne z]
      exact F.nw b s0 h0'
  · obtain ⟨u1, u2, u3⟩ := owns_less (t := .un) hi e rfl (by simp [ownOf]) F.nd
    have z0 : SlAll S H σ (env.set i .un) := F.sl.setEnv i e True.intro
    have z1 : SlAll (upd S p (.lst vs)) H σ (env.set i .un) := z0.mono eS (Ex.refl H) fun q hq => by
      have nq : q ≠ p := fun z => u1 (by rw [← z]; exact hq)
      rw [upd_ne nq]
      exact (z0.own hq).1
    have z2 := z1.setEnv (t := .im (qL r) xs) i e ⟨.ref p, rfl, p, vs, rfl, (show upd S p (.lst vs) p = some (.lst vs) from upd_same), h.mono fun _ _ z => r.mono eS z⟩
    rw [List.set_set] at z2
    exact z2
/-- an object of another kind, of the def's own: made, changed, changed no more -/
theorem Fr.setOb (F : Fr C S H σ env) (i : Nat) {α : Type} {q : Og α} {p : Addr} {u : HO} {a : α} (hp : H p = none) (h : q.p S u a) (nt : ∀ vs, u ≠ .tup vs) :
    Fr C S (upd H p u) (σ.set i (some (.ref p))) (env.set i (.ob q a)) := by
  have sp : S p = none := F.e1.back hp
  have hp0 : C.H0 p = none := by
    cases q : C.H0 p with
    | none => rfl
    | some u => exact absurd hp (F.al p (by rw [q]; exact fun z => nomatch z))
  have sl : SlAll S (upd H p u) σ env := F.sl.mono (Ex.refl S) (Ex.new hp) fun q hq => (F.sl.own hq).1
  refine ⟨F.e0, F.e1.trans (Ex.new hp), fun b u e n => Ex.new hp _ _ (F.e2 b u e n), F.nw, fun b h0 => ?_, sl.set i ⟨p, u, rfl, sp, upd_same, h⟩, fun q hq => ?_, owns_set_nd i F.nd (fun q hq z => ?_), F.tc.up nt⟩
  · by_cases z : b = p
    · rw [z, upd_same]
      exact fun z => nomatch z
    · rw [upd_ne z]
      exact F.al b h0
  · rcases owns_set i hq with z | z
    · exact F.ow q z
    · rw [List.mem_singleton.mp (show q ∈ [p] from z)]
      exact .inl hp0
  · rw [List.mem_singleton.mp (show q ∈ [p] from hq)] at z
    obtain ⟨_, o, e⟩ := F.sl.own z
    rw [hp] at e
    cases e
theorem Fr.writeOb (F : Fr C S H σ env) {i : Nat} {α : Type} {q : Og α} {a b : α} {p : Addr} {u : HO} (hi : env[i]? = some (.ob q a)) (hp : σ[i]? = some (some (.ref p))) (h : q.p S u b) (nt : ∀ vs, u ≠ .tup vs) :
    Fr C S (upd H p u) σ (env.set i (.ob q b)) := by
  have m : p ∈ owns σ env := owns_mem_get i hi hp rfl
  obtain ⟨sp, o, ho⟩ := F.sl.own m
  have eo : owns σ (env.set i (.ob q b)) = owns σ env := owns_same hi hp rfl rfl
  refine ⟨F.e0, F.e1.mut sp, fun b u e n => ?_, F.nw, fun b h0 => ?_, F.sl.mutOne F.nd hi hp rfl ⟨p, u, rfl, sp, upd_same, h⟩, by rw [eo]; exact F.ow, by rw [eo]; exact F.nd, F.tc.up nt⟩
  · have nb : b ≠ p := fun z => by
      subst z
      rcases F.ow b m with q | q
      · rw [q] at e
        cases e
      · exact n q
    rw [upd_ne nb]
    exact F.e2 b u e n
  · by_cases z : b = p
    · rw [z, upd_same]
      exact fun z => nomatch z
    · rw [upd_ne z]
      exact F.al b h0
def qOb {α : Type} (q : Og α) : Rp α := ⟨fun H v a => ∃ p u, v = .ref p ∧ H p = some u ∧ q.p H u a, fun e ⟨p, u, h1, h2, h3⟩ => ⟨p, u, h1, e _ _ h2, q.mono e h3⟩⟩
theorem Fr.freezeOb (F : Fr C S H σ env) {i : Nat} {α : Type} {q : Og α} {a : α} (hi : env[i]? = some (.ob q a)) (h0 : ∀ p, σ[i]? = some (some (.ref p)) → p ∉ C.A0) :
    ∃ S', Ex S S' ∧ Fr C S' H σ (env.set i (.im (qOb q) a)) := by
  obtain ⟨v, e, p, u, rfl, sp, hp, h⟩ := F.sl.get i hi
  have m : p ∈ owns σ env := owns_mem_get i hi e rfl
  obtain ⟨l1, l2, l3⟩ := owns_less (t := .im (qOb q) a) hi e rfl rfl F.nd
  have eS : Ex S (upd S p u) := Ex.new sp
  have eH : Ex (upd S p u) H := fun b u2 q2 => by
    by_cases z : b = p
    · subst z
      rw [upd_same] at q2
      rw [hp]
      exact q2
    · rw [upd_ne z] at q2
      exact F.e1 b u2 q2
  refine ⟨upd S p u, eS, F.e0.trans eS, eH, F.e2, fun b s0 h0' => ?_, F.al, ?_, fun q hq => F.ow q (l3 q hq), l2, F.tc.grow eS⟩
  · by_cases z : b = p
    · subst z
      rcases F.ow b m with q | q
      · exact absurd q h0'
      · exact absurd q (h0 b e)
    · rw [upd_ne z]
      exact F.nw b s0 h0'
  · obtain ⟨u1, u2, u3⟩ := owns_less (t := .un) hi e rfl (by simp [ownOf]) F.nd
    have z0 : SlAll S H σ (env.set i .un) := F.sl.setEnv i e True.intro
    have z1 : SlAll (upd S p u) H σ (env.set i .un) := z0.mono eS (Ex.refl H) fun q hq => by
      have nq : q ≠ p := fun z => u1 (by rw [← z]; exact hq)
      rw [upd_ne nq]
      exact (z0.own hq).1
    have z2 := z1.setEnv (t := .im (qOb q) a) i e ⟨.ref p, rfl, p, u, rfl, by rw [upd_same], q.mono eS h⟩
    rw [List.set_set] at z2
    exact z2
end
end Rt

set_option maxRecDepth 100000
set_option maxHeartbeats 4000000
/-! Rt2: expressions that give data. -/
namespace Rt
open PySem L2

/-! ### readings in another dress -/
/-- the lists and tuples that stand are no longer than the line -/
def Lens (H : Hp) : Prop := ∀ a k vs, Sq k H a vs → vs.length ≤ sizeLine
section
variable {X : Cx} {e : Expr} {te te' : TE} {tt tt' : TT} {ta ta' : TA} {ts ts' : TS} {st : Stmt} {ss : List Stmt}
theorem Lens.of {pins : List (Addr × Obj)} {σ : St} {H : Hp} {s : Shared} (I : Inv X pins σ H s) : Lens H := fun a k vs h => by
  cases k with
  | true => exact (show vs.length ≤ sizeLine ∧ _ from I.hok a (.lst vs) h).1
  | false =>
    obtain ⟨o, _, h⟩ := h
    exact (show _ ∧ (vs.length ≤ sizeLine ∧ _) from I.hok a (.frz o (.tup vs)) h).2.1
theorem pe_imp (h : PE X e te) (hi : ∀ σ H Q, Lens H → te' σ H Q → te σ H (fun v H' => Lens H' → Q v H')) : PE X e te' := ⟨fun pins s σ H Q I q =>
  thn (h.run pins s σ H _ I (hi σ H Q (Lens.of I) q)) fun _ _ ⟨v, H', I', r, z⟩ => ⟨v, H', I', r, z (Lens.of I')⟩⟩
theorem pt_imp (h : PT X e tt) (hi : ∀ σ H Q, Lens H → tt' σ H Q → tt σ H (fun v H' => Lens H' → Q v H')) : PT X e tt' := ⟨fun pins s σ H Q I q =>
  thn (h.run pins s σ H _ I (hi σ H Q (Lens.of I) q)) fun _ _ ⟨H', I', z⟩ => ⟨H', I', z (Lens.of I')⟩⟩
theorem pss_imp (h : PSs X ss ts) (hi : ∀ D σ H, Lens H → ts' D σ H → ts D σ H) : PSs X ss ts' := ⟨fun pins s σ H D I q => h.run pins s σ H D I (hi D σ H (Lens.of I) q)⟩
theorem ps_imp (h : PS X st ts) (hi : ∀ D σ H, Lens H → ts' D σ H → ts D σ H) : PS X st ts' := ⟨fun pins s σ H D I q => h.run pins s σ H D I (hi D σ H (Lens.of I) q)⟩
theorem pss_ex {α : Sort _} {ts : α → TS} (h : ∀ a, PSs X ss (ts a)) : PSs X ss (fun D σ H => ∃ a, ts a D σ H) := ⟨fun pins s σ H D I ⟨a, q⟩ => (h a).run pins s σ H D I q⟩
theorem pe_ex {α : Sort _} {te : α → TE} (h : ∀ a, PE X e (te a)) : PE X e (fun σ H Q => ∃ a, te a σ H Q) := ⟨fun pins s σ H Q I ⟨a, q⟩ => (h a).run pins s σ H Q I q⟩
theorem pt_ex {α : Sort _} {te : α → TT} (h : ∀ a, PT X e (te a)) : PT X e (fun σ H Q => ∃ a, te a σ H Q) := ⟨fun pins s σ H Q I ⟨a, q⟩ => (h a).run pins s σ H Q I q⟩
theorem pe_and2 {P : Prop} (h : P → PE X e te) : PE X e (fun σ H Q => P ∧ te σ H Q) := ⟨fun pins s σ H Q I ⟨p, q⟩ => (h p).run pins s σ H Q I q⟩
end


/-! ### what may come of a thing: what has to hold before, for what is wanted behind -/
/-- the items of the object that more than one def changes -/
abbrev Gh := List Int
def W (α : Type) : Type := (g : Gh) → (α → Gh → Prop) → Prop
def W.ret {α : Type} (a : α) : W α := fun g P => P a g
def W.bind {α β : Type} (w : W α) (f : α → W β) : W β := fun g P => w g fun a g1 => f a g1 P
/-- what is reckoned -/
def ofO {α : Type} (o : Option α) : W α := fun g P => ∃ a, o = some a ∧ P a g
def W.get : W Gh := fun g P => P g g
def W.put (g : Gh) : W Unit := fun _ P => P () g
theorem ofO_some {α : Type} (a : α) : ofO (some a) = W.ret a := by
  funext g P
  exact propext (Iff.intro (fun ⟨b, e, h⟩ => (Option.some.inj e) ▸ h) fun h => ⟨a, rfl, h⟩)
theorem ofO_none {α : Type} {g : Gh} {P : α → Gh → Prop} : ¬ ofO (none : Option α) g P := fun ⟨_, e, _⟩ => nomatch e
theorem ofO_bind {α β : Type} (o : Option α) (f : α → Option β) : ofO (o.bind f) = (ofO o).bind fun a => ofO (f a) := by
  funext g P
  apply propext
  cases o with
  | none => exact Iff.intro (fun ⟨_, e, _⟩ => nomatch e) (fun ⟨_, e, _⟩ => nomatch e)
  | some a => exact Iff.intro (fun h => ⟨a, rfl, h⟩) (fun ⟨b, e, h⟩ => (Option.some.inj e) ▸ h)
theorem ofO_if {α : Type} (b : Bool) (x y : Option α) : ofO (if b = true then x else y) = if b = true then ofO x else ofO y := by cases b <;> rfl
theorem W.ret_bind {α β : Type} (a : α) (f : α → W β) : (W.ret a).bind f = f a := rfl
theorem W.bind_ret {α : Type} (w : W α) : w.bind W.ret = w := rfl
theorem W.bind_assoc {α β γ : Type} (w : W α) (f : α → W β) (g : β → W γ) : (w.bind f).bind g = w.bind fun a => (f a).bind g := rfl

/-! ### judgements -/
section
variable (C : Cs) (env : Gh → List Sl)
def tE {α : Type} (r : Rp α) (m : W α) : TE := fun σ H Q => ∃ S g P, Fr C S H σ (env g) ∧ m g P ∧ ∀ a g', P a g' → ∀ v S' H', Fr C S' H' σ (env g') → Ex S S' → r.p S' v a → Q v H'
def tT (m : W Bool) : TT := fun σ H Q => ∃ S g P, Fr C S H σ (env g) ∧ m g P ∧ ∀ b g', P b g' → ∀ S' H', Fr C S' H' σ (env g') → Ex S S' → Q b H'
/-- a list (k) or a tuple, to be read as long as the frame's data stand -/
def Rdb (k : Bool) {α : Type} (r : Rp α) (xs : List α) (σ : St) (S : Hp) (p : Addr) : Prop := ∀ g S2 H2, Fr C S2 H2 σ (env g) → Ex S S2 → ∃ vs, Sq k H2 p vs ∧ All2 (r.p S2) vs xs
def tQ (k : Bool) {α : Type} (r : Rp α) (m : W (List α)) : TE := fun σ H Q => ∃ S g P, Fr C S H σ (env g) ∧ m g P ∧ ∀ xs g', P xs g' → ∀ p S' H', Fr C S' H' σ (env g') → Ex S S' → Rdb C env k r xs σ S' p → Q (.ref p) H'
/-- a new list -/
def tN {α : Type} (r : Rp α) (m : W (List α)) : TE := fun σ H Q => ∃ S g P, Fr C S H σ (env g) ∧ m g P ∧ ∀ xs g', P xs g' → ∀ p vs S' H', Fr C S' H' σ (env g') → Ex S S' → H' p = none → All2 (r.p S') vs xs → Q (.ref p) (upd H' p (.lst vs))
end
section
variable {X : Cx} {C : Cs} {env : Gh → List Sl} {e a b c : Expr} {pos : Pos} {α β γ : Type} {r ra : Rp α} {rb : Rp β} {rc : Rp γ} {ma : W α} {mb : W β} {k : Bool}

theorem tE_len {m : W α} (h : PE X e (tE C env r m)) : PE X e (fun σ H Q => tE C env r m σ H (fun v H' => Lens H' → Q v H')) := pe_imp h fun σ H Q _ ⟨S, g0, P, F, em, q⟩ => ⟨S, g0, P, F, em, fun a g' pa v S' H' F' eS hr l => q a _ pa v S' H' F' eS hr l⟩
theorem tQ_len {m : W (List α)} (h : PE X e (tQ C env k r m)) : PE X e (fun σ H Q => tQ C env k r m σ H (fun v H' => Lens H' → Q v H')) := pe_imp h fun σ H Q _ ⟨S, g0, P, F, em, q⟩ => ⟨S, g0, P, F, em, fun a g' pa v S' H' F' eS hr l => q a _ pa v S' H' F' eS hr l⟩
theorem xe_N {m : W (List α)} (h : PE X e (tN C env r m)) : PE X e (tE C env (qL r) m) := pe_imp h fun σ H Q _ ⟨S, g0, P, F, em, q⟩ => ⟨S, g0, P, F, em, fun xs g' px p vs S' H' F' eS hp ha _ => by
  have sp : S' p = none := F'.e1.back hp
  refine q xs _ px _ _ _ (F'.new (o := .lst vs) hp) (eS.trans (Ex.new sp)) ⟨p, vs, rfl, upd_same, ha.mono fun _ _ z => r.mono (Ex.new sp) z⟩⟩
theorem xq_im {m : W (List α)} (h : PE X e (tE C env (qSeq k r) m)) : PE X e (tQ C env k r m) := pe_imp h fun σ H Q _ ⟨S, g0, P, F, em, q⟩ => ⟨S, g0, P, F, em, fun xs g' px v S' H' F' eS ⟨p, vs, ev, hp, ha⟩ _ => by
  subst ev
  exact q xs _ px p S' H' F' eS fun _ S2 H2 F2 e2 => ⟨vs, (hp.mono e2).mono F2.e1, ha.mono fun _ _ z => r.mono e2 z⟩⟩
theorem xq_own {i : Nat} {xs : List α} {x : Str} (h : PE X (.Name x pos) (tVar i)) (he : ∀ g, (env g)[i]? = some (.ow r xs) := by intro _; rfl) : PE X (.Name x pos) (tQ C env true r (.ret xs)) := pe_imp h fun σ H Q _ ⟨S, g0, P, F, em, q⟩ => by
  obtain ⟨v, ev, p, vs, e1, _, e3, ha⟩ := F.sl.get i (he _)
  subst e1
  refine ⟨.ref p, ev, fun _ => q xs _ em p S H F (Ex.refl S) fun _ S2 H2 F2 e2 => ?_⟩
  obtain ⟨v2, ev2, p2, vs2, e12, _, e32, ha2⟩ := F2.sl.get i (he _)
  subst e12
  rw [ev] at ev2
  cases ev2
  exact ⟨vs2, e32, ha2⟩

/-! ### names, constants -/
theorem xe_var {i : Nat} {x : Str} {a : α} (h : PE X (.Name x pos) (tVar i)) (he : ∀ g, (env g)[i]? = some (.im r a) := by intro _; rfl) : PE X (.Name x pos) (tE C env r (.ret a)) := pe_imp h fun σ H Q _ ⟨S, g0, P, F, em, q⟩ => by
  obtain ⟨v, ev, x, e1, hr⟩ := F.sl.get i (he _)
  subst e1
  exact ⟨x, ev, fun _ => q a _ em x S H F (Ex.refl S) hr⟩
theorem xe_c {v : V} {a : α} (h : PE X e (tC v)) (hr : ∀ H, r.p H v a) : PE X e (tE C env r (.ret a)) := pe_imp h fun σ H Q _ ⟨S, g0, P, F, em, q⟩ => fun _ => q a _ em v S H F (Ex.refl S) (hr S)
theorem xe_int {i : Int} {j : Nat} : PE X (.Constant (.int i) j pos) (tE C env qI (.ret i)) := xe_c pe_int fun _ => rfl
theorem xe_bl {b : Bool} {j : Nat} : PE X (.Constant (.bool b) j pos) (tE C env qB (.ret b)) := xe_c pe_bl fun _ => rfl
theorem xe_str {x : Str} {j : Nat} : PE X (.Constant (.str x) j pos) (tE C env qS (.ret x)) := xe_c pe_str fun _ => rfl
theorem xe_non {j : Nat} : PE X (.Constant .none j pos) (tE C env qN (.ret ())) := xe_c pe_non fun _ => rfl
theorem xe_gint {x : Str} {i : Int} {t : Tok} (hg : Gl X x) (hm : X.mg x = some (.int i t)) (hd : (x == ("__debug__" : Str)) = false := by decide) : PE X (.Name x pos) (tE C env qI (.ret i)) := xe_c (pe_glob (v := .int i) hg hm ⟨t, rfl⟩ hd) fun _ => rfl

/-! ### operators -/
theorem xe_op {op : Operator} {R : R2} {f : α → β → Option γ} (ho : OpR X (binaryOp op) R) (ha : PE X a (tE C env ra ma)) (hb : PE X b (tE C env rb mb))
    (hr : ∀ (e0 : List Sl) S H σ x y p q z Q, Fr C S H σ e0 → Lens H → ra.p S x p → rb.p S y q → f p q = some z → (∀ v S' H', Fr C S' H' σ e0 → Ex S S' → rc.p S' v z → Q v H') → R x y H Q) :
    PE X (.BinOp a op b pos) (tE C env rc (ma.bind fun p => mb.bind fun q => ofO (f p q))) :=
  pe_imp (pe_op ho ha (tE_len hb)) fun σ H Q _ ⟨S, g0, P, F, em, q⟩ =>
    ⟨S, g0, _, F, em, fun p g1 hp x S1 H1 F1 e1 hx => ⟨S1, g1, _, F1, hp, fun w g2 ⟨z, ez, pz⟩ y S2 H2 F2 e2 hy l2 =>
      hr _ S2 H2 σ x y p w z _ F2 l2 (ra.mono e2 hx) hy ez fun v S' H' F' e' hv _ => q z _ pz v S' H' F' (e1.trans (e2.trans e')) hv⟩⟩
/-- ints in, an int or a bool out -/
theorem xe_opI {op : Operator} {g : Int → Int → γ} {G : Int → Int → V} {ma mb : W Int} (ho : OpR X (binaryOp op) (rI0 G)) (ha : PE X a (tE C env qI ma)) (hb : PE X b (tE C env qI mb)) (hg : ∀ H i j, rc.p H (G i j) (g i j)) :
    PE X (.BinOp a op b pos) (tE C env rc (ma.bind fun p => mb.bind fun q => .ret (g p q))) :=
  pe_imp (pe_op ho ha hb) fun σ H Q _ ⟨S, g0, P, F, em, q⟩ =>
    ⟨S, g0, _, F, em, fun p g1 hp x S1 H1 F1 e1 hx => ⟨S1, g1, _, F1, hp, fun w g2 pz y S2 H2 F2 e2 hy => ⟨p, w, hx, hy, fun _ => q _ _ pz _ S2 H2 F2 (e1.trans e2) (hg S2 p w)⟩⟩⟩
theorem xe_opC {op : Operator} {Cd : Int → Int → Prop} {g : Int → Int → Option γ} {G : Int → Int → V} {ma mb : W Int} (ho : OpR X (binaryOp op) (rI Cd G)) (ha : PE X a (tE C env qI ma)) (hb : PE X b (tE C env qI mb))
    (hg : ∀ H i j z, g i j = some z → Cd i j ∧ rc.p H (G i j) z) : PE X (.BinOp a op b pos) (tE C env rc (ma.bind fun p => mb.bind fun q => ofO (g p q))) :=
  xe_op ho ha hb fun _ S H σ x y p q z Q F _ hx hy ez k => ⟨p, q, hx, hy, (hg S p q z ez).1, k _ S H F (Ex.refl S) (hg S p q z ez).2⟩
/-- products of together less than a million bits -/
def mulC (i j : Int) : Option Int := if i.natAbs.log2 + j.natAbs.log2 < 1000000 then some (i * j) else none
/-- quotients by a divisor below 2 ^ 9000 -/
def divC (i j : Int) : Option Int := if 0 < j ∧ j.natAbs.log2 < 9000 then some (i / j) else if j < 0 ∧ j.natAbs.log2 < 9000 then some (i.fdiv j) else none
def modC (i j : Int) : Option Int := if 0 < j then some (i % j) else if j < 0 then some (i.fmod j) else none
def powC (i j : Int) : Option Int := if 0 ≤ j ∧ j ≤ 1000000 ∧ i.natAbs < 2 ^ 64 then some (i ^ j.toNat) else none
theorem op_fdivA : OpR X (binaryOp .FloorDiv) (rI (fun _ j => j ≠ 0 ∧ j.natAbs.log2 < 9000) fun i j => .int (i.fdiv j)) := opI fun i j _ _ _ _ _ hc q => PyProof.Rows.floordiv_int hc.1 q (.inl (PyProof.noPylong_of_log2 hc.2))
variable {mi mj : W Int}
theorem xe_add (ha : PE X a (tE C env qI mi)) (hb : PE X b (tE C env qI mj)) : PE X (.BinOp a .Add b pos) (tE C env qI (mi.bind fun p => mj.bind fun q => .ret (p + q))) := xe_opI op_add ha hb fun _ _ _ => rfl
theorem xe_sub (ha : PE X a (tE C env qI mi)) (hb : PE X b (tE C env qI mj)) : PE X (.BinOp a .Sub b pos) (tE C env qI (mi.bind fun p => mj.bind fun q => .ret (p - q))) := xe_opI op_sub ha hb fun _ _ _ => rfl
theorem xe_mul (ha : PE X a (tE C env qI mi)) (hb : PE X b (tE C env qI mj)) : PE X (.BinOp a .Mult b pos) (tE C env qI (mi.bind fun p => mj.bind fun q => ofO (mulC p q))) := xe_opC op_mulW ha hb fun H i j z ez => by
  unfold mulC at ez
  split at ez
  · rename_i h
    cases ez
    exact ⟨h, rfl⟩
  · cases ez
theorem xe_fdiv (ha : PE X a (tE C env qI mi)) (hb : PE X b (tE C env qI mj)) : PE X (.BinOp a .FloorDiv b pos) (tE C env qI (mi.bind fun p => mj.bind fun q => ofO (divC p q))) := xe_opC op_fdivA ha hb fun H i j z ez => by
  unfold divC at ez
  split at ez
  · rename_i h
    cases ez
    refine ⟨⟨by omega, h.2⟩, ?_⟩
    show V.int (i.fdiv j) = V.int (i / j)
    rw [Int.fdiv_eq_ediv_of_nonneg i (by omega)]
  · split at ez
    · rename_i h
      cases ez
      exact ⟨⟨by omega, h.2⟩, rfl⟩
    · cases ez
theorem xe_mod (ha : PE X a (tE C env qI mi)) (hb : PE X b (tE C env qI mj)) : PE X (.BinOp a .Mod b pos) (tE C env qI (mi.bind fun p => mj.bind fun q => ofO (modC p q))) := xe_opC op_modN ha hb fun H i j z ez => by
  unfold modC at ez
  split at ez
  · rename_i h
    cases ez
    refine ⟨by omega, ?_⟩
    show V.int (i.fmod j) = V.int (i % j)
    rw [Int.fmod_eq_emod_of_nonneg i (by omega)]
  · split at ez
    · cases ez
      exact ⟨by omega, rfl⟩
    · cases ez
theorem xe_pow (ha : PE X a (tE C env qI mi)) (hb : PE X b (tE C env qI mj)) : PE X (.BinOp a .Pow b pos) (tE C env qI (mi.bind fun p => mj.bind fun q => ofO (powC p q))) := xe_opC op_pow ha hb fun H i j z ez => by
  unfold powC at ez
  split at ez
  · rename_i h
    cases ez
    exact ⟨h, rfl⟩
  · cases ez
theorem xe_neg (ha : PE X a (tE C env qI mi)) : PE X (.UnaryOp .USub a pos) (tE C env qI (mi.bind fun p => .ret (-p))) := pe_imp (pe_un un_neg ha) fun σ H Q _ ⟨S, g0, P, F, em, q⟩ =>
  ⟨S, g0, _, F, em, fun p g1 hp v S1 H1 F1 e1 hv => ⟨p, hv, fun _ => q _ _ hp _ S1 H1 F1 e1 rfl⟩⟩

/-! ### comparisons: as values, as tests -/
theorem xe_cmp {op : CmpOp} {R : R2} {f : α → β → Option Bool} (ho : OpR X (compareOp op) R) (ha : PE X a (tE C env ra ma)) (hb : PE X b (tE C env rb mb)) (hm : behindInMarks op b = false)
    (hr : ∀ (e0 : List Sl) S H σ x y p q z Q, Fr C S H σ e0 → Lens H → ra.p S x p → rb.p S y q → f p q = some z → (∀ S' H', Fr C S' H' σ e0 → Ex S S' → Q (.bl z) H') → R x y H Q) :
    PE X (.Compare a [op] [b] pos) (tE C env qB (ma.bind fun p => mb.bind fun q => ofO (f p q))) :=
  pe_imp (pe_cmpR ho ha (tE_len hb) hm) fun σ H Q _ ⟨S, g0, P, F, em, q⟩ =>
    ⟨S, g0, _, F, em, fun p g1 hp x S1 H1 F1 e1 hx => ⟨S1, g1, _, F1, hp, fun w g2 ⟨z, ez, pz⟩ y S2 H2 F2 e2 hy l2 =>
      hr _ S2 H2 σ x y p w z _ F2 l2 (ra.mono e2 hx) hy ez fun S' H' F' e' _ => q z _ pz _ S' H' F' (e1.trans (e2.trans e')) rfl⟩⟩
theorem xt_cmp {op : CmpOp} {R : R2} {f : α → β → Option Bool} (ho : OpR X (compareOp op) R) (ha : PE X a (tE C env ra ma)) (hb : PE X b (tE C env rb mb)) (hm : behindInMarks op b = false)
    (hr : ∀ (e0 : List Sl) S H σ x y p q z Q, Fr C S H σ e0 → Lens H → ra.p S x p → rb.p S y q → f p q = some z → (∀ S' H', Fr C S' H' σ e0 → Ex S S' → Q (.bl z) H') → R x y H Q) :
    PT X (.Compare a [op] [b] pos) (tT C env (ma.bind fun p => mb.bind fun q => ofO (f p q))) :=
  pt_imp (pt_cmpR ho ha (tE_len hb) hm) fun σ H Q _ ⟨S, g0, P, F, em, q⟩ =>
    ⟨S, g0, _, F, em, fun p g1 hp x S1 H1 F1 e1 hx => ⟨S1, g1, _, F1, hp, fun w g2 ⟨z, ez, pz⟩ y S2 H2 F2 e2 hy l2 =>
      hr _ S2 H2 σ x y p w z _ F2 l2 (ra.mono e2 hx) hy ez fun S' H' F' e' => ⟨z, rfl, fun _ => q z _ pz S' H' F' (e1.trans (e2.trans e'))⟩⟩⟩
/-- a comparison of data by its rule: what it asks, what it answers -/
def CmpD (X : Cx) (C : Cs) (op : CmpOp) (ra : Rp α) (rb : Rp β) (f : α → β → Option Bool) : Prop := ∃ R, OpR X (compareOp op) R ∧
  ∀ (e0 : List Sl) S H σ x y p q z Q, Fr C S H σ e0 → Lens H → ra.p S x p → rb.p S y q → f p q = some z → (∀ S' H', Fr C S' H' σ e0 → Ex S S' → Q (.bl z) H') → R x y H Q
theorem xe_cmpD {op : CmpOp} {f : α → β → Option Bool} (h : CmpD X C op ra rb f) (ha : PE X a (tE C env ra ma)) (hb : PE X b (tE C env rb mb)) (hm : behindInMarks op b = false) : PE X (.Compare a [op] [b] pos) (tE C env qB (ma.bind fun p => mb.bind fun q => ofO (f p q))) :=
  let ⟨_, h1, h2⟩ := h
  xe_cmp h1 ha hb hm h2
theorem xt_cmpD {op : CmpOp} {f : α → β → Option Bool} (h : CmpD X C op ra rb f) (ha : PE X a (tE C env ra ma)) (hb : PE X b (tE C env rb mb)) (hm : behindInMarks op b = false) : PT X (.Compare a [op] [b] pos) (tT C env (ma.bind fun p => mb.bind fun q => ofO (f p q))) :=
  let ⟨_, h1, h2⟩ := h
  xt_cmp h1 ha hb hm h2
theorem cd_I {op : CmpOp} {g : Int → Int → Bool} (ho : OpR X (compareOp op) (rI0 fun i j => .bl (g i j))) : CmpD X C op qI qI fun i j => some (g i j) :=
  ⟨_, ho, fun _ S H σ x y p q z Q F _ hx hy ez k => ⟨p, q, hx, hy, by cases ez; exact k S H F (Ex.refl S)⟩⟩
theorem cd_lt : CmpD X C .Lt qI qI fun i j => some (decide (i < j)) := cd_I op_lt
theorem cd_le : CmpD X C .LtE qI qI fun i j => some (decide (i ≤ j)) := cd_I op_le
theorem cd_gt : CmpD X C .Gt qI qI fun i j => some (decide (j < i)) := cd_I op_gt
theorem cd_ge : CmpD X C .GtE qI qI fun i j => some (decide (j ≤ i)) := cd_I op_ge
theorem cd_eqI : CmpD X C .Eq qI qI fun i j => some (decide (i = j)) := ⟨_, op_eq, fun _ S H σ x y p q z Q F _ hx hy ez k => by
  rw [show x = V.int p from hx, show y = V.int q from hy]
  refine ⟨rfl, ?_⟩
  cases ez
  have e : decide (V.int p = V.int q) = decide (p = q) := by
    rw [Bool.eq_iff_iff]
    simp
  rw [e]
  exact k S H F (Ex.refl S)⟩
theorem cd_neI : CmpD X C .NotEq qI qI fun i j => some (!decide (i = j)) := ⟨_, op_ne, fun _ S H σ x y p q z Q F _ hx hy ez k => by
  rw [show x = V.int p from hx, show y = V.int q from hy]
  refine ⟨rfl, ?_⟩
  cases ez
  have e : decide (V.int p = V.int q) = decide (p = q) := by
    rw [Bool.eq_iff_iff]
    simp
  rw [e]
  exact k S H F (Ex.refl S)⟩

/-! ### truth, and, or, not, if -/
theorem xt_val {m : W Bool} (h : PE X e (tE C env qB m)) (he : ∀ whole, isTrue e X.env whole = (do let v ← whole; standAt e.pos; holding [v] (truthy v)) := by intro _; rfl) : PT X e (tT C env m) :=
  pt_imp (pt_val h he) fun σ H Q _ ⟨S, g0, P, F, em, q⟩ => ⟨S, g0, P, F, em, fun b g' pb v S' H' F' eS hv => ⟨b, hv, fun _ => q b _ pb S' H' F' eS⟩⟩
theorem xt_not {m : W Bool} (h : PT X e (tT C env m)) : PT X (.UnaryOp .Not e pos) (tT C env (m.bind fun b => .ret !b)) := pt_imp (pt_not h) fun σ H Q _ ⟨S, g0, P, F, em, q⟩ =>
  ⟨S, g0, _, F, em, fun b g' pb S' H' F' eS _ => q _ _ pb S' H' F' eS⟩
theorem xe_not {m : W Bool} (h : PE X e (tE C env qB m)) : PE X (.UnaryOp .Not e pos) (tE C env qB (m.bind fun b => .ret !b)) := pe_imp (pe_not h) fun σ H Q _ ⟨S, g0, P, F, em, q⟩ =>
  ⟨S, g0, _, F, em, fun b g' pb v S' H' F' eS hv => ⟨b, hv, fun _ => q _ _ pb _ S' H' F' eS rfl⟩⟩
variable {es : List Expr} {m1 m2 : W Bool}
/-- a chain of and, or: as tests -/
theorem xw_and1 (ha : PT X a (tT C env m1)) : PW X (.BoolOp .And [a] pos) (tT C env m1) := pw_and1 ha
theorem xw_or1 (ha : PT X a (tT C env m1)) : PW X (.BoolOp .Or [a] pos) (tT C env m1) := pw_or1 ha
theorem pw_imp {tt tt' : TT} (h : PW X e tt) (hi : ∀ σ H Q, Lens H → tt' σ H Q → tt σ H (fun v H' => Lens H' → Q v H')) : PW X e tt' := ⟨fun w pins s σ H Q I q =>
  thn (h.run w pins s σ H _ I (hi σ H Q (Lens.of I) q)) fun _ _ ⟨H', I', z⟩ => ⟨H', I', z (Lens.of I')⟩⟩
theorem xw_and (ha : PT X a (tT C env m1)) (hb : PW X (.BoolOp .And (b :: es) pos) (tT C env m2)) : PW X (.BoolOp .And (a :: b :: es) pos) (tT C env (m1.bind fun p => if p = true then m2 else .ret false)) :=
  pw_imp (pw_and ha hb) fun σ H Q _ ⟨S, g0, P, F, em, q⟩ => ⟨S, g0, _, F, em, fun p g' hp S' H' F' eS => by
    cases p with
    | true => exact ⟨S', g', _, F', hp, fun b g2 pb S2 H2 F2 e2 _ => q b _ pb S2 H2 F2 (eS.trans e2)⟩
    | false => exact fun _ => q _ _ hp S' H' F' eS⟩
theorem xw_or (ha : PT X a (tT C env m1)) (hb : PW X (.BoolOp .Or (b :: es) pos) (tT C env m2)) : PW X (.BoolOp .Or (a :: b :: es) pos) (tT C env (m1.bind fun p => if p = true then .ret true else m2)) :=
  pw_imp (pw_or ha hb) fun σ H Q _ ⟨S, g0, P, F, em, q⟩ => ⟨S, g0, _, F, em, fun p g' hp S' H' F' eS => by
    cases p with
    | false => exact ⟨S', g', _, F', hp, fun b g2 pb S2 H2 F2 e2 _ => q b _ pb S2 H2 F2 (eS.trans e2)⟩
    | true => exact fun _ => q _ _ hp S' H' F' eS⟩
/-- .. as values: all but the last a bool -/
theorem xe_and {m3 : W α} {f : Bool → α} (ha : PE X a (tE C env qB m1)) (hb : PE X (.BoolOp .And (b :: es) pos) (tE C env r m3)) (h0 : ∀ H, r.p H (.bl false) (f false)) : PE X (.BoolOp .And (a :: b :: es) pos) (tE C env r (m1.bind fun p => if p = true then m3 else .ret (f false))) :=
  pe_imp (pe_and ha hb) fun σ H Q _ ⟨S, g0, P, F, em, q⟩ => ⟨S, g0, _, F, em, fun p g' hp v S' H' F' eS hv => ⟨p, hv, by
    cases p with
    | true => exact ⟨S', g', _, F', hp, fun b g2 pb v S2 H2 F2 e2 hv _ => q b _ pb v S2 H2 F2 (eS.trans e2) hv⟩
    | false => exact fun _ => q _ _ hp _ S' H' F' eS (h0 S')⟩⟩
theorem xe_andB (ha : PE X a (tE C env qB m1)) (hb : PE X (.BoolOp .And (b :: es) pos) (tE C env qB m2)) : PE X (.BoolOp .And (a :: b :: es) pos) (tE C env qB (m1.bind fun p => if p = true then m2 else .ret false)) := xe_and (f := id) ha hb fun _ => rfl
theorem xe_orB (ha : PE X a (tE C env qB m1)) (hb : PE X (.BoolOp .Or (b :: es) pos) (tE C env qB m2)) : PE X (.BoolOp .Or (a :: b :: es) pos) (tE C env qB (m1.bind fun p => if p = true then .ret true else m2)) :=
  pe_imp (pe_or ha hb) fun σ H Q _ ⟨S, g0, P, F, em, q⟩ => ⟨S, g0, _, F, em, fun p g' hp v S' H' F' eS hv => ⟨p, hv, by
    cases p with
    | false => exact ⟨S', g', _, F', hp, fun b g2 pb v S2 H2 F2 e2 hv _ => q b _ pb v S2 H2 F2 (eS.trans e2) hv⟩
    | true => exact fun _ => q _ _ hp _ S' H' F' eS rfl⟩⟩
theorem xe_one {op : BoolOp} {m : W α} (h : PE X a (tE C env r m)) : PE X (.BoolOp op [a] pos) (tE C env r m) := pe_one h
/-- a if c else b -/
theorem xe_if {m3 m4 : W α} (hc : PT X c (tT C env m1)) (ha : PE X a (tE C env r m3)) (hb : PE X b (tE C env r m4)) : PE X (.IfExp c a b pos) (tE C env r (m1.bind fun p => if p = true then m3 else m4)) :=
  pe_imp (pe_ifExp hc ha hb) fun σ H Q _ ⟨S, g0, P, F, em, q⟩ => ⟨S, g0, _, F, em, fun p g' hp S' H' F' eS => by
    cases p with
    | false => exact ⟨S', g', _, F', hp, fun b g2 pb v S2 H2 F2 e2 hv _ => q b _ pb v S2 H2 F2 (eS.trans e2) hv⟩
    | true => exact ⟨S', g', _, F', hp, fun b g2 pb v S2 H2 F2 e2 hv _ => q b _ pb v S2 H2 F2 (eS.trans e2) hv⟩⟩
/-- a op b op' c -/
theorem xe_chainD {op op' : CmpOp} {f : α → β → Option Bool} {g : β → γ → Option Bool} {mc : W γ} (d1 : CmpD X C op ra rb f) (d2 : CmpD X C op' rb rc g) (ha : PE X a (tE C env ra ma)) (hb : PE X b (tE C env rb mb)) (hc : PE X c (tE C env rc mc))
    (hm : lastMarks [op, op'] [b, c] = false := by with_unfolding_all rfl) : PE X (.Compare a [op, op'] [b, c] pos) (tE C env qB (ma.bind fun p => mb.bind fun q => (ofO (f p q)).bind fun t => if t = true then mc.bind fun w => ofO (g q w) else .ret false)) := by
  obtain ⟨R, h1, hr⟩ := d1
  obtain ⟨R', h2, hr'⟩ := d2
  refine pe_imp (pe_chain h1 h2 ha (tE_len hb) (tE_len hc) hm) fun σ H Q _ ⟨S, g0, P, F, em, q⟩ => ?_
  refine ⟨S, g0, _, F, em, fun p g1 hp x S1 H1 F1 e1 hx => ⟨S1, g1, _, F1, hp, fun w g2 ⟨t, et, ht⟩ y S2 H2 F2 e2 hy l2 => ?_⟩⟩
  refine hr _ S2 H2 σ x y p w t _ F2 l2 (ra.mono e2 hx) hy et fun S3 H3 F3 e3 => ⟨t, rfl, ?_⟩
  cases t with
  | false => exact fun _ => q _ _ ht _ S3 H3 F3 (e1.trans (e2.trans e3)) rfl
  | true =>
    refine ⟨S3, _, _, F3, ht, fun u g4 ⟨z, ez, pz⟩ y' S4 H4 F4 e4 hy' l4 => ?_⟩
    exact hr' _ S4 H4 σ y y' w u z _ F4 l4 (rb.mono (e3.trans e4) hy) hy' ez fun S5 H5 F5 e5 _ => q z _ pz _ S5 H5 F5 (e1.trans (e2.trans (e3.trans (e4.trans e5)))) rfl
end
end Rt

set_option maxRecDepth 100000
set_option maxHeartbeats 4000000
/-! Rt3: sequences, calls. -/
namespace Rt
open PySem L2

/-! ### arguments -/
structure Ra (α : Type) where
  p : Hp → List V → α → Prop
  mono : ∀ {H H' : Hp} {v : List V} {a : α}, Ex H H' → p H v a → p H' v a
def q0 : Ra Unit := ⟨fun _ vs _ => vs = [], fun _ h => h⟩
def qC {α β : Type} (r : Rp α) (q : Ra β) : Ra (α × β) := ⟨fun H vs a => ∃ v ws, vs = v :: ws ∧ r.p H v a.1 ∧ q.p H ws a.2, fun e ⟨v, ws, h1, h2, h3⟩ => ⟨v, ws, h1, r.mono e h2, q.mono e h3⟩⟩
def qAll {α : Type} (r : Rp α) : Ra (List α) := ⟨fun H vs xs => All2 (r.p H) vs xs, fun e h => h.mono fun _ _ z => r.mono e z⟩
def tA (C : Cs) (env : Gh → List Sl) {α : Type} (r : Ra α) (m : W α) : TA := fun σ H Q => ∃ S g P, Fr C S H σ (env g) ∧ m g P ∧ ∀ a g', P a g' → ∀ vs S' H', Fr C S' H' σ (env g') → Ex S S' → r.p S' vs a → Q vs H'
section
variable {X : Cx} {C : Cs} {env : Gh → List Sl} {e a b c : Expr} {es : List Expr} {pos : Pos} {α β γ δ : Type} {r ra : Rp α} {rb : Rp β} {rc : Rp γ} {m ma : W α} {mb : W β} {mc : W γ} {k : Bool} {q : Ra β} {ta ta' : TA}
theorem pa_imp (h : PA X es ta) (hi : ∀ σ H Q, Lens H → ta' σ H Q → ta σ H (fun v H' => Lens H' → Q v H')) : PA X es ta' := ⟨fun pos pins s σ H Q I q =>
  thn (h.run pos pins s σ H _ I (hi σ H Q (Lens.of I) q)) fun _ _ ⟨v, H', I', r, z⟩ => ⟨v, H', I', r, z (Lens.of I')⟩⟩
theorem xa_nil : PA X [] (tA C env q0 (.ret ())) := pa_imp pa_nil fun σ H Q _ ⟨S, g0, P, F, em, k⟩ => fun _ => k () _ em [] S H F (Ex.refl S) rfl
theorem xa_cons {mq : W β} (h : PE X e (tE C env r m)) (hr : PA X es (tA C env q mq)) (hs : starEach (e :: es) X.env = (false, eval e X.env) :: starEach es X.env := by rfl) : PA X (e :: es) (tA C env (qC r q) (m.bind fun x => mq.bind fun y => .ret (x, y))) :=
  pa_imp (pa_cons h hr hs) fun σ H Q _ ⟨S, g0, P, F, em, k⟩ => ⟨S, g0, _, F, em, fun x g1 hx v S1 H1 F1 x1 hv => ⟨S1, g1, _, F1, hx, fun y g2 py vs S2 H2 F2 x2 hvs _ => k _ _ py (v :: vs) S2 H2 F2 (x1.trans x2) ⟨v, vs, rfl, r.mono x2 hv, hvs⟩⟩⟩
theorem xa_nilL : PA X [] (tA C env (qAll r) (.ret [])) := pa_imp pa_nil fun σ H Q _ ⟨S, g0, P, F, em, k⟩ => fun _ => k _ _ em [] S H F (Ex.refl S) True.intro
theorem xa_consL {mq : W (List α)} (h : PE X e (tE C env r m)) (hr : PA X es (tA C env (qAll r) mq)) (hs : starEach (e :: es) X.env = (false, eval e X.env) :: starEach es X.env := by rfl) : PA X (e :: es) (tA C env (qAll r) (m.bind fun x => mq.bind fun y => .ret (x :: y))) :=
  pa_imp (pa_cons h hr hs) fun σ H Q _ ⟨S, g0, P, F, em, k⟩ => ⟨S, g0, _, F, em, fun x g1 hx v S1 H1 F1 x1 hv => ⟨S1, g1, _, F1, hx, fun y g2 py vs S2 H2 F2 x2 hvs _ => k _ _ py (v :: vs) S2 H2 F2 (x1.trans x2) ⟨r.mono x2 hv, hvs⟩⟩⟩
theorem pe_eq {m m' : W α} (h : PE X e (tE C env r m)) (he : m = m') : PE X e (tE C env r m') := he ▸ h
theorem pa_eq {m m' : W β} (h : PA X es (tA C env q m)) (he : m = m') : PA X es (tA C env q m') := he ▸ h

/-! ### displays -/
def lenK {α : Type} (xs : List α) : Option (List α) := if xs.length ≤ 1000000 then some xs else none
theorem lenK_some {α : Type} {xs z : List α} (h : lenK xs = some z) : xs = z ∧ xs.length ≤ 1000000 := by
  unfold lenK at h
  split at h
  · rename_i hl
    exact ⟨Option.some.inj h, hl⟩
  · cases h
theorem xe_tupL {k1 : Nat} {m : W (List α)} (h : PA X es (tA C env (qAll r) m)) : PE X (.Tuple es k1 pos) (tE C env (qT r) (m.bind fun xs => ofO (lenK xs))) := pe_imp (RtU.pe_tupU h) fun σ H Q _ ⟨S, g0, P, F, em, k⟩ =>
  ⟨S, g0, _, F, em, fun xs g1 ⟨z, ez, pz⟩ vs S1 H1 F1 x1 hv => by
    obtain ⟨rfl, hl⟩ := lenK_some ez
    refine ⟨by rw [All2.length hv, sizeLine_eq]; omega, fun p o ho hp _ => ?_⟩
    exact k _ _ pz _ _ _ (F1.new (o := .frz o (.tup vs)) hp) (x1.trans (Ex.new (F1.e1.back hp))) ⟨p, vs, rfl, TupAt.new ho, All2.mono (fun _ _ z => r.mono (Ex.new (F1.e1.back hp)) z) hv⟩⟩
theorem xn_lst {m : W (List α)} (h : PA X es (tA C env (qAll r) m)) : PE X (.List es pos) (tN C env r (m.bind fun xs => ofO (lenK xs))) := pe_imp (pe_lst h) fun σ H Q _ ⟨S, g0, P, F, em, k⟩ =>
  ⟨S, g0, _, F, em, fun xs g1 ⟨z, ez, pz⟩ vs S1 H1 F1 x1 hv => by
    obtain ⟨rfl, hl⟩ := lenK_some ez
    exact ⟨by rw [All2.length hv, sizeLine_eq]; omega, fun p hp _ => k _ _ pz p vs S1 H1 F1 x1 hp hv⟩⟩
theorem xn_nil : PE X (.List [] pos) (tN C env r (.ret [])) := pe_imp (pe_lst (xa_nilL (C := C) (env := env) (r := r))) fun σ H Q _ ⟨S, g0, P, F, em, k⟩ =>
  ⟨S, g0, fun xs g => xs = [] ∧ g = g0, F, ⟨rfl, rfl⟩, fun xs g1 hx vs S1 H1 F1 x1 hv => by
    obtain ⟨rfl, rfl⟩ := hx
    exact ⟨by rw [All2.length hv]; exact Nat.zero_le _, fun p hp _ => k [] _ em p vs S1 H1 F1 x1 hp hv⟩⟩
theorem xe_tup0 {k1 : Nat} : PE X (.Tuple [] k1 pos) (tE C env (qT r) (.ret [])) := pe_imp (RtU.pe_tupU (xa_nilL (C := C) (env := env) (r := r))) fun σ H Q _ ⟨S, g0, P, F, em, k⟩ =>
  ⟨S, g0, fun xs g => xs = [] ∧ g = g0, F, ⟨rfl, rfl⟩, fun xs g1 hx vs S1 H1 F1 x1 hv => by
    obtain ⟨rfl, rfl⟩ := hx
    refine ⟨by rw [All2.length hv]; exact Nat.zero_le _, fun p o ho hp _ => ?_⟩
    exact k [] _ em _ _ _ (F1.new (o := .frz o (.tup vs)) hp) (x1.trans (Ex.new (F1.e1.back hp))) ⟨p, vs, rfl, TupAt.new ho, All2.mono (fun _ _ z => r.mono (Ex.new (F1.e1.back hp)) z) hv⟩⟩
theorem xe_tup1 {k1 : Nat} {m : W α} (h : PE X a (tE C env r m)) (hs : starEach [a] X.env = (false, eval a X.env) :: starEach [] X.env := by rfl) : PE X (.Tuple [a] k1 pos) (tE C env (qT r) (m.bind fun x => .ret [x])) :=
  pe_imp (xe_tupL (xa_consL h xa_nilL hs)) fun σ H Q _ ⟨S, g0, P, F, em, k⟩ => ⟨S, g0, P, F, (by
    have e : (m.bind fun x => W.ret [x]) = ((m.bind fun x => (W.ret ([] : List α)).bind fun y => W.ret (x :: y)).bind fun xs => ofO (lenK xs)) := by
      funext g P
      show m g _ = m g _
      congr 1
      funext x g1
      exact propext (Iff.intro (fun h => ⟨[x], rfl, h⟩) fun ⟨z, ez, h⟩ => by cases ez; exact h)
    rw [← e]
    exact em), fun xs g' px v S' H' F' x1 hv _ => k xs _ px v S' H' F' x1 hv⟩
theorem xe_tup2 {k1 : Nat} (ha : PE X a (tE C env ra ma)) (hb : PE X b (tE C env rb mb)) (hs : starEach [a, b] X.env = (false, eval a X.env) :: starEach [b] X.env := by rfl) (hs2 : starEach [b] X.env = (false, eval b X.env) :: starEach [] X.env := by rfl) :
    PE X (.Tuple [a, b] k1 pos) (tE C env (qP ra rb) (ma.bind fun x => mb.bind fun y => .ret (x, y))) := pe_imp (RtU.pe_tupU (xa_cons ha (xa_cons hb xa_nil hs2) hs)) fun σ H Q _ ⟨S, g0, P, F, em, k⟩ =>
  ⟨S, g0, fun z g => P (z.1, z.2.1) g, F, em, fun z g1 pz vs S1 H1 F1 x1 ⟨v, ws, ev, h1, w, us, ew, h2, eu⟩ => by
    have eu : us = [] := eu
    subst ev ew eu
    refine ⟨by show 2 ≤ sizeLine; decide, fun p o ho hp _ => ?_⟩
    have ex := Ex.new (o := .frz o (.tup [v, w])) (F1.e1.back hp)
    exact k _ _ pz _ _ _ (F1.new hp) (x1.trans ex) ⟨p, v, w, rfl, TupAt.new ho, ra.mono ex h1, rb.mono ex h2⟩⟩
theorem xe_tup3 {k1 : Nat} (ha : PE X a (tE C env ra ma)) (hb : PE X b (tE C env rb mb)) (hc : PE X c (tE C env rc mc)) (hs : starEach [a, b, c] X.env = (false, eval a X.env) :: starEach [b, c] X.env := by rfl) (hs2 : starEach [b, c] X.env = (false, eval b X.env) :: starEach [c] X.env := by rfl)
    (hs3 : starEach [c] X.env = (false, eval c X.env) :: starEach [] X.env := by rfl) :
    PE X (.Tuple [a, b, c] k1 pos) (tE C env (qP3 ra rb rc) (ma.bind fun x => mb.bind fun y => mc.bind fun z => .ret (x, y, z))) := pe_imp (RtU.pe_tupU (xa_cons ha (xa_cons hb (xa_cons hc xa_nil hs3) hs2) hs)) fun σ H Q _ ⟨S, g0, P, F, em, k⟩ =>
  ⟨S, g0, fun z g => P (z.1, z.2.1, z.2.2.1) g, F, em, fun z g1 pz vs S1 H1 F1 x1 ⟨v, ws, ev, h1, w2, us, ew, h2, w3, ts, et, h3, eu⟩ => by
    have eu : ts = [] := eu
    subst ev ew et eu
    refine ⟨by show 3 ≤ sizeLine; decide, fun p o ho hp _ => ?_⟩
    have ex := Ex.new (o := .frz o (.tup [v, w2, w3])) (F1.e1.back hp)
    exact k _ _ pz _ _ _ (F1.new hp) (x1.trans ex) ⟨p, v, w2, w3, rfl, TupAt.new ho, ra.mono ex h1, rb.mono ex h2, rc.mono ex h3⟩⟩

/-! ### subscripts, lengths -/
theorem All2.atI {R : V → α → Prop} {vs : List V} {xs : List α} {i : Int} {x : α} (h : All2 R vs xs) (e : L2.atI xs i = some x) : ∃ v, L2.atI vs i = some v ∧ R v x := by
  unfold L2.atI at e ⊢
  rw [← All2.length h] at e
  cases q : ixN vs.length i with
  | none => rw [q] at e; cases e
  | some j =>
    rw [q] at e
    exact All2.get j h e
theorem rd_sq {K : PySem.W.Frag} {H : Hp} {p : Addr} {vs : List V} (h : Sq k H p vs) : SqL K H p vs ∨ SqT K H p vs := sq_seq h
theorem xe_ix {mx : W (List α)} {mi : W Int} (ha : PE X a (tQ C env k r mx)) (hb : PE X b (tE C env qI mi)) (hs : PlainIx b := by intro _ _; rfl) : PE X (.Subscript a b pos) (tE C env r (mx.bind fun xs => mi.bind fun i => ofO (L2.atI xs i))) := by
  have go : ∀ {R : R2}, IxR X R → (∀ H p vs i v Q, Sq k H p vs → L2.atI vs i = some v → Q v H → R (.ref p) (.int i) H Q) → PE X (.Subscript a b pos) (tE C env r (mx.bind fun xs => mi.bind fun i => ofO (L2.atI xs i))) := fun {R} hR hr =>
    pe_imp (pe_ix hR ha hb hs) fun σ H Q _ ⟨S, g0, P, F, em, k⟩ => ⟨S, g0, _, F, em, fun xs g1 hx p S1 H1 F1 x1 rd => ⟨S1, g1, _, F1, hx, fun i g2 ⟨z, ez, pz⟩ y S2 H2 F2 x2 hy => by
      have hy : y = .int i := hy
      subst hy
      obtain ⟨vs, hp, h2⟩ := rd _ S2 H2 F2 x2
      obtain ⟨v, ev, hv⟩ := h2.atI ez
      exact hr H2 p vs i v _ hp ev fun _ => k _ _ pz v S2 H2 F2 (x1.trans x2) hv⟩⟩
  cases k with
  | true => exact go ix_list fun H p vs i v Q hp ev q => ⟨p, vs, i, v, rfl, rfl, SqL.of hp, ev, q⟩
  | false => exact go ix_tup fun H p vs i v Q hp ev q => ⟨p, vs, i, v, rfl, rfl, TupAt.sq hp, ev, q⟩
theorem xe_len {mx : W (List α)} {p : Pos} (hg : Gl X "len") (hm : X.mg "len" = none) (ha : PE X a (tQ C env k r mx)) (hs : starEach [a] X.env = (false, eval a X.env) :: starEach [] X.env := by rfl) :
    PE X (.Call (.Name "len" p) [a] [] pos) (tE C env qI (mx.bind fun xs => .ret (xs.length : Int))) :=
  pe_imp (pe_callB call_len_seq hg hm PySem.boot_len (pa_cons ha pa_nil hs) (by decide) (by decide) hs (by rfl)) fun σ H Q _ ⟨S, g0, P, F, em, k⟩ => ⟨S, g0, _, F, em, fun xs g1 px p S1 H1 F1 x1 rd => by
    obtain ⟨vs, hp, h2⟩ := rd _ S1 H1 F1 (Ex.refl S1)
    exact ⟨p, vs, rfl, sq_seq hp, fun _ => k _ _ px _ S1 H1 F1 x1 (by rw [All2.length h2]; rfl)⟩⟩
/-- the items of xs[lo:hi] -/
def cutL {α : Type} (xs : List α) (lo hi : Option Int) : List α := (xs.drop (HT.sIx xs.length 0 lo)).take (HT.sIx xs.length xs.length hi - HT.sIx xs.length 0 lo)
theorem cutL_all {R : V → α → Prop} {vs : List V} {xs : List α} (h : All2 R vs xs) (lo hi : Option Int) : All2 R (cutV vs lo hi) (cutL xs lo hi) := by
  unfold cutV cutL
  rw [All2.length h]
  exact (h.drop _).take _
/-- a slice's end -/
def tO (C : Cs) (env : Gh → List Sl) (m : W (Option Int)) : TO := fun σ H Q => ∃ S g P, Fr C S H σ (env g) ∧ m g P ∧ ∀ a g', P a g' → ∀ S' H', Fr C S' H' σ (env g') → Ex S S' → Q a H'
theorem po_imp {e : Option Expr} {t t' : TO} (h : PO X e t) (hi : ∀ σ H Q, Lens H → t' σ H Q → t σ H Q) : PO X e t' := ⟨fun pins s σ H Q I q => h.run pins s σ H Q I (hi σ H Q (Lens.of I) q)⟩
theorem xo_none : PO X none (tO C env (.ret none)) := po_imp po_none fun σ H Q _ ⟨S, g0, P, F, em, k⟩ => k _ _ em S H F (Ex.refl S)
theorem xo_some {mi : W Int} (h : PE X e (tE C env qI mi)) : PO X (some e) (tO C env (mi.bind fun i => .ret (some i))) := po_imp (po_some h) fun σ H Q _ ⟨S, g0, P, F, em, k⟩ =>
  ⟨S, g0, _, F, em, fun i g1 pi v S1 H1 F1 x1 hv => ⟨i, hv, k _ _ pi S1 H1 F1 x1⟩⟩
theorem xe_slT {lo hi : Option Expr} {p2 : Pos} {mx : W (List α)} {ml mh : W (Option Int)} (ha : PE X a (tE C env (qT r) mx)) (hl : PO X lo (tO C env ml)) (hh : PO X hi (tO C env mh)) :
    PE X (.Subscript a (.Slice lo hi none p2) pos) (tE C env (qT r) (mx.bind fun xs => ml.bind fun l => mh.bind fun h => .ret (cutL xs l h))) :=
  pe_imp (pe_slice RtU.sl_tupU ha hl hh) fun σ H Q _ ⟨S, g0, P, F, em, k⟩ => ⟨S, g0, _, F, em, fun xs g1 hx v S1 H1 F1 x1 ⟨p, vs, ev, hp, h2⟩ => ⟨S1, g1, _, F1, hx, fun l g2 hl S2 H2 F2 x2 => ⟨S2, g2, _, F2, hl, fun h g3 ph S3 H3 F3 x3 => by
    subst ev
    have hp3 : TupAt S3 p vs := TupAt.mono x3 (TupAt.mono x2 hp)
    have h3 : All2 (r.p S3) vs xs := h2.mono fun _ _ z => r.mono (x2.trans x3) z
    refine ⟨p, vs, rfl, (hp3.mono F3.e1).sq, fun hw _ => ?_, fun _ t o ho ht _ => ?_⟩
    · have e : cutL xs l h = xs := by
        unfold cutL
        rw [← All2.length h2, hw.1, hw.2]
        simp
        rw [All2.length h2]
        exact List.take_length
      exact k _ _ ph _ S3 H3 F3 (x1.trans (x2.trans x3)) ⟨p, vs, rfl, hp3, by rw [e]; exact h3⟩
    · have ex := Ex.new (o := .frz o (.tup (cutV vs l h))) (F3.e1.back ht)
      exact k _ _ ph _ _ _ (F3.new ht) ((x1.trans (x2.trans x3)).trans ex) ⟨t, _, rfl, TupAt.new ho, (cutL_all h3 l h).mono fun _ _ z => r.mono ex z⟩⟩⟩⟩
theorem xn_slL {lo hi : Option Expr} {p2 : Pos} {mx : W (List α)} {ml mh : W (Option Int)} (ha : PE X a (tQ C env true r mx)) (hl : PO X lo (tO C env ml)) (hh : PO X hi (tO C env mh)) :
    PE X (.Subscript a (.Slice lo hi none p2) pos) (tN C env r (mx.bind fun xs => ml.bind fun l => mh.bind fun h => .ret (cutL xs l h))) :=
  pe_imp (pe_slice sl_list ha hl hh) fun σ H Q _ ⟨S, g0, P, F, em, k⟩ => ⟨S, g0, _, F, em, fun xs g1 hx p S1 H1 F1 x1 rd => ⟨S1, g1, _, F1, hx, fun l g2 hl S2 H2 F2 x2 => ⟨S2, g2, _, F2, hl, fun h g3 ph S3 H3 F3 x3 => by
    obtain ⟨vs, hp, h2⟩ := rd _ S3 H3 F3 (x2.trans x3)
    exact ⟨p, vs, rfl, SqL.of hp, fun t ht _ => k _ _ ph t _ S3 H3 F3 (x1.trans (x2.trans x3)) ht (cutL_all h2 l h)⟩⟩⟩⟩
/-- xs[::-1] of a list -/
theorem xn_rev {j : Nat} {p1 p2 p3 : Pos} {mx : W (List α)} (ha : PE X a (tQ C env true r mx)) : PE X (.Subscript a (.Slice none none (some (.UnaryOp .USub (.Constant (.int 1) j p1) p2)) p3) pos) (tN C env r (mx.bind fun xs => .ret xs.reverse)) :=
  pe_imp (pe_revL ha) fun σ H Q _ ⟨S, g0, P, F, em, k⟩ => ⟨S, g0, _, F, em, fun xs g1 px p S1 H1 F1 x1 rd => by
    obtain ⟨vs, hp, h2⟩ := rd _ S1 H1 F1 (Ex.refl S1)
    exact ⟨p, vs, rfl, SqL.of hp, fun t ht _ => k _ _ px t _ S1 H1 F1 x1 ht h2.reverse⟩⟩

/-! ### one behind the other -/
def catC {α : Type} (xs ys : List α) : Option (List α) := if xs.length + ys.length ≤ 1000000 then some (xs ++ ys) else none
theorem xe_catT {mx my : W (List α)} (ha : PE X a (tE C env (qT r) mx)) (hb : PE X b (tE C env (qT r) my)) : PE X (.BinOp a .Add b pos) (tE C env (qT r) (mx.bind fun xs => my.bind fun ys => ofO (catC xs ys))) :=
  xe_op RtU.op_catU ha hb fun _ S H σ x y xs ys z Q F _ ⟨p, vs, e1, h1, h2⟩ ⟨t, ws, e3, h3, h4⟩ ez k => by
    unfold catC at ez
    split at ez
    · rename_i hl
      cases ez
      refine ⟨p, t, vs, ws, e1, e3, (TupAt.mono F.e1 h1).sq, (TupAt.mono F.e1 h3).sq, by rw [All2.length h2, All2.length h4, sizeLine_eq]; omega, fun n => ?_, fun _ n => ?_, fun _ _ u o ho hu => ?_⟩
      · subst n
        have : xs = [] := List.eq_nil_of_length_eq_zero (by rw [← All2.length h2]; rfl)
        subst this
        exact k _ S H F (Ex.refl S) ⟨t, ws, rfl, h3, h4⟩
      · subst n
        have : ys = [] := List.eq_nil_of_length_eq_zero (by rw [← All2.length h4]; rfl)
        subst this
        exact k _ S H F (Ex.refl S) ⟨p, vs, rfl, h1, by rw [List.append_nil]; exact h2⟩
      · have ex := Ex.new (o := .frz o (.tup (vs ++ ws))) (F.e1.back hu)
        exact k _ _ _ (F.new hu) ex ⟨u, _, rfl, TupAt.new ho, (h2.append h4).mono fun _ _ z => r.mono ex z⟩
    · cases ez
end
end Rt

set_option maxRecDepth 100000
set_option maxHeartbeats 4000000
/-! Rt4: data as data (==, in, repr), built-in functions over sequences. -/
namespace Rt
open PySem L2

/-! ### what the data are -/
structure Dt {α : Type} (r : Rp α) where
  d : α → PyData
  dep : Nat
  rep : ∀ {K : PySem.W.Frag} {H : Hp} {v : V} {a : α}, r.p H v a → Dp K H v (d a)
  lay : ∀ a, (d a).canLay0 = true
  le : ∀ a, (d a).depth ≤ dep
theorem canLayAll_map {α : Type} {f : α → PyData} (h : ∀ a, (f a).canLay0 = true) : ∀ xs : List α, PyData.canLayAll0 (xs.map f) = true
  | [] => by simp [PyData.canLayAll0]
  | x :: xs => by simp [PyData.canLayAll0, h x, canLayAll_map h xs]
theorem depthAll_map {α : Type} {f : α → PyData} {n : Nat} (h : ∀ a, (f a).depth ≤ n) : ∀ xs : List α, PyData.depthAll (xs.map f) ≤ n
  | [] => by simp [PyData.depthAll]
  | x :: xs => by
    have h1 := h x
    have h2 := depthAll_map h xs
    simp [PyData.depthAll]
    omega
theorem dpAll {α : Type} {r : Rp α} {f : α → PyData} {K : PySem.W.Frag} {H : Hp} (h : ∀ {v : V} {a : α}, r.p H v a → Dp K H v (f a)) : ∀ {vs : List V} {xs : List α}, All2 (r.p H) vs xs → DpAll K H vs (xs.map f)
  | [], [], _ => .nil
  | v :: vs, x :: xs, ⟨a, b⟩ => .cons (h a) (dpAll h b)
  | [], _ :: _, z => z.elim
  | _ :: _, [], z => z.elim
def dI : Dt qI := ⟨.int, 0, fun {K H v a} h => by rw [show v = .int a from h]; exact .int a, fun _ => by simp [PyData.canLay0], fun _ => by simp [PyData.depth]⟩
def dB : Dt qB := ⟨.bool, 0, fun {K H v a} h => by rw [show v = .bl a from h]; exact .bl a, fun _ => by simp [PyData.canLay0], fun _ => by simp [PyData.depth]⟩
def dN : Dt qN := ⟨fun _ => .none, 0, fun {K H v a} h => by rw [show v = .non from h]; exact .non, fun _ => by simp [PyData.canLay0], fun _ => by simp [PyData.depth]⟩
def dT {α : Type} {r : Rp α} (D : Dt r) : Dt (qT r) := ⟨fun xs => .tuple (xs.map D.d), D.dep + 1, fun {K H v a} ⟨p, vs, e, hp, h⟩ => by rw [e]; exact .tup (TupAt.sq hp) (dpAll D.rep h), fun xs => by simp [PyData.canLay0, canLayAll_map D.lay], fun xs => by
  have := depthAll_map D.le xs
  simp [PyData.depth]
  omega⟩
def dL {α : Type} {r : Rp α} (D : Dt r) : Dt (qL r) := ⟨fun xs => .list (xs.map D.d), D.dep + 1, fun {K H v a} ⟨p, vs, e, hp, h⟩ => by rw [e]; exact .lst (SqL.of hp) (dpAll D.rep h), fun xs => by simp [PyData.canLay0, canLayAll_map D.lay], fun xs => by
  have := depthAll_map D.le xs
  simp [PyData.depth]
  omega⟩
def dP {α β : Type} {r : Rp α} {q : Rp β} (D : Dt r) (E : Dt q) : Dt (qP r q) := ⟨fun a => .tuple [D.d a.1, E.d a.2], max D.dep E.dep + 1, fun {K H v a} ⟨p, x, y, e, hp, h1, h2⟩ => by rw [e]; exact .tup (TupAt.sq hp) (.cons (D.rep h1) (.cons (E.rep h2) .nil)),
  fun a => by simp [PyData.canLay0, PyData.canLayAll0, D.lay, E.lay], fun a => by
  have h1 := D.le a.1
  have h2 := E.le a.2
  simp [PyData.depth, PyData.depthAll]
  omega⟩
def dP3 {α β γ : Type} {r : Rp α} {q : Rp β} {t : Rp γ} (D : Dt r) (E : Dt q) (G : Dt t) : Dt (qP3 r q t) := ⟨fun a => .tuple [D.d a.1, E.d a.2.1, G.d a.2.2], max D.dep (max E.dep G.dep) + 1, fun {K H v a} ⟨p, x, y, z, e, hp, h1, h2, h3⟩ => by rw [e]; exact .tup (TupAt.sq hp) (.cons (D.rep h1) (.cons (E.rep h2) (.cons (G.rep h3) .nil))),
  fun a => by simp [PyData.canLay0, PyData.canLayAll0, D.lay, E.lay, G.lay], fun a => by
  have h1 := D.le a.1
  have h2 := E.le a.2.1
  have h3 := G.le a.2.2
  simp [PyData.depth, PyData.depthAll]
  omega⟩
theorem Dt.shaped {α : Type} {r : Rp α} (D : Dt r) (h : D.dep ≤ 64) (a : α) : SeqAt.shaped (D.d a) = true := by
  have := D.le a
  unfold SeqAt.shaped
  rw [D.lay a]
  simp
  omega
/-- any data, by the data alone -/
def qD (K : PySem.W.Frag) : Rp PyData := ⟨fun H v d => Dp K H v d, fun {H H' v a} e h => by
  have key : ∀ (d : PyData) (v : V), Dp K H v d → Dp K H' v d := by
    intro d
    refine PyData.rec (motive_1 := fun d => ∀ v, Dp K H v d → Dp K H' v d) (motive_2 := fun ds => ∀ vs, DpAll K H vs ds → DpAll K H' vs ds) (motive_3 := fun _ => True) (motive_4 := fun _ => True) ?_ ?_ ?_ ?_ ?_ ?_ ?_ ?_ ?_ ?_ ?_ ?_ d
    · intro v h; cases h; exact .non
    · intro b v h; cases h; exact .bl b
    · intro i v h; cases h; exact .int i
    · intro x v h; cases h; exact .str x
    · intro xs ih v h
      cases h with
      | lst hs ha =>
        refine .lst ?_ (ih _ ha)
        rcases hs with (hs | ⟨o, hs⟩) | hs
        · exact .inl (.inl (e _ _ hs))
        · exact .inl (.inr ⟨o, e _ _ hs⟩)
        · exact .inr hs
    · intro xs ih v h
      cases h with
      | tup hs ha =>
        refine .tup ?_ (ih _ ha)
        rcases hs with (hs | ⟨o, hs⟩) | hs
        · exact .inl (.inl (e _ _ hs))
        · exact .inl (.inr ⟨o, e _ _ hs⟩)
        · exact .inr hs
    · intro kvs _ v h; cases h
    · intro vs h; cases h; exact .nil
    · intro d ds h1 h2 vs h
      cases h with
      | cons a b => exact .cons (h1 _ a) (h2 _ b)
    · exact True.intro
    · intros; exact True.intro
    · intros; exact True.intro
  exact key a v h⟩
section
variable {X : Cx} {C : Cs} {env : Gh → List Sl} {e a b c : Expr} {es : List Expr} {pos : Pos} {α β γ δ : Type} {r ra : Rp α} {rb : Rp β} {rc : Rp γ} {m ma : W α} {mb : W β} {mc : W γ} {k : Bool}
/-- in another dress -/
theorem xe_as {f : α → β} (hf : ∀ H v a, r.p H v a → rb.p H v (f a)) (h : PE X e (tE C env r m)) : PE X e (tE C env rb (m.bind fun x => .ret (f x))) := pe_imp h fun σ H Q _ ⟨S, g0, P, F, em, k⟩ =>
  ⟨S, g0, _, F, em, fun x g1 px v S1 H1 F1 x1 hv _ => k _ _ px v S1 H1 F1 x1 (hf S1 v x hv)⟩
theorem xe_data (D : Dt r) (h : PE X e (tE C env r m)) : PE X e (tE C env (qD X.K) (m.bind fun x => .ret (D.d x))) := xe_as (rb := qD X.K) (fun H v a h => D.rep h) h
theorem Dp.up {K : PySem.W.Frag} {S H : Hp} (e : Ex S H) {d : PyData} {v : V} (h : Dp K S v d) : Dp K H v d := (qD K).mono e h
theorem cd_eq (D : Dt ra) (E : Dt rb) (hu : X.A.units + 64 < cLine) (h1 : D.dep ≤ 64 := by decide) (h2 : E.dep ≤ 64 := by decide) : CmpD X C .Eq ra rb fun x y => some (PyData.eqv (D.d x) (E.d y)) :=
  ⟨_, op_eqD hu, fun _ S H σ x y p q z Q F _ hx hy ez k => ⟨_, _, Dp.up F.e1 (D.rep hx), Dp.up F.e1 (E.rep hy), D.shaped h1 p, E.shaped h2 q, by cases ez; exact k S H F (Ex.refl S)⟩⟩
theorem cd_ne (D : Dt ra) (E : Dt rb) (hu : X.A.units + 64 < cLine) (h1 : D.dep ≤ 64 := by decide) (h2 : E.dep ≤ 64 := by decide) : CmpD X C .NotEq ra rb fun x y => some (!PyData.eqv (D.d x) (E.d y)) :=
  ⟨_, op_neD hu, fun _ S H σ x y p q z Q F _ hx hy ez k => ⟨_, _, Dp.up F.e1 (D.rep hx), Dp.up F.e1 (E.rep hy), D.shaped h1 p, E.shaped h2 q, by cases ez; exact k S H F (Ex.refl S)⟩⟩
def eqC (d e : PyData) : Option Bool := if SeqAt.shaped d = true ∧ SeqAt.shaped e = true then some (PyData.eqv d e) else none
theorem cd_eqD (hu : X.A.units + 64 < cLine) : CmpD X C .Eq (qD X.K) (qD X.K) eqC :=
  ⟨_, op_eqD hu, fun _ S H σ x y p q z Q F _ hx hy ez k => by
    unfold eqC at ez
    split at ez
    · rename_i h
      cases ez
      exact ⟨_, _, Dp.up F.e1 hx, Dp.up F.e1 hy, h.1, h.2, k S H F (Ex.refl S)⟩
    · cases ez⟩
theorem cd_neD (hu : X.A.units + 64 < cLine) : CmpD X C .NotEq (qD X.K) (qD X.K) fun d e => (eqC d e).bind fun b => some !b :=
  ⟨_, op_neD hu, fun _ S H σ x y p q z Q F _ hx hy ez k => by
    have ez : ((eqC p q).bind fun b => some !b) = some z := ez
    unfold eqC at ez
    split at ez
    · rename_i h
      cases ez
      exact ⟨_, _, Dp.up F.e1 hx, Dp.up F.e1 hy, h.1, h.2, k S H F (Ex.refl S)⟩
    · cases ez⟩
/-- is None -/
theorem xe_isN {j : Nat} {p1 : Pos} (h : PE X a (tE C env r m)) {f : α → Bool} (hf : ∀ H v x, r.p H v x → decide (v = .non) = f x) : PE X (.Compare a [.Is] [.Constant .none j p1] pos) (tE C env qB (m.bind fun x => .ret (f x))) :=
  pe_imp (pe_cmp (pc_isN h) rfl) fun σ H Q _ ⟨S, g0, P, F, em, k⟩ => ⟨S, g0, _, F, em, fun x g1 px v S1 H1 F1 x1 hv _ => k _ _ px _ S1 H1 F1 x1 (by rw [hf S1 v x hv]; rfl)⟩

/-! ### in -/
theorem flat_ints {H : Hp} : ∀ {vs : List V} {xs : List Int}, All2 (qI.p H) vs xs → vs = xs.map V.int := fun {vs xs} h => All2.map_eq (f := V.int) h
theorem flat_bls {H : Hp} : ∀ {vs : List V} {xs : List Bool}, All2 (qB.p H) vs xs → vs = xs.map V.bl := fun {vs xs} h => All2.map_eq (f := V.bl) h
theorem all_flat (xs : List Int) : (xs.map V.int).all flatV = true := by
  rw [List.all_map, List.all_eq_true]
  intro x _
  rfl
theorem inV_int (i : Int) : ∀ xs : List Int, inV (.int i) (xs.map V.int) = xs.any fun y => decide (y = i)
  | [] => rfl
  | x :: xs => by
    have ih := inV_int i xs
    unfold inV at ih ⊢
    rw [List.map_cons, List.any_cons, List.any_cons, ih]
    have : eqV (.int x) (.int i) = decide (x = i) := by
      show (x == i) = decide (x = i)
      rfl
    rw [this]
theorem cq_in {op : CmpOp} {neg : Bool} {mi : W Int} {mx : W (List Int)} (ho : OpR X (compareOp op) (rIn X.K neg)) (ha : PE X a (tE C env qI mi)) (hb : PE X b (tQ C env k qI mx)) (hm : behindInMarks op b = false) :
    PE X (.Compare a [op] [b] pos) (tE C env qB (mi.bind fun i => mx.bind fun xs => .ret (if neg then !(xs.any fun y => decide (y = i)) else xs.any fun y => decide (y = i)))) :=
  pe_imp (pe_cmpR ho ha hb hm) fun σ H Q _ ⟨S, g0, P, F, em, kk⟩ => ⟨S, g0, _, F, em, fun i g1 hi v S1 H1 F1 x1 hv => ⟨S1, g1, _, F1, hi, fun xs g2 px p S2 H2 F2 x2 rd => by
    obtain ⟨vs, hp, h2⟩ := rd _ S2 H2 F2 (Ex.refl S2)
    have ev : vs = xs.map V.int := flat_ints h2
    have hv : v = .int i := hv
    subst ev hv
    exact ⟨p, _, rfl, sq_seq hp, rfl, all_flat xs, fun _ => kk _ _ px _ S2 H2 F2 (x1.trans x2) (by rw [inV_int]; rfl)⟩⟩⟩
theorem xe_in {mi : W Int} {mx : W (List Int)} (ha : PE X a (tE C env qI mi)) (hb : PE X b (tQ C env k qI mx)) (hm : behindInMarks .In b = false := by with_unfolding_all rfl) : PE X (.Compare a [.In] [b] pos) (tE C env qB (mi.bind fun i => mx.bind fun xs => .ret (xs.any fun y => decide (y = i)))) := cq_in op_in_seq ha hb hm
theorem xe_nin {mi : W Int} {mx : W (List Int)} (ha : PE X a (tE C env qI mi)) (hb : PE X b (tQ C env k qI mx)) (hm : behindInMarks .NotIn b = false := by with_unfolding_all rfl) : PE X (.Compare a [.NotIn] [b] pos) (tE C env qB (mi.bind fun i => mx.bind fun xs => .ret !(xs.any fun y => decide (y = i)))) := cq_in op_notIn_seq ha hb hm
/-- data among data -/
def rInT (K : PySem.W.Frag) (neg : Bool) : R2 := fun x y H Q => ∃ d ds, Dp K H x d ∧ (Dp K H y (.list ds) ∧ SeqAt.shaped (.list ds) = true ∨ Dp K H y (.tuple ds) ∧ SeqAt.shaped (.tuple ds) = true) ∧ SeqAt.shaped d = true ∧ Q (.bl (if neg then !ds.any fun z => PyData.eqv z d else ds.any fun z => PyData.eqv z d)) H
theorem shaped_lt {ds : List PyData} (h : SeqAt.shaped (.list ds) = true) : SeqAt.shaped (.tuple ds) = true := by
  unfold SeqAt.shaped at h ⊢
  simpa [PyData.canLay0, PyData.depth] using h
theorem shaped_tl {ds : List PyData} (h : SeqAt.shaped (.tuple ds) = true) : SeqAt.shaped (.list ds) = true := by
  unfold SeqAt.shaped at h ⊢
  simpa [PyData.canLay0, PyData.depth] using h
theorem op_inT (hu : X.A.units + 65 < cLine) : OpR X (compareOp .In) (rInT X.K false) := by
  intro pins s σ H x y v u Q I rx ry h
  obtain ⟨d, ds, hd, he, sd, q⟩ := h
  obtain ⟨as, r1⟩ := Dp.reads I d x v hd rx
  rcases he with ⟨he, se⟩ | ⟨he, se⟩
  · obtain ⟨bs, r2⟩ := Dp.reads I (.list ds) y u he ry
    exact SeqAt.in_list_reads r2 r1 (SeqAt.canLay_of_shaped se) (SeqAt.canLay_of_shaped sd) (PyProof.Rows.room_in_shaped sd hu) ⟨.bl _, H, I, rfl, q⟩
  · obtain ⟨bs, r2⟩ := Dp.reads I (.tuple ds) y u he ry
    exact SeqAt.in_tuple_reads r2 r1 (SeqAt.canLay_of_shaped se) (SeqAt.canLay_of_shaped sd) (PyProof.Rows.room_in_shaped sd hu) ⟨.bl _, H, I, rfl, q⟩
theorem op_ninT (hu : X.A.units + 65 < cLine) : OpR X (compareOp .NotIn) (rInT X.K true) := by
  intro pins s σ H x y v u Q I rx ry h
  obtain ⟨d, ds, hd, he, sd, q⟩ := h
  obtain ⟨as, r1⟩ := Dp.reads I d x v hd rx
  rcases he with ⟨he, se⟩ | ⟨he, se⟩
  · obtain ⟨bs, r2⟩ := Dp.reads I (.list ds) y u he ry
    exact SeqAt.notIn_list_reads r2 r1 (SeqAt.canLay_of_shaped se) (SeqAt.canLay_of_shaped sd) (PyProof.Rows.room_in_shaped sd hu) ⟨.bl _, H, I, rfl, q⟩
  · obtain ⟨bs, r2⟩ := Dp.reads I (.tuple ds) y u he ry
    exact SeqAt.notIn_tuple_reads r2 r1 (SeqAt.canLay_of_shaped se) (SeqAt.canLay_of_shaped sd) (PyProof.Rows.room_in_shaped sd hu) ⟨.bl _, H, I, rfl, q⟩
theorem cq_inD {op : CmpOp} {neg : Bool} {mx : W (List β)} (D : Dt ra) (E : Dt rb) (ho : OpR X (compareOp op) (rInT X.K neg)) (ha : PE X a (tE C env ra ma)) (hb : PE X b (tQ C env k rb mx)) (hm : behindInMarks op b = false) (h1 : D.dep ≤ 64 := by decide) (h2 : E.dep < 64 := by decide) :
    PE X (.Compare a [op] [b] pos) (tE C env qB (ma.bind fun i => mx.bind fun xs => .ret (if neg then !(xs.any fun y => PyData.eqv (E.d y) (D.d i)) else xs.any fun y => PyData.eqv (E.d y) (D.d i)))) :=
  pe_imp (pe_cmpR ho ha hb hm) fun σ H Q _ ⟨S, g0, P, F, em, kk⟩ => ⟨S, g0, _, F, em, fun i g1 hi v S1 H1 F1 x1 hv => ⟨S1, g1, _, F1, hi, fun xs g2 px p S2 H2 F2 x2 rd => by
    obtain ⟨vs, hp, h3⟩ := rd _ S2 H2 F2 (Ex.refl S2)
    refine ⟨D.d i, xs.map E.d, Dp.up (x2.trans F2.e1) (D.rep hv), ?_, D.shaped h1 i, fun _ => kk _ _ px _ S2 H2 F2 (x1.trans x2) (by rw [List.any_map]; rfl)⟩
    have hall : DpAll X.K H2 vs (xs.map E.d) := dpAll (r := rb) (f := E.d) (fun h => E.rep h) (h3.mono fun _ _ z => rb.mono F2.e1 z)
    cases k with
    | true => exact .inl ⟨.lst (SqL.of hp) hall, (dL E).shaped (by show E.dep + 1 ≤ 64; omega) xs⟩
    | false => exact .inr ⟨.tup (TupAt.sq hp) hall, (dT E).shaped (by show E.dep + 1 ≤ 64; omega) xs⟩⟩⟩
theorem xe_inD {mx : W (List β)} (D : Dt ra) (E : Dt rb) (hu : X.A.units + 65 < cLine) (ha : PE X a (tE C env ra ma)) (hb : PE X b (tQ C env k rb mx)) (hm : behindInMarks .In b = false := by with_unfolding_all rfl) (h1 : D.dep ≤ 64 := by decide) (h2 : E.dep < 64 := by decide) :
    PE X (.Compare a [.In] [b] pos) (tE C env qB (ma.bind fun i => mx.bind fun xs => .ret (xs.any fun y => PyData.eqv (E.d y) (D.d i)))) := cq_inD D E (op_inT hu) ha hb hm h1 h2
theorem xe_ninD {mx : W (List β)} (D : Dt ra) (E : Dt rb) (hu : X.A.units + 65 < cLine) (ha : PE X a (tE C env ra ma)) (hb : PE X b (tQ C env k rb mx)) (hm : behindInMarks .NotIn b = false := by with_unfolding_all rfl) (h1 : D.dep ≤ 64 := by decide) (h2 : E.dep < 64 := by decide) :
    PE X (.Compare a [.NotIn] [b] pos) (tE C env qB (ma.bind fun i => mx.bind fun xs => .ret !(xs.any fun y => PyData.eqv (E.d y) (D.d i)))) := cq_inD D E (op_ninT hu) ha hb hm h1 h2

/-! ### built-in functions -/
/-- a call of a built-in function with one sequence -/
theorem xe_b1 {id : String} {R : List V → Hp → VK → Prop} {x : Str} {p : Pos} {mx : W (List α)} {f : List α → Option β} (hc : CallR X (.builtin id) R) (hv : bootBuiltins x = some (.builtin id)) (hg : Gl X x) (hm : X.mg x = none) (ha : PE X a (tQ C env k ra mx))
    (hr : ∀ (e0 : List Sl) S H σ p vs xs z Q, Fr C S H σ e0 → Lens H → Sq k H p vs → All2 (ra.p S) vs xs → f xs = some z → (∀ v S' H', Fr C S' H' σ e0 → Ex S S' → rb.p S' v z → Q v H') → R [.ref p] H Q)
    (hs : starEach [a] X.env = (false, eval a X.env) :: starEach [] X.env := by rfl) (hn : x ≠ "__name__" := by decide) (hdb : (x == ("__debug__" : Str)) = false := by decide) (hpl : (backTo pos (starEach [] X.env)).any (·.1) = false := by rfl) :
    PE X (.Call (.Name x p) [a] [] pos) (tE C env rb (mx.bind fun xs => ofO (f xs))) :=
  pe_imp (pe_callB hc hg hm hv (pa_cons (tQ_len ha) pa_nil hs) hn hdb hs hpl) fun σ H Q _ ⟨S, g0, P, F, em, kk⟩ => ⟨S, g0, _, F, em, fun xs g1 ⟨z, ez, pz⟩ p S1 H1 F1 x1 rd l1 => by
    obtain ⟨vs, hp, h2⟩ := rd _ S1 H1 F1 (Ex.refl S1)
    exact hr _ S1 H1 σ p vs xs z _ F1 l1 hp h2 ez fun v S' H' F' e' hv _ => kk z _ pz v S' H' F' (x1.trans e') hv⟩
theorem xe_t1 {id : String} {R : List V → Hp → VK → Prop} {x : Str} {p : Pos} {mx : W (List α)} {f : List α → Option β} (hc : CallR X (.type id) R) (hv : bootBuiltins x = some (.type id)) (hg : Gl X x) (hm : X.mg x = none) (ha : PE X a (tQ C env k ra mx))
    (hr : ∀ (e0 : List Sl) S H σ p vs xs z Q, Fr C S H σ e0 → Lens H → Sq k H p vs → All2 (ra.p S) vs xs → f xs = some z → (∀ v S' H', Fr C S' H' σ e0 → Ex S S' → rb.p S' v z → Q v H') → R [.ref p] H Q)
    (hs : starEach [a] X.env = (false, eval a X.env) :: starEach [] X.env := by rfl) (hn : x ≠ "__name__" := by decide) (hdb : (x == ("__debug__" : Str)) = false := by decide) (hpl : (backTo pos (starEach [] X.env)).any (·.1) = false := by rfl) :
    PE X (.Call (.Name x p) [a] [] pos) (tE C env rb (mx.bind fun xs => ofO (f xs))) :=
  pe_imp (pe_callTy hc hg hm hv (pa_cons (tQ_len ha) pa_nil hs) hn hdb hs hpl) fun σ H Q _ ⟨S, g0, P, F, em, kk⟩ => ⟨S, g0, _, F, em, fun xs g1 ⟨z, ez, pz⟩ p S1 H1 F1 x1 rd l1 => by
    obtain ⟨vs, hp, h2⟩ := rd _ S1 H1 F1 (Ex.refl S1)
    exact hr _ S1 H1 σ p vs xs z _ F1 l1 hp h2 ez fun v S' H' F' e' hv _ => kk z _ pz v S' H' F' (x1.trans e') hv⟩
/-- .. of one that can't fail -/
theorem tE_tot {f : α → β} (h : PE X e (tE C env rb (m.bind fun x => ofO (some (f x))))) : PE X e (tE C env rb (m.bind fun x => .ret (f x))) := by
  have e1 : (m.bind fun x => ofO (some (f x))) = (m.bind fun x => W.ret (f x)) := by
    funext g P
    show m g _ = m g _
    congr 1
    funext x g1
    exact congrFun (congrFun (ofO_some (f x)) g1) P
  rw [← e1]
  exact h
/-- sum of a tuple of ints -/
def rSumT (K : PySem.W.Frag) : List V → Hp → VK → Prop := fun vs H Q => ∃ (a : Addr) (ns : List Int), vs = [V.ref a] ∧ (SqL K H a (ns.map V.int) ∨ SqT K H a (ns.map V.int)) ∧ Q (.int ns.sum) H
theorem cr_sumT (hc : X.calm = true) : CallR X (.builtin "sum") (rSumT X.K) := by
  intro pins s σ H vs us Q I r h
  obtain ⟨a, ns, rfl, hs, q⟩ := h
  rcases hs with hs | hs
  · exact cr_sum hc pins s σ H _ us Q I r ⟨a, ns, rfl, hs, q⟩
  · obtain ⟨its, rv, hl, _⟩ := I.tuple hs
    rw [Vals.ref1 r]
    have hi := rv.ints
    obtain ⟨xs, e⟩ := hi.allInts.items
    have hn : numsOf (PySem.intItems xs).toList = ns := by rw [← e]; exact hi.numsOf
    rw [PySem.nums_intItems] at hn
    have hl' : s.heap.IsTuple a its.toArray := hl
    rw [e] at hl'
    refine PySem.W.ktm_sumG (I.ok.hd hc) hl' fun h' tk t' hk => ?_
    have := PySem.preSum_eq xs xs.size
    rw [PySem.preSum_eq, List.take_of_length_le (by simp), hn]
    exact ⟨.int _, H, I.kept hk, ⟨_, rfl⟩, q⟩
theorem xe_sum {p : Pos} {mx : W (List Int)} (hc : X.calm = true) (hg : Gl X "sum") (hm : X.mg "sum" = none) (ha : PE X a (tQ C env k qI mx)) (hs : starEach [a] X.env = (false, eval a X.env) :: starEach [] X.env := by rfl) :
    PE X (.Call (.Name "sum" p) [a] [] pos) (tE C env qI (mx.bind fun xs => .ret xs.sum)) :=
  tE_tot (xe_b1 (f := fun xs => some xs.sum) (cr_sumT hc) (by decide +kernel) hg hm ha (fun _ S H σ p vs xs z Q F _ hp h2 ez kk => ⟨p, xs, rfl, by rw [← flat_ints h2]; exact sq_seq hp, kk _ S H F (Ex.refl S) (by cases ez; rfl)⟩) hs)
theorem xe_all {p : Pos} {mx : W (List Bool)} (hc : X.calm = true) (hg : Gl X "all") (hm : X.mg "all" = none) (ha : PE X a (tQ C env true qB mx)) (hs : starEach [a] X.env = (false, eval a X.env) :: starEach [] X.env := by rfl) :
    PE X (.Call (.Name "all" p) [a] [] pos) (tE C env qB (mx.bind fun xs => .ret (xs.all id))) :=
  tE_tot (xe_b1 (f := fun xs => some (xs.all id)) (cr_all hc) (by decide +kernel) hg hm ha (fun _ S H σ p vs xs z Q F _ hp h2 ez kk => ⟨p, xs, rfl, by rw [← flat_bls h2]; exact SqL.of hp, kk _ S H F (Ex.refl S) (by cases ez; rfl)⟩) hs)
/-- tuple(xs) -/
theorem xe_tuple {p : Pos} {mx : W (List α)} (hg : Gl X "tuple") (hm : X.mg "tuple" = none) (ha : PE X a (tQ C env true ra mx)) (hs : starEach [a] X.env = (false, eval a X.env) :: starEach [] X.env := by rfl) :
    PE X (.Call (.Name "tuple" p) [a] [] pos) (tE C env (qT ra) mx) :=
  tE_tot (f := id) (xe_t1 (rb := qT ra) (f := some) RtU.call_tuple_ofU (by decide +kernel) hg hm ha (fun _ S H σ p vs xs z Q F _ hp h2 ez kk => ⟨p, vs, rfl, SqL.of hp, fun l o ho hl => by
    cases ez
    have ex := Ex.new (o := .frz o (.tup vs)) (F.e1.back hl)
    exact kk _ _ _ (F.new hl) ex ⟨l, vs, rfl, TupAt.new ho, h2.mono fun _ _ z => ra.mono ex z⟩⟩) hs)
/-- list(xs), a new list -/
theorem xn_list {p : Pos} {mx : W (List α)} (hg : Gl X "list") (hm : X.mg "list" = none) (ha : PE X a (tQ C env k ra mx)) (hs : starEach [a] X.env = (false, eval a X.env) :: starEach [] X.env := by rfl) :
    PE X (.Call (.Name "list" p) [a] [] pos) (tN C env ra mx) :=
  pe_imp (pe_callTy call_list_of hg hm (by decide +kernel) (pa_cons ha pa_nil hs) (by decide) (by decide) hs (by rfl)) fun σ H Q _ ⟨S, g0, P, F, em, kk⟩ => ⟨S, g0, _, F, em, fun xs g1 px p S1 H1 F1 x1 rd => by
    obtain ⟨vs, hp, h2⟩ := rd _ S1 H1 F1 (Ex.refl S1)
    exact ⟨p, vs, rfl, sq_seq hp, fun l hl _ => kk _ _ px l vs S1 H1 F1 x1 hl h2⟩⟩
/-! ints: abs, int, max, min of two -/
theorem xe_int1 {p : Pos} {mi : W Int} (hg : Gl X "int") (hm : X.mg "int" = none) (ha : PE X a (tE C env qI mi)) (hs : starEach [a] X.env = (false, eval a X.env) :: starEach [] X.env := by rfl) :
    PE X (.Call (.Name "int" p) [a] [] pos) (tE C env qI mi) :=
  pe_imp (pe_callTy call_int1 hg hm (by decide +kernel) (pa_cons ha pa_nil hs) (by decide) (by decide) hs (by rfl)) fun σ H Q _ ⟨S, g0, P, F, em, kk⟩ => ⟨S, g0, _, F, em, fun i g1 pi v S1 H1 F1 x1 hv => .inl ⟨i, by rw [show v = .int i from hv], fun _ => kk _ _ pi _ S1 H1 F1 x1 rfl⟩⟩
def b2 (b : Bool) : Int := if b = true then 1 else 0
theorem xe_intB {p : Pos} {mi : W Bool} (hg : Gl X "int") (hm : X.mg "int" = none) (ha : PE X a (tE C env qB mi)) (hs : starEach [a] X.env = (false, eval a X.env) :: starEach [] X.env := by rfl) :
    PE X (.Call (.Name "int" p) [a] [] pos) (tE C env qI (mi.bind fun b => .ret (b2 b))) :=
  pe_imp (pe_callTy call_int1 hg hm (by decide +kernel) (pa_cons ha pa_nil hs) (by decide) (by decide) hs (by rfl)) fun σ H Q _ ⟨S, g0, P, F, em, kk⟩ =>
    ⟨S, g0, _, F, em, fun b g1 pb v S1 H1 F1 x1 hv => .inr ⟨b, by rw [show v = .bl b from hv], fun _ => kk _ _ pb _ S1 H1 F1 x1 rfl⟩⟩
theorem xe_abs {p : Pos} {mi : W Int} (hg : Gl X "abs") (hm : X.mg "abs" = none) (ha : PE X a (tE C env qI mi)) (hs : starEach [a] X.env = (false, eval a X.env) :: starEach [] X.env := by rfl) :
    PE X (.Call (.Name "abs" p) [a] [] pos) (tE C env qI (mi.bind fun i => .ret (i.natAbs : Int))) :=
  pe_imp (pe_callB call_abs hg hm (by decide +kernel) (pa_cons ha pa_nil hs) (by decide) (by decide) hs (by rfl)) fun σ H Q _ ⟨S, g0, P, F, em, kk⟩ =>
    ⟨S, g0, _, F, em, fun i g1 pi v S1 H1 F1 x1 hv => ⟨i, by rw [show v = .int i from hv], fun _ => kk _ _ pi _ S1 H1 F1 x1 (by
      show V.int _ = V.int _
      congr 1
      split <;> omega)⟩⟩
theorem xe_two {id : String} {x : Str} {p : Pos} {mi mj : W Int} {g : Int → Int → Int} (hc : CallR X (.builtin id) (fun xs H Q => ∃ i j, xs = [.int i, .int j] ∧ Q (.int (g i j)) H)) (hv : bootBuiltins x = some (.builtin id)) (hg : Gl X x) (hm : X.mg x = none) (ha : PE X a (tE C env qI mi)) (hb : PE X b (tE C env qI mj))
    (hs : starEach [a, b] X.env = (false, eval a X.env) :: starEach [b] X.env := by rfl) (hs2 : starEach [b] X.env = (false, eval b X.env) :: starEach [] X.env := by rfl) (hn : x ≠ "__name__" := by decide) (hdb : (x == ("__debug__" : Str)) = false := by decide) (hpl : (backTo pos (starEach [b] X.env)).any (·.1) = false := by rfl) :
    PE X (.Call (.Name x p) [a, b] [] pos) (tE C env qI (mi.bind fun i => mj.bind fun j => .ret (g i j))) :=
  pe_imp (pe_callB hc hg hm hv (pa_cons ha (pa_cons hb pa_nil hs2) hs) hn hdb hs hpl) fun σ H Q _ ⟨S, g0, P, F, em, kk⟩ =>
    ⟨S, g0, _, F, em, fun i g1 hi v S1 H1 F1 x1 hv => ⟨S1, g1, _, F1, hi, fun j g2 pj w S2 H2 F2 x2 hw => ⟨i, j, by rw [show v = .int i from hv, show w = .int j from hw], fun _ => kk _ _ pj _ S2 H2 F2 (x1.trans x2) rfl⟩⟩⟩
theorem xe_max2 {p : Pos} {mi mj : W Int} (hc : X.calm = true) (hg : Gl X "max") (hm : X.mg "max" = none) (ha : PE X a (tE C env qI mi)) (hb : PE X b (tE C env qI mj))
    (hs : starEach [a, b] X.env = (false, eval a X.env) :: starEach [b] X.env := by rfl) (hs2 : starEach [b] X.env = (false, eval b X.env) :: starEach [] X.env := by rfl) (hpl : (backTo pos (starEach [b] X.env)).any (·.1) = false := by rfl) : PE X (.Call (.Name "max" p) [a, b] [] pos) (tE C env qI (mi.bind fun i => mj.bind fun j => .ret (if j > i then j else i))) :=
  xe_two (call_max2 hc) (by decide +kernel) hg hm ha hb hs hs2 (by decide) (by decide) hpl
theorem xe_min2 {p : Pos} {mi mj : W Int} (hc : X.calm = true) (hg : Gl X "min") (hm : X.mg "min" = none) (ha : PE X a (tE C env qI mi)) (hb : PE X b (tE C env qI mj))
    (hs : starEach [a, b] X.env = (false, eval a X.env) :: starEach [b] X.env := by rfl) (hs2 : starEach [b] X.env = (false, eval b X.env) :: starEach [] X.env := by rfl) (hpl : (backTo pos (starEach [b] X.env)).any (·.1) = false := by rfl) : PE X (.Call (.Name "min" p) [a, b] [] pos) (tE C env qI (mi.bind fun i => mj.bind fun j => .ret (if j < i then j else i))) :=
  xe_two (call_min2 hc) (by decide +kernel) hg hm ha hb hs hs2 (by decide) (by decide) hpl
/-! isinstance, the class a built-in one -/
/-- the type of what stands for data -/
structure Ty {α : Type} (r : Rp α) (t : String) : Prop where
  ty : ∀ {K : PySem.W.Frag} {H : Hp} {v : V} {a : α}, r.p H v a → RtU.TyU K H v (.type t)
theorem tyI : Ty qI "int" := ⟨fun {K H v a} h => by rw [show v = .int a from h]; exact .inl (.int a)⟩
theorem tyB : Ty qB "bool" := ⟨fun {K H v a} h => by rw [show v = .bl a from h]; exact .inl (.bl a)⟩
theorem tyN : Ty qN "NoneType" := ⟨fun {K H v a} h => by rw [show v = .non from h]; exact .inl .non⟩
theorem tyS : Ty qS "str" := ⟨fun {K H v a} h => by rw [show v = .str a from h]; exact .inl (.str a)⟩
theorem tyT : Ty (qT r) "tuple" := ⟨fun {K H v a} ⟨p, vs, e, hp, _⟩ => by rw [e]; exact .inr ⟨rfl, _, hp.choose, _, rfl, hp.choose_spec.2⟩⟩
theorem tyL : Ty (qL r) "list" := ⟨fun {K H v a} ⟨p, vs, e, hp, _⟩ => by rw [e]; exact .inl (.lst hp)⟩
theorem tyP : Ty (qP ra rb) "tuple" := ⟨fun {K H v a} ⟨p, x, y, e, hp, _⟩ => by rw [e]; exact .inr ⟨rfl, _, hp.choose, _, rfl, hp.choose_spec.2⟩⟩
theorem tyP3 : Ty (qP3 ra rb rc) "tuple" := ⟨fun {K H v a} ⟨p, x, y, z, e, hp, _⟩ => by rw [e]; exact .inr ⟨rfl, _, hp.choose, _, rfl, hp.choose_spec.2⟩⟩
theorem xe_isi {t n : String} {ans : Bool} {x : Str} {p p2 : Pos} (T : Ty r t) (hg : Gl X "isinstance") (hm : X.mg "isinstance" = none) (ha : PE X a (tE C env r m)) (hgx : Gl X x) (hmx : X.mg x = none) (hv : bootBuiltins x = some (.type n)) (hk : kitB t n = some ans)
    (hn : x ≠ "__name__" := by decide) (hdb : (x == ("__debug__" : Str)) = false := by decide) (hs : starEach [a, .Name x p2] X.env = (false, eval a X.env) :: starEach [.Name x p2] X.env := by rfl) (hs2 : starEach [.Name x p2] X.env = (false, eval (.Name x p2) X.env) :: starEach [] X.env := by rfl) (hpl : (backTo pos (starEach [.Name x p2] X.env)).any (·.1) = false := by rfl) :
    PE X (.Call (.Name "isinstance" p) [a, .Name x p2] [] pos) (tE C env qB (m.bind fun _ => .ret ans)) :=
  pe_imp (pe_callB RtU.call_isiU hg hm (by decide +kernel) (pa_cons ha (pa_cons (pe_bltn (v := .ty n) hgx hmx hv rfl hn hdb) pa_nil hs2) hs) (by decide) (by decide) hs hpl) fun σ H Q _ ⟨S, g0, P, F, em, kk⟩ =>
    ⟨S, g0, _, F, em, fun y g1 py v S1 H1 F1 x1 hv => ⟨v, n, t, ans, rfl, T.ty (r.mono F1.e1 hv), hk, fun _ => kk _ _ py _ S1 H1 F1 x1 rfl⟩⟩
/-! sorted of ints -/
def insI (x : Int) : List Int → List Int
  | [] => [x]
  | y :: ys => if x ≤ y then x :: y :: ys else y :: insI x ys
def sortI : List Int → List Int
  | [] => []
  | x :: xs => insI x (sortI xs)
theorem insI_perm (x : Int) : ∀ ys : List Int, (insI x ys).Perm (x :: ys)
  | [] => .refl _
  | y :: ys => by
    unfold insI
    split
    · exact .refl _
    · exact ((insI_perm x ys).cons y).trans (.swap x y ys)
theorem sortI_perm : ∀ xs : List Int, (sortI xs).Perm xs
  | [] => .refl _
  | x :: xs => (insI_perm x (sortI xs)).trans ((sortI_perm xs).cons x)
theorem insI_sorted (x : Int) : ∀ ys : List Int, ys.Pairwise (· ≤ ·) → (insI x ys).Pairwise (· ≤ ·)
  | [], _ => by simp [insI]
  | y :: ys, h => by
    unfold insI
    have h' := List.pairwise_cons.mp h
    split
    · rename_i hxy
      refine List.pairwise_cons.mpr ⟨fun z hz => ?_, h⟩
      rcases List.mem_cons.mp hz with e | hz
      · rw [e]; exact hxy
      · exact Int.le_trans hxy (h'.1 z hz)
    · rename_i hxy
      refine List.pairwise_cons.mpr ⟨fun z hz => ?_, insI_sorted x ys h'.2⟩
      rcases List.mem_cons.mp ((insI_perm x ys).mem_iff.mp hz) with e | hz
      · rw [e]; omega
      · exact h'.1 z hz
theorem sortI_sorted : ∀ xs : List Int, (sortI xs).Pairwise (· ≤ ·)
  | [] => .nil
  | x :: xs => insI_sorted x _ (sortI_sorted xs)
theorem sorted_unique : ∀ {xs ys : List Int}, xs.Perm ys → xs.Pairwise (· ≤ ·) → ys.Pairwise (· ≤ ·) → xs = ys
  | [], ys, h, _, _ => (List.Perm.nil_eq h)
  | x :: xs, [], h, _, _ => absurd h.length_eq (by simp)
  | x :: xs, y :: ys, h, h1, h2 => by
    have a1 := List.pairwise_cons.mp h1
    have a2 := List.pairwise_cons.mp h2
    have e : x = y := by
      have m1 : x ∈ y :: ys := h.mem_iff.mp List.mem_cons_self
      have m2 : y ∈ x :: xs := h.mem_iff.mpr List.mem_cons_self
      have l1 : y ≤ x := by
        rcases List.mem_cons.mp m1 with e | m
        · omega
        · exact a2.1 x m
      have l2 : x ≤ y := by
        rcases List.mem_cons.mp m2 with e | m
        · omega
        · exact a1.1 y m
      omega
    subst e
    rw [sorted_unique (List.Perm.cons_inv h) a1.2 a2.2]
def rSortT (K : PySem.W.Frag) : List V → Hp → VK → Prop := fun vs H Q => ∃ (a : Addr) (ns : List Int), vs = [V.ref a] ∧ SqL K H a (ns.map V.int) ∧ ∀ (p : Addr), H p = none → Q (.ref p) (upd H p (.lst ((sortI ns).map V.int)))
theorem cr_sortL : CallR X (.builtin "sorted") (rSortT X.K) := by
  intro pins s σ H vs us Q I r h
  obtain ⟨a, ns, rfl, hs, q⟩ := h
  exact cr_sortedI pins s σ H _ us Q I r ⟨a, ns, rfl, hs, fun ns' p h1 h2 hp => by
    rw [sorted_unique (h1.trans (sortI_perm ns).symm) h2 (sortI_sorted ns)]
    exact q p hp⟩
theorem xn_sorted {p : Pos} {mx : W (List Int)} (hg : Gl X "sorted") (hm : X.mg "sorted" = none) (ha : PE X a (tQ C env true qI mx)) (hs : starEach [a] X.env = (false, eval a X.env) :: starEach [] X.env := by rfl) :
    PE X (.Call (.Name "sorted" p) [a] [] pos) (tN C env qI (mx.bind fun xs => .ret (sortI xs))) :=
  pe_imp (pe_callB cr_sortL hg hm (by decide +kernel) (pa_cons ha pa_nil hs) (by decide) (by decide) hs (by rfl)) fun σ H Q _ ⟨S, g0, P, F, em, kk⟩ => ⟨S, g0, _, F, em, fun xs g1 px p S1 H1 F1 x1 rd => by
    obtain ⟨vs, hp, h2⟩ := rd _ S1 H1 F1 (Ex.refl S1)
    exact ⟨p, xs, rfl, by rw [← flat_ints h2]; exact SqL.of hp, fun l hl _ => kk _ _ px l _ S1 H1 F1 x1 hl (All2.of_map _)⟩⟩
end
end Rt

set_option maxRecDepth 100000
set_option maxHeartbeats 4000000
/-! RtE: enumerate of a tuple. -/
namespace RtE
open PySem PySem.Spec PySem.Calls PyProof.Rows L2
abbrev itT (l : Addr) : Obj := { cls := .type "tuple_iterator", data := .fields #[.ref l, .int 0 0] }
abbrev enO (n : Addr) : Obj := { cls := .type "enumerate", data := .fields #[.none, .bool false, .ref n, rawInt 0, .none, .none] }
theorem new_meets (l : Addr) (its : Array Value) :
    Meets (Builtin.«enumerate.__new__» ⟨[.type "enumerate", .ref l], []⟩) (fun _ R s => s.heap.IsTuple l its ∧
      R (.ok (.ret (.ref (s.heap.push (itT l)).objs.size))) { s with heap := (s.heap.push (itT l)).push (enO s.heap.objs.size) }) :=
  .of_wp fun prog w A R s hs => by
    obtain ⟨hp, g, d, tk, os⟩ := s
    obtain ⟨hL, h⟩ := hs
    obtain ⟨o, hl, hc, n, hd⟩ := id hL
    have hsub := sub_enumerate
    wp_walk
    refine wpAny_stack_any fun st => wpAny_pure ?_
    split
    · rename_i c _ _ _ _ _
      cases (c == Value.type "enumerate")
      · wp_walk using AutoSeq1.wpAny_loadPart' hl, wpAny_pyIter_tuple hL
        exact ⟨_, rfl, h⟩
      · wp_walk using AutoSeq1.wpAny_loadPart' hl, wpAny_pyIter_tuple hL
        exact ⟨_, rfl, h⟩
    · wp_walk using AutoSeq1.wpAny_loadPart' hl, wpAny_pyIter_tuple hL
      exact ⟨_, rfl, h⟩
section
variable {prog : Program} {w : World} {A : Around} {E : Value → Shared → Prop} {s : Shared}
theorem call_en {l : Addr} {its : Array Value} {Q : Value → Shared → Prop} (hL : s.heap.IsTuple l its)
    (h : ∀ h', IsEnum h' (s.heap.objs.size + 1) s.heap.objs.size 0 .none → h'.IsTupleIter s.heap.objs.size l 0 → h'.objs.size = s.heap.objs.size + 2 →
      (∀ b o, s.heap.get? b = some o → h'.get? b = some o) → Q (.ref (s.heap.objs.size + 1)) { s with heap := h' }) :
    wpAny (model prog w) A (call (.type "enumerate") [.ref l]) Q E s := by
  refine callType_new F.called_enumerate (by decide) (F.typeCall_enumerate_1 _) (F.newCall_enumerate_1 _) (fun obj => F.args_object_init_2 obj _) F.entry_enumerate_new (new_meets l its) ⟨hL, ?_⟩
  have hz : (s.heap.push (itT l)).objs.size = s.heap.objs.size + 1 := Heap.size_push ..
  show _ ∧ _
  rw [hz]
  have he : IsEnum ((s.heap.push (itT l)).push (enO s.heap.objs.size)) (s.heap.objs.size + 1) s.heap.objs.size 0 .none := by
    have := Heap.get?_push_size (s.heap.push (itT l)) (o := enO s.heap.objs.size) rfl
    rw [hz] at this
    exact this
  exact ⟨⟨_, he, rfl⟩, h _ he ⟨_, Heap.get?_push_of_some _ (Heap.get?_push_size _ rfl), rfl, rfl⟩ (by rw [Heap.size_push, hz]) fun b o x => Heap.get?_push_of_some _ (Heap.get?_push_of_some _ x)⟩
end
/-- a tuple's items, each in a new pair with its number -/
def ItT (K : PySem.W.Frag) (a : Addr) : It where
  go i H := ∃ (xs : List V) (x : V), SqT K H a xs ∧ xs[i]? = some x
  yld i H v H' := ∃ T x, v = .ref T ∧ H T = none ∧ H' = upd H T (.tup [.int (i : Nat), x]) ∧ ∀ xs, SqT K H a xs → xs[i]? = some x
  stop i H := ∃ xs : List V, SqT K H a xs ∧ xs.length ≤ i
theorem turn {P : Program} {w : World} {K : PySem.W.Frag} {elts : List Expr} {kk : Nat} {tpos : Pos} (a e it : Addr) :
    Turn P w K (.Tuple elts kk tpos) (ItT K a) [e, it] e (fun i h => (∃ old, IsEnum h e it ((i : Nat) : Int) old) ∧ h.IsTupleIter it a i ∧ e ≠ it) where
  mem := by simp
  obj := fun i h st b hb => by
    obtain ⟨⟨old, he⟩, ⟨o, ho, hc, hd⟩, _⟩ := st
    rcases (show b = e ∨ b = it by simpa using hb) with z | z
    · rw [z]
      exact ⟨_, he, fun v q => nomatch q⟩
    · rw [z]
      exact ⟨o, ho, fun v q => by rw [hd] at q; cases q⟩
  keep := fun i h h' st k => let ⟨⟨old, he⟩, hi, hne⟩ := st; ⟨⟨old, k e (by simp) _ he⟩, hi.at fun o q => k it (by simp) o q, hne⟩
  item := by
    intro X hP hw hK hc i pins s σ H E I hf st hg
    subst hP hw hK
    obtain ⟨⟨old, he⟩, hit, hne⟩ := st
    obtain ⟨xs, x, hq, hx⟩ := hg
    obtain ⟨its, rv, p, hz⟩ := I.tuple hq
    obtain ⟨u, hu, ru⟩ := rv.get hx
    have hel : e < s.heap.objs.size := Heap.lt_size he
    have hil : it < s.heap.objs.size := let ⟨_, q, _⟩ := hit; Heap.lt_size q
    have p' : s.heap.IsTuple a its.toArray := p
    have hat : a ≠ it := fun z => by
      obtain ⟨o1, q1, q2, _⟩ := hit
      obtain ⟨o2, q3, q4, _⟩ := p'
      rw [z, q1] at q3
      cases q3
      rw [q2] at q4
      exact absurd q4 (by decide)
    have hea : e ≠ a := fun z => by
      obtain ⟨o2, q3, q4, _⟩ := p'
      rw [← z, show s.heap.get? e = _ from he] at q3
      cases q3
      exact absurd q4 (by show ¬ (Value.type "enumerate" = Value.type "tuple"); decide)
    have D := Draws.tuple (prog := X.prog) (w := X.w) (A := X.A.in1) (I.ok.hd hc) it a hat its.toArray
    have hlt : i < its.toArray.size := by
      have := (List.getElem?_eq_some_iff.mp hu).1
      simpa using this
    refine wpAny_pyNext_enum_itemD D he ⟨hit, p'⟩ hlt hne (by simp [hne, hea]) fun x' h' tk hx' ho hst hT hsz hk => ?_
    have ex : x' = u := by
      have : its.toArray[i]? = some u := by simpa using hu
      rw [this] at hx'
      exact (Option.some.inj hx').symm
    subst ex
    refine ⟨_, rfl, wpAny_letOwnedTupleGo_enum (s := { s with heap := h', toks := tk + 1 }) ho fun h'' he' sb => ?_⟩
    have hT2 := (sb.2 _ (Nat.ne_of_gt hel)).trans hT
    have new : ObjOk X.prog X.w (upd H s.heap.objs.size (.tup [.int (i : Nat), x])) h'' s.heap.objs.size (.tup [.int (i : Nat), x]) :=
      ⟨by show 2 ≤ sizeLine; decide, [.int i tk, x'], .cons ⟨_, rfl⟩ (.cons ru .nil), ⟨_, hT2, rfl, _, rfl⟩⟩
    have I1 : Inv X pins σ (upd H s.heap.objs.size (.tup [.int (i : Nat), x])) { s with heap := h'', toks := tk + 1 } :=
      I.turnedNew (ch := [e, it]) (fun b ob hb q => (sb.2 b (fun z => hb (by simp [z]))).trans (hk b ob (fun z => hb (by simp [z])) (fun z => hb (by simp [z])) q)) hf (Nat.le_refl _) new
    refine ⟨.ref s.heap.objs.size, _, I1, rfl, ⟨_, x, rfl, I.hok.fresh (Nat.le_refl _), rfl, fun ys hy => by rw [I.tuple_inj hy hq]; exact hx⟩, ⟨⟨x', ?_⟩, hst.1.at fun o q => (sb.2 it (Ne.symm hne)).trans q, hne⟩, fun b hb => ?_⟩
    · rw [show ((i + 1 : Nat) : Int) = (i : Int) + 1 by omega]
      exact he'
    · have hb' : b < s.heap.objs.size := by
        rcases (show b = e ∨ b = it by simpa using hb) with z | z
        · rw [z]; exact hel
        · rw [z]; exact hil
      rw [upd_ne (Nat.ne_of_lt hb')]
      exact (hf b hb).1
  done := by
    intro X hP hw hK hc i pins s σ H E I hf st hg
    subst hP hw hK
    obtain ⟨⟨old, he⟩, hit, hne⟩ := st
    obtain ⟨xs, hq, hx⟩ := hg
    obtain ⟨its, rv, p, hz⟩ := I.tuple hq
    obtain ⟨f0, f1, f2, f3, f4, f5⟩ := hf it (by simp)
    have hl := rv.length
    have p' : s.heap.IsTuple a its.toArray := p
    have hat : a ≠ it := fun z => by
      obtain ⟨o1, q1, q2, _⟩ := hit
      obtain ⟨o2, q3, q4, _⟩ := p'
      rw [z, q1] at q3
      cases q3
      rw [q2] at q4
      exact absurd q4 (by decide)
    -- the iterator stands behind the last item, or at it
    have D0 : Draws X.prog X.w X.A.in1 it [it, a] i (fun _ _ => False) (fun j h => j = i ∧ h.IsTupleIter it a i ∧ h.IsTuple a its.toArray) := by
      have D := Draws.tuple (prog := X.prog) (w := X.w) (A := X.A.in1) (I.ok.hd hc) it a hat its.toArray
      refine ⟨fun j h st => D.live i h st.2, fun j h h' st k => ⟨st.1, D.frame i h h' st.2 k⟩, fun j s' Q E' hj st _ => absurd st.1 (Nat.ne_of_lt hj), fun s' Q E' st hQ => ?_⟩
      exact wpAny_nextOf_tuple_end (I.ok.hd hc) st.2.1 st.2.2 (by simp; omega) hQ
    exact wpAny_pyNext_enum_endD D0 he ⟨rfl, hit, p'⟩ fun h' eb => ⟨rfl, I.turned (t' := s.toks) (fun b o hb q => eb b o hb q) f0 f1 f3 f4 f5⟩
  self := fun A i s Q E st h => let ⟨⟨_, he⟩, _⟩ := st; wpAny_pyIter_enum he h
def iEnT (K : PySem.W.Frag) (ta : TA) : TI := fun σ H R => ta σ H fun vs H1 => ∃ a xs, vs = [.ref a] ∧ SqT K H1 a xs ∧ R (ItT K a) H1
theorem pi_en {X : Cx} {e : Expr} {ta : TA} {p pos tpos : Pos} {elts : List Expr} {kk : Nat} (hg : Gl X "enumerate") (hm : X.mg "enumerate" = none) (ha : PA X [e] ta) (hs : starEach [e] X.env = [(false, eval e X.env)] := by rfl) :
    PI X (.Tuple elts kk tpos) (.Call (.Name "enumerate" p) [e] [] pos) (iEnT X.K ta) := by
  refine ⟨fun pins s σ H R I h => ?_⟩
  refine Call_ (ld_blt I hg hm boot_enumerate (PyProof.Rows.callWith_type1 (thn (ha.run pos pins s σ H _ I h) fun us s1 ⟨vs, H1, I1, r1, q1⟩ => ?_) hs rfl))
  obtain ⟨a, xs, ex, hq, q⟩ := q1
  subst ex
  cases r1 with
  | cons r rr =>
    cases rr
    cases r
    obtain ⟨its, rv, p', hz⟩ := I1.tuple hq
    refine call_en (show s1.heap.IsTuple a its.toArray from p') fun h' he hit hsz hk => wpAny_pyIter_enum he ?_
    have I2 : Inv X pins σ H1 { s1 with heap := h' } := I1.kept (t' := s1.toks) hk
    refine ⟨s1.heap.objs.size + 1, [s1.heap.objs.size + 1, s1.heap.objs.size], _, _, H1, rfl, I2, turn a (s1.heap.objs.size + 1) s1.heap.objs.size, ⟨⟨.none, he⟩, hit, Nat.succ_ne_self _⟩, fun b hb => ?_, q⟩
    have hle : s1.heap.objs.size ≤ b := by
      rcases (show b = s1.heap.objs.size + 1 ∨ b = s1.heap.objs.size by simpa using hb) with z | z
      · rw [z]; exact Nat.le_add_right _ _
      · rw [z]; exact Nat.le_refl _
    exact I1.fpOk hle (I1.hok.fresh hle)
end RtE

set_option maxRecDepth 100000
set_option maxHeartbeats 4000000
/-! RtP: what a def promises where something is known of what stands around the call. -/
namespace Rt
open PySem L2 PySem.Spec PyProof.Rows
/-- what a call deeper keeps -/
def Stb (π : Around → Prop) : Prop := ∀ A env, π A → π (A.deeper env)
theorem stb_true : Stb fun _ => True := fun _ _ _ => True.intro
theorem stb_guards : Stb fun A => A.guards = some [] := fun _ _ h => h
/-- a def's promise, called where π holds -/
structure FnP (π : Around → Prop) (P : Program) (w : World) (K : PySem.W.Frag) (mg : Str → Option Value) (base : Heap) (CX : CXT) (k : Nat) (f : Addr) (fd : FuncData) (ps : List Str) (sp : Sp) : Prop where
  ln : ∀ vs H Q E, sp vs H Q E → vs.length = ps.length
  go : ∀ (A : Around) (outer : List Env) (s : Shared) (H : Hp) (as : Args) (us : List Value) (vs : List V) (Q : VK) (E : XK), π A → Room k A → Env0 P w K mg base A outer s H → BindsTo s fd as (ps.zip us) → Vals vs us → sp vs H Q E →
    codeAny (model P w) A (.call (.ref f) as) (CR CX outer P w H s Q E) s
section
variable {π : Around → Prop} {P : Program} {w : World} {K : PySem.W.Frag} {mg : Str → Option Value} {base : Heap} {CX : CXT} {k : Nat} {f : Addr} {fd : FuncData} {ps : List Str} {sp : Sp}
theorem FnP.ok (F : FnP (fun _ => True) P w K mg base CX k f fd ps sp) : FnOk P w K mg base CX k f fd ps sp := ⟨F.ln, fun A outer s H as us vs Q E r e b v q => F.go A outer s H as us vs Q E True.intro r e b v q⟩
theorem FnP.of (F : FnOk P w K mg base CX k f fd ps sp) : FnP π P w K mg base CX k f fd ps sp := ⟨F.len, fun A outer s H as us vs Q E _ r e b v q => F.run A outer s H as us vs Q E r e b v q⟩
theorem FnP.more {j : Nat} (F : FnP π P w K mg base CX j f fd ps sp) (h : j ≤ k) : FnP π P w K mg base CX k f fd ps sp := ⟨F.ln, fun A outer s H as us vs Q E hp r e b v q => F.go A outer s H as us vs Q E hp (r.mono h) e b v q⟩
/-- a def by its body -/
theorem fnP_of {name qual : Str} {params : Arguments} {body : List Stmt} {scope : Scope} {dV kV doc pm cdv ct oc : Value} {an od : Option Addr} {osl : Array (Option Value)} {N : List Str} (sπ : Stb π)
    (lk : K.lookup f = some ⟨oc, od, .func (PySem.W.fnOf name qual params body scope dV kV doc pm an cdv ct), osl⟩) (hcd : PySem.W.codeIn K cdv qual = true) (S : FnScope N ps scope) (ln : ∀ vs H Q E, sp vs H Q E → vs.length = ps.length)
    (hbody : ∀ (A : Around) (outer : List Env) (s : Shared) (H : Hp) (vs : List V) (Q : VK) (E : XK), π (A.deeper (envOfC qual scope s.heap.objs.size f cdv)) → Room k (A.deeper (envOfC qual scope s.heap.objs.size f cdv)) → sp vs H Q E →
      ∃ t, PSs (cxOf CX P w K mg base N qual scope f cdv A outer s H E) body t ∧ t { nx := fun _ H' => Q .non H', rt := Q } (start N vs) H) :
    FnP π P w K mg base CX (k + 1) f (PySem.W.fnOf name qual params body scope dV kV doc pm an cdv ct) ps sp := by
  refine ⟨ln, fun A outer s H as us vs Q E hp hr e0 hb r q => ?_⟩
  have hl := ln _ _ _ _ q
  have kx : K.In s.heap := e0.mod.kin.keeps fun b o e => (e0.bs b o e).1
  have hkind : ∀ y ∈ ps.zip us, scope.names.lookup y.1 = some .local ∨ (scope.names.lookup y.1 = some .cell ∧ ((cellsFrom (s.heap.objs.size + 1) scope.names []).lookup y.1).isSome = true) := fun y hy =>
    (S.par y.1 (List.of_mem_zip (show (y.1, y.2) ∈ ps.zip us from hy)).1).imp id fun z => ⟨z, PySem.W.cellsFrom_some _ _ _ (.inl z)⟩
  refine codeAny_call_function hr.depth (kx _ _ lk) rfl S.co S.gen rfl (PySem.W.codeRec_of kx hcd) (hb _ _ _ _ (wpAny_newFunctionEnv_cells S.kind hkind fun env he s1 x => ?_))
  subst he
  refine ⟨(e0.mod.nolimit.keeps fun b o e => (e0.bs b o e).1).keeps x.toInCall.keep, codeAny_func ?_⟩
  obtain ⟨t, ht, ht2⟩ := hbody A outer s H vs Q E (sπ _ _ hp) (hr.deeper _) q
  refine wpAny_mono (ht.run [] s1 (start N vs) H _ (inv_start S hr.hd e0 hl r x) ht2) (fun fl s' hs => ?_) fun e s' hs => hs
  cases fl with
  | ret u => exact let ⟨v, _, H', J, rv, z⟩ := hs; ⟨v, H', J.os, J.bare, J.base, J.hok, rv, z⟩
  | next => exact let ⟨_, H', J, z⟩ := hs; ⟨V.non, H', J.os, J.bare, J.base, J.hok, rfl, z⟩
  | brk => exact let ⟨_, _, _, z⟩ := hs; z.elim
  | cont => exact let ⟨_, _, _, z⟩ := hs; z.elim
theorem funP_ok {x qual : Str} {st : Stmt} {N : List Str} (sπ : Stb π) (F : Fun K x qual st f fd) (S : FnScope N ps (defScope st)) (ln : ∀ vs H Q E, sp vs H Q E → vs.length = ps.length)
    (hbody : ∀ (cdv : Value) (A : Around) (outer : List Env) (s : Shared) (H : Hp) (vs : List V) (Q : VK) (E : XK), π (A.deeper (envOfC qual (defScope st) s.heap.objs.size f cdv)) → Room k (A.deeper (envOfC qual (defScope st) s.heap.objs.size f cdv)) → sp vs H Q E →
      ∃ t, PSs (cxOf CX0 P w K mg base N qual (defScope st) f cdv A outer s H E).nox (defBody st) t ∧ t { nx := fun _ H' => Q .non H', rt := Q } (start N vs) H) : FnP π P w K mg base CX0 (k + 1) f fd ps sp := by
  obtain ⟨oc, od, kV, doc, pm, an, cdv, ct, osl, rfl, lk, hcd⟩ := F.ex
  exact fnP_of sπ lk hcd S ln fun A outer s H vs Q E hp hr q => let ⟨t, h1, h2⟩ := hbody cdv A outer s H vs Q E hp hr q; ⟨t, h1.nox, h2⟩
end
section
variable {X : Cx} {π : Around → Prop} {CX : CXT} {k : Nat} {f : Addr} {fd : FuncData} {ps : List Str} {sp : Sp} {dvs : List V} {ds : List Value} {E : XK} {x : Str} {p pos : Pos} {e : Expr} {es : List Expr} {t : TA}
theorem run_fnP {pins : List (Addr × Obj)} {σ : L2.St} {H : Hp} {s : Shared} {Q : VK} {us : List Value} {vs : List V} (F : FnP π X.prog X.w X.K X.mg X.base CX k f fd ps sp) (hp : π X.A) (hr : Room k X.A) (hb : Binds X.K fd ps ds) (hd : Vals dvs ds) (hx : Passes CX X E)
    (I : Inv X pins σ H s) (r : Vals vs us) (h : sp (vs ++ dvs) H Q E) : wpAny (model X.prog X.w) X.A (call (.ref f) us) (EP X pins σ Q) X.xe s := by
  have hl : (us ++ ds).length = ps.length := (r.append hd).length.symm.trans (F.ln _ _ _ _ h)
  refine wpAny_call (codeAny_mono (F.go X.A X.stack s H ⟨us, []⟩ (us ++ ds) (vs ++ dvs) Q E hp hr I.env0 (hb s us I.kIn hl) (r.append hd) h) fun r s' hq => ?_)
  match r, hq with
  | .error e, hq => exact hx pins σ H s e s' I hq
  | .ok (.ret u), hq => exact I.after hq
  | .ok .next, hq => exact False.elim hq
  | .ok .brk, hq => exact False.elim hq
  | .ok .cont, hq => exact False.elim hq
theorem pe_callP (F : FnP π X.prog X.w X.K X.mg X.base CX k f fd ps sp) (hp : π X.A) (hr : Room k X.A) (hg : Gl X x) (hm : X.mg x = some (.ref f)) (hk : PySem.W.keepIn X.K (.ref f) = true) (hb : Binds X.K fd ps ds) (hd : Vals dvs ds) (hx : Passes CX X E)
    (ha : PA X (e :: es) t) (hdb : (x == ("__debug__" : Str)) = false := by decide) (he : starEach (e :: es) X.env = (false, eval e X.env) :: starEach es X.env := by rfl) (hpl : (backTo pos (starEach es X.env)).any (·.1) = false := by rfl) :
    PE X (.Call (.Name x p) (e :: es) [] pos) (tCall sp dvs E t) :=
  ⟨fun pins s σ H Q I h => wpAny_Call_Name_kw (ld_glob I hg hm (PySem.W.callWith_K (h₀ := X.base) I.ok.mod.kin hk (thn (ha.run pos pins s σ H _ I h) fun us s1 ⟨vs, H1, I1, r, q⟩ => ⟨I1.kIn, run_fnP F hp hr hb hd hx I1 r q⟩) he hpl) hdb)⟩
end
/-! ### the law's own call -/
section
/-- the law's promise, behind the top; called there no repr is under way -/
theorem law_callP {π : Around → Prop} {P : Program} {w : World} {K : PySem.W.Frag} {mg mb : Str → Option Value} {CX : CXT} {k : Nat} {fa a : Addr} {fd : FuncData} {x : Str} {sp : Sp} {s1 : Shared} {vs : List Value} {ns : List Int} (hpi : π callerA)
    (kx : K.In s1.heap) (hns : s1.heap.Ns mainGlobals mg) (hbn : s1.heap.Ns builtinsNs mb) (hbb : ∀ x : Str, x ≠ "__name__" → mb x = bootBuiltins x) (hlim : s1.heap.NoLimit) (hgn : s1.gens = #[])
    (hget : s1.heap.get? a = some { cls := .type "list", data := .seq vs.toArray }) (hint : IntsAre vs ns) (hlen : ns.length ≤ sizeLine) (hroom : Room k callerA)
    (FF : ∀ base : Heap, K.In base → base.Ns mainGlobals mg → FnP π P w K mg base CX k fa fd [x] sp) (hbind : ∀ (s : Shared) (u : Value), BindsTo s fd ⟨[u], []⟩ [(x, u)])
    (hspec : ∀ H : Hp, Only H → SqL K H a (ns.map V.int) → sp [.ref a] H (fun v _ => v = .bl true) fun _ _ _ => False) (hcx : ∀ H e s', CX [] H s1 (fun _ _ _ => False) e s' → False) :
    codeAny (model P w) callerA (.call (.ref fa) ⟨[.ref a], []⟩) (fun r s' => r = .ok (.ret (.bool true)) ∧ OldK s1.heap s'.heap ∧ s'.os = s1.os ∧ AllBare s'.gens) s1 := by
  have rv := vals_ints hint
  have main : ∀ H : Hp, Only H → SqL K H a (ns.map V.int) → HOk P w H s1.heap → (∀ b, H b ≠ none → b = a) → (H a ≠ none → K.lookup a = none) →
      codeAny (model P w) callerA (.call (.ref fa) ⟨[.ref a], []⟩) (fun r s' => r = .ok (.ret (.bool true)) ∧ OldK s1.heap s'.heap ∧ s'.os = s1.os ∧ AllBare s'.gens) s1 := fun H hO hS hok hA hKa => by
    have only_a : ∀ {b : Addr} {u : HO}, H b = some u → b = a := fun {b u} q => hA b (by rw [q]; exact fun z => nomatch z)
    have noDict : ∀ {b : Addr} {o : Obj} {es : Array DictEntry} {ep : Nat}, s1.heap.get? b = some o → o.data = .dict es ep → H b = none := fun {b o es ep} e d => by
      cases q : H b with
      | none => rfl
      | some u =>
        rw [only_a q, hget] at e
        cases e
        cases (show Data.seq vs.toArray _ = Data.dict es ep from d)
    have nsk : ∀ {b : Addr} {m : Str → Option Value}, s1.heap.Ns b m → (hidT s1.heap H).Ns b m := fun {b m} ⟨o, es, ep, e, d, r⟩ => ⟨o, es, ep, hidT_get e (noDict e d), d, r⟩
    have kxb : K.In (hidT s1.heap H) := fun b o e => hidT_get (kx b o e) (by
      cases q : H b with
      | none => rfl
      | some u =>
        have e' := only_a q
        subst e'
        rw [hKa (by rw [q]; exact fun z => nomatch z)] at e
        cases e)
    have md : Mod K mg (hidT s1.heap H) := ⟨kxb, nsk hns, ⟨mb, nsk hbn, hbb⟩, let ⟨mc, h1, h2⟩ := hlim; ⟨mc, nsk h1, h2⟩⟩
    have env0 : Env0 P w K mg (hidT s1.heap H) callerA [] s1 H := ⟨rfl, md, fun b o e => of_hidT e, Nat.le_of_eq (hidT_size _ _), trivial, fun b hb => absurd (show b ∈ ([] : List Addr) from hb) List.not_mem_nil, hok, .of_eq hgn⟩
    refine codeAny_mono ((FF _ kxb (nsk hns)).go callerA [] s1 H ⟨[.ref a], []⟩ [.ref a] [.ref a] _ _ hpi hroom env0 (hbind s1 (.ref a)) (.cons rfl .nil) (hspec H hO hS)) fun r s' h => ?_
    match r, h with
    | .error e, h => exact (hcx H e s' h).elim
    | .ok .next, h => exact False.elim h
    | .ok .brk, h => exact False.elim h
    | .ok .cont, h => exact False.elim h
    | .ok (.ret u), ⟨v, H', os, bare, un, hok', r', q⟩ =>
      have q : v = .bl true := q
      subst q
      obtain rfl : u = Value.bool true := r'
      refine ⟨rfl, OldK.of_keep fun b o e => ?_, os, bare⟩
      rcases hO b with z | ⟨ob, xs, z⟩
      · exact un.keep b o e z (fun z => absurd (show b ∈ ([] : List Addr) from z) List.not_mem_nil) List.not_mem_nil
      · obtain ⟨e1, _⟩ := hok b _ z
        obtain ⟨e2, _⟩ := hok' b _ (un.frzs b ob _ z)
        rw [e] at e1
        cases e1
        exact e2
  cases hk : K.lookup a with
  | some o =>
    have e := kx a o hk
    rw [hget] at e
    cases e
    exact main (fun _ => none) (fun _ => .inl rfl) (.inr ⟨_, vs.toArray, _, hk, rfl, rfl, rfl, by rw [List.size_toArray, hint.length]; exact hlen, by simpa using rv⟩) (fun b u z => nomatch (show (none : Option HO) = some u from z)) (fun b z => absurd rfl z) fun z => absurd rfl z
  | none =>
    refine main (fun b => if b = a then some (.frz { cls := .type "list", data := .seq vs.toArray } (.lst (ns.map V.int))) else none) (fun b => ?_) (.inl (.inr ⟨{ cls := .type "list", data := .seq vs.toArray }, if_pos rfl⟩)) (fun b u z => ?_) (fun b z => ?_) fun _ => hk
    · by_cases e : b = a
      · exact .inr ⟨_, _, if_pos e⟩
      · exact .inl (if_neg e)
    · by_cases e : b = a
      · subst e
        cases (if_pos rfl).symm.trans z
        exact ⟨hget, by rw [List.length_map]; exact hlen, vs, _, rv, hget⟩
      · cases (if_neg e).symm.trans z
    · by_cases e : b = a
      · exact e
      · exact absurd (if_neg e) z
end
end Rt

set_option maxRecDepth 100000
set_option maxHeartbeats 4000000
/-! Rt5: what is walked, where it goes, comprehensions, calls of the text's own defs. -/
namespace Rt
open PySem L2

/-! ### frames, further -/
section
variable {C : Cs} {S S' H H' : Hp} {σ : St} {env : List Sl}
theorem Fr.H0none (F : Fr C S H σ env) {p : Addr} (hp : H p = none) : C.H0 p = none := by
  cases q : C.H0 p with
  | none => rfl
  | some u => exact absurd hp (F.al p (by rw [q]; exact fun z => nomatch z))
/-- a new thing, not of the data -/
theorem Fr.add (F : Fr C S H σ env) {p : Addr} {o : HO} (hp : H p = none) (nt : ∀ vs, o ≠ .tup vs := by intro _ z; cases z) : Fr C S (upd H p o) σ env := by
  refine ⟨F.e0, F.e1.trans (Ex.new hp), fun b u e n => Ex.new hp _ _ (F.e2 b u e n), F.nw, fun b h0 => ?_, F.sl.mono (Ex.refl S) (Ex.new hp) fun q hq => (F.sl.own hq).1, F.ow, F.nd, F.tc.up nt⟩
  by_cases z : b = p
  · rw [z, upd_same]
    exact fun z => nomatch z
  · rw [upd_ne z]
    exact F.al b h0
/-- a base of its own for a part of the way -/
def Cs.at (S H : Hp) (σ : St) (env : List Sl) : Cs := ⟨owns σ env, S, H⟩
theorem Fr.here (F : Fr C S H σ env) : Fr (Cs.at S H σ env) S H σ env :=
  ⟨Ex.refl S, F.e1, fun _ _ e _ => e, fun _ e _ => e, fun _ h => h, F.sl, fun p hp => .inr hp, F.nd, F.tc⟩
theorem Fr.back (F : Fr C S H σ env) (G : Fr (Cs.at S H σ env) S' H' σ env) : Fr C S' H' σ env := by
  refine ⟨F.e0.trans G.e0, G.e1, fun b o e n => ?_, fun b s0 h0 => G.nw b (F.nw b s0 h0) (F.al b h0), fun b h0 => G.al b (F.al b h0), G.sl, F.ow, G.nd, G.tc⟩
  refine G.e2 b o (F.e2 b o e n) fun hb => ?_
  rcases F.ow b hb with z | z
  · rw [z] at e
    cases e
  · exact n z
/-- other slots that hold the same: a base at which other own things are -/
theorem Fr.back2 {σ2 : St} {env2 : List Sl} (F : Fr C S H σ env) (hs : ∀ p ∈ owns σ2 env2, p ∈ owns σ env) (G : Fr (Cs.at S H σ2 env2) S' H' σ2 env2) (hsl : SlAll S' H' σ env) : Fr C S' H' σ env := by
  refine ⟨F.e0.trans G.e0, G.e1, fun b o e n => ?_, fun b s0 h0 => G.nw b (F.nw b s0 h0) (F.al b h0), fun b h0 => G.al b (F.al b h0), hsl, F.ow, F.nd, G.tc⟩
  refine G.e2 b o (F.e2 b o e n) fun hb => ?_
  rcases F.ow b (hs b hb) with z | z
  · rw [z] at e
    cases e
  · exact n z
/-- a thing outside of the data changes -/
theorem Fr.other (F : Fr C S H σ env) {p : Addr} {o o' : HO} (hp : H p = some o) (hs : S p = none) (h0 : C.H0 p = none) (ho : p ∉ owns σ env) (nt : ∀ vs, o' ≠ .tup vs := by intro _ z; cases z) : Fr C S (upd H p o') σ env := by
  refine ⟨F.e0, F.e1.mut hs, fun b u e n => ?_, F.nw, fun b h => ?_, ?_, F.ow, F.nd, F.tc.up nt⟩
  · have nb : b ≠ p := fun z => by
      rw [z, h0] at e
      cases e
    rw [upd_ne nb]
    exact F.e2 b u e n
  · by_cases z : b = p
    · rw [z, upd_same]
      exact fun z => nomatch z
    · rw [upd_ne z]
      exact F.al b h
  · have key : ∀ {σ : St} {env : List Sl}, p ∉ owns σ env → SlAll S H σ env → SlAll S (upd H p o') σ env := by
      intro σ
      induction σ with
      | nil => intro env n z; cases env with | nil => exact True.intro | cons _ _ => exact z.elim
      | cons w σ ih => intro env n z; cases env with | nil => exact z.elim | cons s env =>
          obtain ⟨z1, z2⟩ := z
          unfold owns at n
          refine ⟨?_, ih (fun q => n (List.mem_append_right _ q)) z2⟩
          have n1 : p ∉ ownOf w s := fun q => n (List.mem_append_left _ q)
          cases s with
          | un => exact True.intro
          | im r a => exact z1
          | ow r xs =>
            obtain ⟨q, vs, e, e2, e3, e4⟩ := z1
            subst e
            have : q ≠ p := fun z => n1 (by rw [z]; simp [ownOf])
            exact ⟨q, vs, rfl, e2, by rw [upd_ne this]; exact e3, e4⟩
          | iv d0 o0 =>
            obtain ⟨q, o2, e, e2, e3, e4⟩ := z1
            subst e
            have : q ≠ p := fun z => n1 (by rw [z]; simp [ownOf])
            exact ⟨q, o2, rfl, e2, by rw [upd_ne this]; exact e3, e4⟩
          | ob q0 a0 =>
            obtain ⟨q, o2, e, e2, e3, e4⟩ := z1
            subst e
            have : q ≠ p := fun z => n1 (by rw [z]; simp [ownOf])
            exact ⟨q, o2, rfl, e2, by rw [upd_ne this]; exact e3, e4⟩
    exact key ho F.sl
/-- behind a call of a def that changes nothing -/
theorem Fr.call (F : Fr C S H σ env) (eS : Ex S S') (e1 : Ex S' H') (eH : Ex H H') (n : ∀ b, S b = none → H b ≠ none → S' b = none) (t : Tc S' H') : Fr C S' H' σ env := by
  refine ⟨F.e0.trans eS, e1, fun b o e m => eH _ _ (F.e2 b o e m), fun b s0 h0 => n b (F.nw b s0 h0) (F.al b h0), fun b h0 => ?_, F.sl.mono eS eH fun p hp => ?_, F.ow, F.nd, t⟩
  · have := F.al b h0
    cases q : H b with
    | none => exact absurd q this
    | some u => rw [eH _ _ q]; exact fun z => nomatch z
  · obtain ⟨a, o, e⟩ := F.sl.own hp
    exact n p a (by rw [e]; exact fun z => nomatch z)
end

/-! ### what is walked -/
structure Wk {α : Type} (J : It) (re : Rp α) (xs : List α) (S0 : Hp) : Prop where
  len : xs.length ≤ sizeLine
  go : ∀ {C S H σ env} (i : Nat), i < xs.length → Fr C S H σ env → Ex S0 S → J.go i H
  yld : ∀ {C S H σ env} (i : Nat) (x : V) (H' : Hp) (a : α), Fr C S H σ env → Ex S0 S → J.yld i H x H' → xs[i]? = some a → ∃ S', Fr C S' H' σ env ∧ Ex S S' ∧ Ex H H' ∧ (∀ b, S b = none → H b ≠ none → S' b = none) ∧ re.p S' x a
  stop : ∀ {C S H σ env} (i : Nat), xs.length ≤ i → Fr C S H σ env → Ex S0 S → J.stop i H
def tS (C : Cs) (env : Gh → List Sl) {α : Type} (re : Rp α) (m : W (List α)) : TI := fun σ H R => ∃ S g P, Fr C S H σ (env g) ∧ m g P ∧ ∀ xs g', P xs g' → ∀ J S' H', Fr C S' H' σ (env g') → Ex S S' → Wk J re xs S' → R J H'
/-- what a target does to the data -/
structure Up (α : Type) where
  f : α → List Sl → List Sl
  js : List Nat
  ok : ∀ a env i, i ∉ js → (f a env)[i]? = env[i]?
section
variable {X : Cx} {C : Cs} {env : Gh → List Sl} {e a b c tg iter : Expr} {es : List Expr} {pos : Pos} {α β γ δ : Type} {r ra re : Rp α} {rb : Rp β} {rc : Rp γ} {m ma : W α} {mb : W β} {mc : W γ} {k : Bool}
theorem pi_imp {wi wi' : TI} (h : PI X tg e wi) (hi : ∀ σ H R, Lens H → wi' σ H R → wi σ H R) : PI X tg e wi' := ⟨fun pins s σ H R I q => h.run pins s σ H R I (hi σ H R (Lens.of I) q)⟩
/-- a list, a tuple that nobody changes -/
theorem wk_seq {K : PySem.W.Frag} {p : Addr} {vs : List V} {xs : List α} {S0 : Hp} (hl : vs.length ≤ sizeLine) (hp : Sq k S0 p vs) (h : All2 (re.p S0) vs xs) : Wk (if k = true then Itl K p else Itt K p) re xs S0 := by
  have at_ : ∀ {C S H σ env}, Fr C S H σ env → Ex S0 S → Sq k H p vs := fun F e => (hp.mono e).mono F.e1
  have l := All2.length h
  refine ⟨by rw [← l]; exact hl, fun {C S H σ env} i hi F e => ?_, fun {C S H σ env} i x H' y F e hy ha => ?_, fun {C S H σ env} i hi F e => ?_⟩
  · have hv : i < vs.length := by omega
    cases k with
    | true => exact ⟨vs, vs[i], SqL.of (at_ F e), by simp [hv]⟩
    | false => exact ⟨vs, vs[i], TupAt.sq (at_ F e), by simp [hv]⟩
  · obtain ⟨v, hv, hr⟩ := All2.get i h ha
    cases k with
    | true =>
      obtain ⟨eH, hq⟩ := hy
      have q := hq vs (SqL.of (at_ F e))
      rw [hv] at q
      cases q
      subst eH
      exact ⟨S, F, Ex.refl S, Ex.refl _, fun _ z _ => z, re.mono e hr⟩
    | false =>
      obtain ⟨eH, hq⟩ := hy
      have q := hq vs (TupAt.sq (at_ F e))
      rw [hv] at q
      cases q
      subst eH
      exact ⟨S, F, Ex.refl S, Ex.refl _, fun _ z _ => z, re.mono e hr⟩
  · cases k with
    | true => exact ⟨vs, SqL.of (at_ F e), by omega⟩
    | false => exact ⟨vs, TupAt.sq (at_ F e), by omega⟩
theorem xi_seq {mx : W (List α)} (h : PE X iter (tE C env (qSeq k re) mx)) : PI X tg iter (tS C env re mx) := by
  have h' := tE_len h
  cases k with
  | true =>
    refine pi_imp (pi_list h') fun σ H R _ ⟨S, g0, P, F, em, q⟩ => ⟨S, g0, P, F, em, fun xs g' px v S' H' F' eS ⟨p, vs, ev, hp, ha⟩ l => ⟨p, ev, ⟨vs, SqL.of (F'.e1 _ _ hp)⟩, ?_⟩⟩
    exact q xs _ px _ S' H' F' eS (wk_seq (k := true) (l p true vs (F'.e1 _ _ hp)) hp ha)
  | false =>
    refine pi_imp (pi_tup h') fun σ H R _ ⟨S, g0, P, F, em, q⟩ => ⟨S, g0, P, F, em, fun xs g' px v S' H' F' eS ⟨p, vs, ev, hp, ha⟩ l => ⟨p, ev, ⟨vs, TupAt.sq (TupAt.mono F'.e1 hp)⟩, ?_⟩⟩
    exact q xs _ px _ S' H' F' eS (wk_seq (k := false) (l p false vs (TupAt.mono F'.e1 hp)) hp ha)
/-- ranges -/
def irange (a b : Int) : List Int := (List.range (b - a).toNat).map fun i => a + (i : Nat)
def rngC (a b : Int) : Option (List Int) := if -1000000 ≤ a ∧ a ≤ 1000000 ∧ -1000000 ≤ b ∧ b ≤ 1000000 then some (irange a b) else none
theorem irange_length (a b : Int) : (irange a b).length = (b - a).toNat := by unfold irange; rw [List.length_map, List.length_range]
theorem irange_get {a b : Int} {i : Nat} {x : Int} (h : (irange a b)[i]? = some x) : x = a + (i : Nat) := by
  unfold irange at h
  rw [List.getElem?_map] at h
  cases q : (List.range (b - a).toNat)[i]? with
  | none => rw [q] at h; cases h
  | some j =>
    rw [q] at h
    have : j = i := by
      obtain ⟨h1, h2⟩ := List.getElem?_eq_some_iff.mp q
      simpa using h2.symm
    subst this
    exact (Option.some.inj h).symm
theorem wk_rng {lo hi : Int} {n : Nat} {S0 : Hp} (hn : n = (hi - lo).toNat) (hl : n ≤ sizeLine) : Wk (Itr lo n) qI (irange lo hi) S0 := by
  have l := irange_length lo hi
  refine ⟨by rw [l, ← hn]; exact hl, fun {C S H σ env} i hi' F e => ?_, fun {C S H σ env} i x H' y F e hy ha => ?_, fun {C S H σ env} i hi' F e => ?_⟩
  · show i < n
    omega
  · obtain ⟨eH, ex⟩ := hy
    subst eH
    refine ⟨S, F, Ex.refl S, Ex.refl _, fun _ z _ => z, ?_⟩
    show x = V.int y
    rw [ex, irange_get ha]
  · show n ≤ i
    omega
theorem rngC_some {i j : Int} {xs : List Int} (h : rngC i j = some xs) : xs = irange i j ∧ -1000000 ≤ i ∧ i ≤ 1000000 ∧ -1000000 ≤ j ∧ j ≤ 1000000 := by
  unfold rngC at h
  split at h
  · rename_i hc
    exact ⟨(Option.some.inj h).symm, hc⟩
  · cases h
theorem xi_rng1 {mi : W Int} {p : Pos} (hg : Gl X "range") (hm : X.mg "range" = none) (ha : PE X a (tE C env qI mi)) (hs : starEach [a] X.env = (false, eval a X.env) :: starEach [] X.env := by rfl) (hs' : starEach [a] X.env = [(false, eval a X.env)] := by rfl) :
    PI X tg (.Call (.Name "range" p) [a] [] pos) (tS C env qI (mi.bind fun i => ofO (rngC 0 i))) :=
  pi_imp (pi_range1 hg hm (pa_cons ha pa_nil hs) hs') fun σ H R _ ⟨S, g0, P, F, em, q⟩ => ⟨S, g0, _, F, em, fun i g1 ⟨z, ez, pz⟩ v S1 H1 F1 x1 hv => by
    obtain ⟨rfl, h1, h2, h3, h4⟩ := rngC_some ez
    refine ⟨i, by rw [show v = .int i from hv], by omega, by omega, ?_⟩
    exact q _ _ pz _ S1 H1 F1 x1 (wk_rng (by omega) (by rw [sizeLine_eq]; omega))⟩
theorem xi_rng2 {mi mj : W Int} {p : Pos} (hg : Gl X "range") (hm : X.mg "range" = none) (ha : PE X a (tE C env qI mi)) (hb : PE X b (tE C env qI mj)) (hs : starEach [a, b] X.env = (false, eval a X.env) :: starEach [b] X.env := by rfl) (hsb : starEach [b] X.env = (false, eval b X.env) :: starEach [] X.env := by rfl)
    (hs' : starEach [a, b] X.env = [(false, eval a X.env), (false, eval b X.env)] := by rfl) (hs2 : starEach [b] X.env = [(false, eval b X.env)] := by rfl) :
    PI X tg (.Call (.Name "range" p) [a, b] [] pos) (tS C env qI (mi.bind fun i => mj.bind fun j => ofO (rngC i j))) :=
  pi_imp (pi_range2 hg hm (pa_cons ha (pa_cons hb pa_nil hsb) hs) hs' hs2) fun σ H R _ ⟨S, g0, P, F, em, q⟩ => ⟨S, g0, _, F, em, fun i g1 hi v S1 H1 F1 x1 hv => ⟨S1, g1, _, F1, hi, fun j g2 ⟨z, ez, pz⟩ w S2 H2 F2 x2 hw => by
    obtain ⟨rfl, h1, h2, h3, h4⟩ := rngC_some ez
    refine ⟨i, j, by rw [show v = .int i from hv, show w = .int j from hw], by omega, ?_⟩
    exact q _ _ pz _ S2 H2 F2 (x1.trans x2) (wk_rng rfl (by rw [sizeLine_eq]; omega))⟩⟩
/-- enumerate -/
def enumI {α : Type} (xs : List α) : List (Int × α) := xs.zipIdx.map fun p => ((p.2 : Nat), p.1)
theorem enumI_get {xs : List α} {i : Nat} {y : Int × α} (h : (enumI xs)[i]? = some y) : y.1 = (i : Nat) ∧ xs[i]? = some y.2 := by
  unfold enumI at h
  rw [List.getElem?_map, List.getElem?_zipIdx] at h
  cases q : xs[i]? with
  | none => rw [q] at h; cases h
  | some x =>
    rw [q] at h
    have := Option.some.inj h
    subst this
    simp
theorem enumI_len (xs : List α) : (enumI xs).length = xs.length := by unfold enumI; rw [List.length_map, List.length_zipIdx]
theorem wk_new {J : It} {xs : List α} {S0 : Hp} (hl : xs.length ≤ sizeLine) (hg : ∀ {C S H σ env} (i : Nat), i < xs.length → Fr C S H σ env → Ex S0 S → J.go i H) (hs : ∀ {C S H σ env} (i : Nat), xs.length ≤ i → Fr C S H σ env → Ex S0 S → J.stop i H)
    (hy : ∀ {C S H σ env} (i : Nat) (x : V) (H' : Hp) (a : α), Fr C S H σ env → Ex S0 S → J.yld i H x H' → xs[i]? = some a → ∃ T o, x = .ref T ∧ H T = none ∧ H' = upd H T o ∧ re.p (upd S T o) x a) : Wk J re xs S0 :=
  ⟨hl, hg, fun {C S H σ env} i x H' a F e hj ha => by
    obtain ⟨T, o, ex, hT, eH, hr⟩ := hy i x H' a F e hj ha
    subst eH
    refine ⟨_, F.new hT, Ex.new (F.e1.back hT), Ex.new hT, fun b z1 z2 => ?_, hr⟩
    rw [upd_ne (fun z => z2 (by rw [z]; exact hT))]
    exact z1, hs⟩
theorem xi_enT {elts : List Expr} {kk : Nat} {tpos p : Pos} {mx : W (List α)} (hg : Gl X "enumerate") (hm : X.mg "enumerate" = none) (ha : PE X a (tE C env (qT re) mx)) (hs : starEach [a] X.env = (false, eval a X.env) :: starEach [] X.env := by rfl) (hs' : starEach [a] X.env = [(false, eval a X.env)] := by rfl) :
    PI X (.Tuple elts kk tpos) (.Call (.Name "enumerate" p) [a] [] pos) (tS C env (qW qI re) (mx.bind fun xs => .ret (enumI xs))) := by
  refine pi_imp (RtE.pi_en hg hm (pa_cons (tE_len ha) pa_nil hs) hs') fun σ H R _ ⟨S, g0, P, F, em, q⟩ => ?_
  refine ⟨S, g0, _, F, em, fun xs g1 px v S1 H1 F1 x1 ⟨p, vs, ev, hp, h2⟩ l => ?_⟩
  subst ev
  have at_ : ∀ {C S H σ env}, Fr C S H σ env → Ex S1 S → TupAt H p vs := fun F e => TupAt.mono F.e1 (TupAt.mono e hp)
  have ll := All2.length h2
  refine ⟨p, vs, rfl, TupAt.sq (TupAt.mono F1.e1 hp), q _ _ px _ S1 H1 F1 x1 (wk_new (by rw [enumI_len, ← ll]; exact l p false vs (TupAt.mono F1.e1 hp)) (fun {C S H σ env} i hi F e => ?_) (fun {C S H σ env} i hi F e => ?_) fun {C S H σ env} i x H' y F e hy ha => ?_)⟩
  · rw [enumI_len] at hi
    have hv : i < vs.length := by omega
    exact ⟨vs, vs[i], TupAt.sq (at_ F e), by simp [hv]⟩
  · rw [enumI_len] at hi
    exact ⟨vs, TupAt.sq (at_ F e), by omega⟩
  · obtain ⟨T, v, ev, hT, eH, hq⟩ := hy
    obtain ⟨y1, y2⟩ := enumI_get ha
    obtain ⟨w, hw, hr⟩ := All2.get i h2 y2
    have := hq vs (TupAt.sq (at_ F e))
    rw [hw] at this
    cases this
    exact ⟨T, _, ev, hT, eH, T, .int (i : Nat), _, ev, .inl upd_same, by rw [y1]; rfl, re.mono (e.trans (Ex.new (F.e1.back hT))) hr⟩
theorem xi_enL {elts : List Expr} {kk : Nat} {tpos p : Pos} {mx : W (List α)} (hg : Gl X "enumerate") (hm : X.mg "enumerate" = none) (ha : PE X a (tE C env (qL re) mx)) (hs : starEach [a] X.env = (false, eval a X.env) :: starEach [] X.env := by rfl) (hs' : starEach [a] X.env = [(false, eval a X.env)] := by rfl) :
    PI X (.Tuple elts kk tpos) (.Call (.Name "enumerate" p) [a] [] pos) (tS C env (qW qI re) (mx.bind fun xs => .ret (enumI xs))) := by
  refine pi_imp (pi_enum hg hm (pa_cons (tE_len ha) pa_nil hs) hs') fun σ H R _ ⟨S, g0, P, F, em, q⟩ => ?_
  refine ⟨S, g0, _, F, em, fun xs g1 px v S1 H1 F1 x1 ⟨p, vs, ev, hp, h2⟩ l => ?_⟩
  subst ev
  have at_ : ∀ {C S H σ env}, Fr C S H σ env → Ex S1 S → H p = some (.lst vs) := fun F e => F.e1 _ _ (e _ _ hp)
  have ll := All2.length h2
  refine ⟨p, vs, rfl, SqL.of (F1.e1 _ _ hp), q _ _ px _ S1 H1 F1 x1 (wk_new (by rw [enumI_len, ← ll]; exact l p true vs (F1.e1 _ _ hp)) (fun {C S H σ env} i hi F e => ?_) (fun {C S H σ env} i hi F e => ?_) fun {C S H σ env} i x H' y F e hy ha => ?_)⟩
  · rw [enumI_len] at hi
    have hv : i < vs.length := by omega
    exact ⟨vs, vs[i], SqL.of (at_ F e), by simp [hv]⟩
  · rw [enumI_len] at hi
    exact ⟨vs, SqL.of (at_ F e), by omega⟩
  · obtain ⟨T, v, ev, hT, eH, hq⟩ := hy
    obtain ⟨y1, y2⟩ := enumI_get ha
    obtain ⟨w, hw, hr⟩ := All2.get i h2 y2
    have := hq vs (SqL.of (at_ F e))
    rw [hw] at this
    cases this
    exact ⟨T, _, ev, hT, eH, T, .int (i : Nat), _, ev, .inl upd_same, by rw [y1]; rfl, re.mono (e.trans (Ex.new (F.e1.back hT))) hr⟩
/-! ### where it goes -/
def tG (re : Rp α) (up : Up α) : TG := fun v σ H Q => ∃ C S env a, Fr C S H σ env ∧ re.p S v a ∧ ∀ σ', σ'.length = σ.length → (∀ i, i ∉ up.js → σ'[i]? = σ[i]?) → Fr C S H σ' (up.f a env) → Q σ' H
def uN (i : Nat) (re : Rp α) : Up α := ⟨fun a env => env.set i (.im re a), [i], fun a env j hj => by simp at hj; exact List.getElem?_set_ne (Ne.symm hj)⟩
def uP (u1 : Up α) (u2 : Up β) : Up (α × β) := ⟨fun x env => u2.f x.2 (u1.f x.1 env), u1.js ++ u2.js, fun x env j hj => by
  simp at hj
  rw [u2.ok _ _ j hj.2, u1.ok _ _ j hj.1]⟩
def uP3 (u1 : Up α) (u2 : Up β) (u3 : Up γ) : Up (α × β × γ) := uP u1 (uP u2 u3)
theorem xg_name {i : Nat} (h : PG X tg (gName i)) : PG X tg (tG re (uN i re)) := ⟨fun pins s σ H v u Q I r ⟨C, S, env, a, F, hr, q⟩ =>
  h.run pins s σ H v u Q I r (q _ (List.length_set ..) (fun j hj => List.getElem?_set_ne (fun z => hj (by rw [← z]; exact List.mem_singleton.mpr rfl))) (F.setIm i hr))⟩
theorem pgs_imp {es : List Expr} {t t' : TGs} (h : PGs X es t) (hi : ∀ vs σ H Q, t' vs σ H Q → t vs σ H Q) : PGs X es t' := ⟨fun pins s σ H vs us Q I r q => h.run pins s σ H vs us Q I r (hi _ _ _ _ q)⟩
theorem pg_imp {t t' : TG} (h : PG X tg t) (hi : ∀ v σ H Q, t' v σ H Q → t v σ H Q) : PG X tg t' := ⟨fun pins s σ H v u Q I r q => h.run pins s σ H v u Q I r (hi _ _ _ _ q)⟩
variable {up1 : Up α} {up2 : Up β} {up3 : Up γ}
theorem xg_pair {kk : Nat} (hc : X.calm = true) (h1 : PG X a (tG ra up1)) (h2 : PG X b (tG rb up2))
    (hs : (assignEach [a, b] X.env).map (·.2) = assign a X.env :: (assignEach [b] X.env).map (·.2) := by rfl) (hs2 : (assignEach [b] X.env).map (·.2) = assign b X.env :: (assignEach [] X.env).map (·.2) := by rfl)
    (hn : (assignEach [a, b] X.env).length = 2 := by rfl) (hst : (assignEach [a, b] X.env).findIdx? (·.1) = none := by rfl) :
    PG X (.Tuple [a, b] kk pos) (tG (qP ra rb) (uP up1 up2)) :=
  pg_imp (pg_tup hc (pgs_cons h1 (pgs_cons h2 pgs_nil hs2) hs) hn hst) fun v σ H Q ⟨C, S, env, x, F, ⟨p, v1, v2, ev, hp, r1, r2⟩, q⟩ =>
    ⟨p, [v1, v2], ev, TupAt.sq (TupAt.mono F.e1 hp), rfl, v1, [v2], rfl, C, S, env, x.1, F, r1, fun σ1 l1 n1 F1 => ⟨v2, [], rfl, C, S, _, x.2, F1, r2, fun σ2 l2 n2 F2 => ⟨rfl, q σ2 (l2.trans l1) (fun i hi => by
      have hi : i ∉ up1.js ++ up2.js := hi
      simp at hi
      rw [n2 i hi.2, n1 i hi.1]) F2⟩⟩⟩
theorem xg_pairW {kk : Nat} (hc : X.calm = true) (h1 : PG X a (tG ra up1)) (h2 : PG X b (tG rb up2))
    (hs : (assignEach [a, b] X.env).map (·.2) = assign a X.env :: (assignEach [b] X.env).map (·.2) := by rfl) (hs2 : (assignEach [b] X.env).map (·.2) = assign b X.env :: (assignEach [] X.env).map (·.2) := by rfl)
    (hn : (assignEach [a, b] X.env).length = 2 := by rfl) (hst : (assignEach [a, b] X.env).findIdx? (·.1) = none := by rfl) :
    PG X (.Tuple [a, b] kk pos) (tG (qW ra rb) (uP up1 up2)) :=
  pg_imp (pg_tup hc (pgs_cons h1 (pgs_cons h2 pgs_nil hs2) hs) hn hst) fun v σ H Q ⟨C, S, env, x, F, ⟨p, v1, v2, ev, hp, r1, r2⟩, q⟩ =>
    ⟨p, [v1, v2], ev, (hp.elim (fun h => SqT.of (F.e1 _ _ h)) fun h => TupAt.sq (TupAt.mono F.e1 h)), rfl, v1, [v2], rfl, C, S, env, x.1, F, r1, fun σ1 l1 n1 F1 => ⟨v2, [], rfl, C, S, _, x.2, F1, r2, fun σ2 l2 n2 F2 => ⟨rfl, q σ2 (l2.trans l1) (fun i hi => by
      have hi : i ∉ up1.js ++ up2.js := hi
      simp at hi
      rw [n2 i hi.2, n1 i hi.1]) F2⟩⟩⟩
theorem xg_triple {kk : Nat} (hc : X.calm = true) (h1 : PG X a (tG ra up1)) (h2 : PG X b (tG rb up2)) (h3 : PG X c (tG rc up3))
    (hs : (assignEach [a, b, c] X.env).map (·.2) = assign a X.env :: (assignEach [b, c] X.env).map (·.2) := by rfl) (hs2 : (assignEach [b, c] X.env).map (·.2) = assign b X.env :: (assignEach [c] X.env).map (·.2) := by rfl) (hs3 : (assignEach [c] X.env).map (·.2) = assign c X.env :: (assignEach [] X.env).map (·.2) := by rfl)
    (hn : (assignEach [a, b, c] X.env).length = 3 := by rfl) (hst : (assignEach [a, b, c] X.env).findIdx? (·.1) = none := by rfl) :
    PG X (.Tuple [a, b, c] kk pos) (tG (qP3 ra rb rc) (uP3 up1 up2 up3)) :=
  pg_imp (pg_tup hc (pgs_cons h1 (pgs_cons h2 (pgs_cons h3 pgs_nil hs3) hs2) hs) hn hst) fun v σ H Q ⟨C, S, env, x, F, ⟨p, v1, v2, v3, ev, hp, r1, r2, r3⟩, q⟩ =>
    ⟨p, [v1, v2, v3], ev, TupAt.sq (TupAt.mono F.e1 hp), rfl, v1, [v2, v3], rfl, C, S, env, x.1, F, r1, fun σ1 l1 n1 F1 => ⟨v2, [v3], rfl, C, S, _, x.2.1, F1, r2, fun σ2 l2 n2 F2 => ⟨v3, [], rfl, C, S, _, x.2.2, F2, r3, fun σ3 l3 n3 F3 => ⟨rfl, q σ3 (l3.trans (l2.trans l1)) (fun i hi => by
      have hi : i ∉ up1.js ++ (up2.js ++ up3.js) := hi
      simp at hi
      rw [n3 i hi.2.2, n2 i hi.2.1, n1 i hi.1]) F3⟩⟩⟩⟩

/-! ### comprehensions -/
def wipeE (env : List Sl) : List Nat → List Sl
  | [] => env
  | v :: vs => (wipeE env vs).set v .un
theorem owns_wipe {σ : St} {env : List Sl} : ∀ (vs : List Nat) {p : Addr}, p ∈ owns (wipe σ vs) (wipeE env vs) → p ∈ owns σ env
  | [], _, h => h
  | v :: vs, p, h => by
    unfold wipe wipeE at h
    rcases owns_set v h with h | h
    · exact owns_wipe vs h
    · cases h
theorem Fr.wipe {S H : Hp} {σ : St} {env : List Sl} (F : Fr C S H σ env) : ∀ vs : List Nat, Fr C S H (wipe σ vs) (wipeE env vs)
  | [] => F
  | v :: vs => by
    unfold L2.wipe wipeE
    exact (Fr.wipe F vs).setUn v none
theorem wipe_in {σ : St} {x : Option V} {i : Nat} : ∀ {vs : List Nat}, i ∈ vs → wipe (σ.set i x) vs = wipe σ vs
  | v :: vs, h => by
    unfold L2.wipe
    by_cases hv : i ∈ vs
    · rw [wipe_in hv]
    · have e : i = v := (List.mem_cons.mp h).resolve_right hv
      subst e
      have key : ∀ vs : List Nat, (wipe (σ.set i x) vs).set i none = (wipe σ vs).set i none := by
        intro vs
        induction vs with
        | nil => simp [L2.wipe]
        | cons w ws ih =>
          unfold L2.wipe
          by_cases hw : w = i
          · subst hw
            rw [List.set_set, List.set_set, ih]
          · rw [List.set_comm _ _ hw, List.set_comm _ _ hw, ih]
      exact key vs
/-- slots that are the same but for some that are wiped -/
theorem wipe_same {σ σ' : St} {vs : List Nat} (hl : σ'.length = σ.length) (h : ∀ i, i ∉ vs → σ'[i]? = σ[i]?) : wipe σ' vs = wipe σ vs := by
  refine List.ext_getElem? fun i => ?_
  have key : ∀ (τ : St) (vs : List Nat), (wipe τ vs)[i]? = if i ∈ vs ∧ i < τ.length then some none else τ[i]? := by
    intro τ vs
    induction vs with
    | nil => simp [L2.wipe]
    | cons w ws ih =>
      unfold L2.wipe
      by_cases hw : w = i
      · subst hw
        by_cases hi : w < τ.length
        · rw [List.getElem?_set_self (by rw [wipe_length]; exact hi)]
          simp [hi]
        · rw [List.getElem?_eq_none (by rw [List.length_set, wipe_length]; omega)]
          simp [hi]
      · rw [List.getElem?_set_ne hw, ih]
        have : i ∈ w :: ws ↔ i ∈ ws := by
          simp
          exact fun z => absurd z.symm hw
        simp only [this]
  rw [key, key, hl]
  by_cases hi : i ∈ vs
  · by_cases hl2 : i < σ.length
    · simp [hi, hl2]
    · have h1 : σ.length ≤ i := by omega
      simp [hi, hl2, List.getElem?_eq_none h1, List.getElem?_eq_none (show σ'.length ≤ i by rw [hl]; exact h1)]
  · simp [hi]
    exact h i hi
/-- [f x for x in xs if c x] -/
def lcW {α β : Type} (c : α → W Bool) (f : α → W β) : List α → W (List β)
  | [] => .ret []
  | x :: xs => (c x).bind fun b => if b = true then (f x).bind fun y => (lcW c f xs).bind fun ys => .ret (y :: ys) else lcW c f xs
/-- .. reckoned -/
def lcO {α β : Type} (c : α → Option Bool) (f : α → Option β) : List α → Option (List β)
  | [] => some []
  | x :: xs => (c x).bind fun b => if b = true then (f x).bind fun y => (lcO c f xs).bind fun ys => some (y :: ys) else lcO c f xs
theorem ofO_lc {α β : Type} (c : α → Option Bool) (f : α → Option β) : ∀ xs : List α, ofO (lcO c f xs) = lcW (fun x => ofO (c x)) (fun x => ofO (f x)) xs
  | [] => ofO_some []
  | x :: xs => by
    unfold lcO lcW
    rw [ofO_bind]
    congr 1
    funext b
    rw [ofO_if]
    congr 1
    · rw [ofO_bind]
      congr 1
      funext y
      rw [ofO_bind, ofO_lc c f xs]
      congr 1
      funext ys
      exact ofO_some _
    · exact ofO_lc c f xs
/-- the slots that are wiped hold no own things -/
def wipeOk (env : List Sl) (vs : List Nat) : Bool := vs.all fun i => match env[i]? with
  | some (.ow _ _) => false
  | some (.iv _ _) => false
  | some (.ob _ _) => false
  | _ => true
theorem SlAll.of_get {S H : Hp} : ∀ {σ : St} {env : List Sl}, σ.length = env.length → (∀ (i : Nat) v s, σ[i]? = some v → env[i]? = some s → SlOk S H v s) → SlAll S H σ env
  | [], [], _, _ => True.intro
  | v :: σ, s :: env, h, f => ⟨f 0 v s rfl rfl, SlAll.of_get (by simpa using h) fun i v s h1 h2 => f (i + 1) v s (by simpa using h1) (by simpa using h2)⟩
  | [], _ :: _, h, _ => by simp at h
  | _ :: _, [], h, _ => by simp at h
/-- the same but for what the shared object holds -/
inductive Gs : List Sl → List Sl → Prop
  | nil : Gs [] []
  | keep {s : Sl} {a b : List Sl} : Gs a b → Gs (s :: a) (s :: b)
  | gh {d : Addr} {o o' : HO} {a b : List Sl} : Gs a b → Gs (.iv d o :: a) (.iv d o' :: b)
theorem Gs.owns {a b : List Sl} (h : Gs a b) : ∀ σ : St, owns σ a = owns σ b := by
  induction h with
  | nil => intro σ; rfl
  | keep h ih => intro σ; cases σ with
    | nil => rfl
    | cons v σ => show ownOf v _ ++ Rt.owns σ _ = ownOf v _ ++ Rt.owns σ _; rw [ih σ]
  | gh h ih => intro σ; cases σ with
    | nil => rfl
    | cons v σ => show ownOf v _ ++ Rt.owns σ _ = ownOf v _ ++ Rt.owns σ _; rw [ih σ]; cases v with
      | none => rfl
      | some v => cases v <;> rfl
theorem Gs.get {a b : List Sl} (h : Gs a b) : ∀ i : Nat, a[i]? = b[i]? ∨ ∃ d o o', a[i]? = some (.iv d o) ∧ b[i]? = some (.iv d o') := by
  induction h with
  | nil => intro i; exact .inl rfl
  | keep h ih => intro i; cases i with
    | zero => exact .inl rfl
    | succ i => simpa using ih i
  | gh h ih => intro i; cases i with
    | zero => exact .inr ⟨_, _, _, rfl, rfl⟩
    | succ i => simpa using ih i
theorem Gs.length {a b : List Sl} (h : Gs a b) : a.length = b.length := by
  induction h with
  | nil => rfl
  | keep h ih => simp [ih]
  | gh h ih => simp [ih]
theorem Fr.backG {C : Cs} {S H S' H' : Hp} {σ : St} {env env' : List Sl} (F : Fr C S H σ env) (e : owns σ env' = owns σ env) (G : Fr (Cs.at S H σ env) S' H' σ env') : Fr C S' H' σ env' := by
  refine ⟨F.e0.trans G.e0, G.e1, fun b o e n => ?_, fun b s0 h0 => G.nw b (F.nw b s0 h0) (F.al b h0), fun b h0 => G.al b (F.al b h0), G.sl, fun p hp => F.ow p (e ▸ hp), G.nd, G.tc⟩
  refine G.e2 b o (F.e2 b o e n) fun hb => ?_
  rcases F.ow b hb with z | z
  · rw [z] at e
    cases e
  · exact n z
theorem Fr.unwipe {C : Cs} {S H S' H' : Hp} {σ σ2 : St} {env env' env2 : List Sl} {vs : List Nat} (F : Fr C S H σ env) (hG : Gs env env') (hv : wipeOk env vs = true) (G : Fr (Cs.at S H σ env) S' H' σ2 env2) (hσ : ∀ i, i ∉ vs → σ2[i]? = σ[i]?) (he : ∀ i, i ∉ vs → env2[i]? = env'[i]?) : Fr C S' H' σ env' := by
  have eo := (hG.owns σ).symm
  refine F.backG eo ⟨G.e0, G.e1, G.e2, G.nw, G.al, SlAll.of_get (F.sl.len.trans hG.length) fun i v s h1 h2 => ?_, fun p hp => .inr (by show p ∈ owns σ env; rw [← eo]; exact hp), by rw [eo]; exact F.nd, G.tc⟩
  by_cases hi : i ∈ vs
  · have q := List.all_eq_true.mp hv i hi
    rcases hG.get i with e | ⟨d0, o0, o1, e1, e2⟩
    · have h2' : env[i]? = some s := e.trans h2
      obtain ⟨v', e', r⟩ := F.sl.get i h2'
      rw [h1] at e'
      cases e'
      rw [h2'] at q
      cases s with
      | un => exact True.intro
      | im r' a =>
        obtain ⟨x, e, z⟩ := r
        exact ⟨x, e, r'.mono G.e0 z⟩
      | ow _ _ => cases q
      | iv _ _ => cases q
      | ob _ _ => cases q
    · rw [e1] at q
      cases q
  · obtain ⟨v', e', r⟩ := G.sl.get i ((he i hi).trans h2)
    rw [hσ i hi, h1] at e'
    cases e'
    exact r
/-- a thing outside of the data, taken out -/
def del (H : Hp) (p : Addr) : Hp := fun b => if b = p then none else H b
theorem Tc.del1 {S H : Hp} (t : Tc S H) (p : Addr) : Tc S (del H p) := fun b vs e => by
  unfold del at e
  by_cases z : b = p
  · rw [if_pos z] at e
    cases e
  · rw [if_neg z] at e
    exact t b vs e
theorem Tc.del2 {S H : Hp} (t : Tc S H) (p : Addr) : Tc (del S p) (del H p) := fun b vs e => by
  unfold del at e ⊢
  by_cases z : b = p
  · rw [if_pos z] at e
    cases e
  · rw [if_neg z] at e ⊢
    exact t b vs e
theorem upd_del {H : Hp} {p : Addr} {o : HO} (h : H p = some o) : upd (del H p) p o = H := by
  funext b
  unfold upd del
  by_cases z : b = p
  · subst z
    simp [h]
  · simp [z]
theorem Fr.del {S H : Hp} {σ : St} {env : List Sl} (F : Fr C S H σ env) {p : Addr} (hs : S p = none) (h0 : C.H0 p = none) (ho : p ∉ owns σ env) : Fr C S (del H p) σ env := by
  have ne : ∀ b, b ≠ p → Rt.del H p b = H b := fun b hb => by unfold Rt.del; rw [if_neg hb]
  have nS : ∀ {b u}, S b = some u → b ≠ p := fun {b u} e z => by rw [z, hs] at e; cases e
  have n0 : ∀ {b}, C.H0 b ≠ none → b ≠ p := fun {b} e z => e (by rw [z]; exact h0)
  refine ⟨F.e0, fun b u e => by rw [ne b (nS e)]; exact F.e1 b u e, fun b u e n => by rw [ne b (n0 (by rw [e]; exact fun z => nomatch z))]; exact F.e2 b u e n, F.nw, fun b h => by rw [ne b (n0 h)]; exact F.al b h, SlAll.of_get F.sl.len fun i v s h1 h2 => ?_, F.ow, F.nd, F.tc.del1 p⟩
  obtain ⟨v', e', r⟩ := F.sl.get i h2
  rw [h1] at e'
  cases e'
  cases s with
  | un => exact True.intro
  | im r' a => exact r
  | ow r' xs =>
    obtain ⟨q, vs, e, e2, e3, e4⟩ := r
    subst e
    have : q ≠ p := fun z => ho (by rw [← z]; exact owns_mem_get i h2 h1 rfl)
    exact ⟨q, vs, rfl, e2, by rw [ne q this]; exact e3, e4⟩
  | iv d0 o0 =>
    obtain ⟨q, o, e, e2, e3, e4⟩ := r
    subst e
    have : q ≠ p := fun z => ho (by rw [← z]; exact owns_mem_get i h2 h1 rfl)
    exact ⟨q, o, rfl, e2, by rw [ne q this]; exact e3, e4⟩
  | ob q0 a0 =>
    obtain ⟨q, o, e, e2, e3, e4⟩ := r
    subst e
    have : q ≠ p := fun z => ho (by rw [← z]; exact owns_mem_get i h2 h1 rfl)
    exact ⟨q, o, rfl, e2, by rw [ne q this]; exact e3, e4⟩
theorem wipeE_get {env : List Sl} {i : Nat} : ∀ {vs : List Nat}, i ∉ vs → (wipeE env vs)[i]? = env[i]?
  | [], _ => rfl
  | v :: vs, h => by
    unfold wipeE
    simp at h
    rw [List.getElem?_set_ne (Ne.symm h.1), wipeE_get h.2]
theorem wipe_get {σ : St} {i : Nat} : ∀ {vs : List Nat}, i ∉ vs → (wipe σ vs)[i]? = σ[i]?
  | [], _ => rfl
  | v :: vs, h => by
    unfold L2.wipe
    simp at h
    rw [List.getElem?_set_ne (Ne.symm h.1), wipe_get h.2]
theorem wipe_wipe {σ : St} (vs : List Nat) : wipe (wipe σ vs) vs = wipe σ vs := wipe_same (wipe_length σ vs) fun i hi => wipe_get hi
theorem drop_cons {xs : List α} {i : Nat} {a : α} (h : xs[i]? = some a) : xs.drop i = a :: xs.drop (i + 1) := by
  obtain ⟨h1, h2⟩ := List.getElem?_eq_some_iff.mp h
  rw [List.drop_eq_getElem_cons h1, h2]
theorem tN_of_E {m : W (List α)} {σ : St} {H : Hp} {Q : VK} (h : tE C env (qL r) m σ H Q) : tN C env r m σ H Q :=
  let ⟨S, g0, P, F, em, q⟩ := h
  ⟨S, g0, P, F, em, fun xs g1 px p vs S' H' F' eS hp ha => by
    have sp : S' p = none := F'.e1.back hp
    exact q xs g1 px _ _ _ (F'.new (o := .lst vs) hp) (eS.trans (Ex.new sp)) ⟨p, vs, rfl, upd_same, ha.mono fun _ _ z => r.mono (Ex.new sp) z⟩⟩
theorem lc_use {own : List (Str × Nat)} {mx : W (List α)} {up : Up α} {cf : α → W Bool} {ef : α → W β} (hjs : (up.js.all fun j => (own.map (·.2)).contains j) = true) (hw : ∀ g, wipeOk (env g) (own.map (·.2)) = true) (hE : ∀ g g', Gs (env g) (env g'))
    {σ : St} {H : Hp} {Q : VK} (h : tN C env rb (mx.bind fun xs => lcW cf ef xs) σ H Q) :
    tLc (tS C env re mx) (tG re up) (fun σ H Q => ∃ p : Cs × α, tT p.1 (fun g => up.f p.2 (wipeE (env g) (own.map (·.2)))) (cf p.2) σ H Q) (fun σ H Q => ∃ p : Cs × α, tE p.1 (fun g => up.f p.2 (wipeE (env g) (own.map (·.2)))) rb (ef p.2) σ H Q) (own.map (·.2)) σ H Q := by
  have hjs' : ∀ j, j ∉ own.map (·.2) → j ∉ up.js := fun j hj z => hj (by
    have := List.all_eq_true.mp hjs j z
    simpa using this)
  obtain ⟨S, g0, P, F, em, q⟩ := h
  refine ⟨S, g0, _, F, em, fun xs g1 em J S1 H1 F1 x1 W1 D hD => ?_⟩
  have dS : S1 D = none := F1.e1.back hD
  have d0 : C.H0 D = none := F1.H0none hD
  have dO1 : D ∉ owns σ (env g1) := fun z => by
    obtain ⟨_, o, e⟩ := F1.sl.own z
    rw [hD] at e
    cases e
  have dO : ∀ g, D ∉ owns σ (env g) := fun g z => dO1 ((hE g g1).owns σ ▸ z)
  refine ⟨fun i m H => m = xs.length - i ∧ i ≤ xs.length ∧ ∃ S g acc ys, Fr C S H σ (env g) ∧ Ex S1 S ∧ H D = some (.lst acc) ∧ S D = none ∧ lcW cf ef (xs.drop i) g (fun zs => P (ys ++ zs)) ∧ All2 (rb.p S) acc ys ∧ ys.length ≤ i,
    ⟨xs.length, rfl, Nat.zero_le _, S1, g1, [], [], F1.add hD, Ex.refl S1, upd_same, dS, em, True.intro, Nat.le_refl _⟩, ?_⟩
  rintro i m H2 ⟨rfl, hi2, S2, g2, acc, ys, F2, x2, hD2, sD2, hz, ha, hy⟩
  by_cases hlt : i < xs.length
  · have hxi : xs[i]? = some xs[i] := List.getElem?_eq_getElem hlt
    have hz' := hz
    rw [drop_cons hxi] at hz'
    unfold lcW at hz'
    refine .inr ⟨W1.go i hlt F2 x2, fun H' => ∃ S g acc ys, Fr C S H' σ (env g) ∧ Ex S1 S ∧ H' D = some (.lst acc) ∧ S D = none ∧ lcW cf ef (xs.drop (i + 1)) g (fun zs => P (ys ++ zs)) ∧ All2 (rb.p S) acc ys ∧ ys.length ≤ i + 1,
      fun H' h' => ⟨xs.length - (i + 1), by omega, rfl, hlt, h'⟩, fun x H3 hy3 => ?_⟩
    have Fb := F2.here.wipe (own.map (·.2))
    obtain ⟨S3, F3, x3, xH3, n3, r3⟩ := W1.yld i x H3 xs[i] Fb x2 hy3 hxi
    refine ⟨Cs.at S2 H2 σ (env g2), S3, _, xs[i], F3, r3, fun σ4 l4 n4 F4 => ?_⟩
    have hσ4 : ∀ j, j ∉ own.map (·.2) → σ4[j]? = σ[j]? := fun j hj => (n4 j (hjs' j hj)).trans (wipe_get hj)
    have hev : ∀ g j, j ∉ own.map (·.2) → (up.f xs[i] (wipeE (env g) (own.map (·.2))))[j]? = (env g)[j]? := fun g j hj => (up.ok _ _ j (hjs' j hj)).trans (wipeE_get hj)
    have hlen4 : σ4.length = σ.length := l4.trans (wipe_length _ _)
    refine ⟨wipe_same hlen4 hσ4, (Cs.at S2 H2 σ (env g2), xs[i]), ?_⟩
    have keepD : ∀ {S' H' g}, Fr (Cs.at S2 H2 σ (env g2)) S' H' σ4 (up.f xs[i] (wipeE (env g) (own.map (·.2)))) → H' D = some (.lst acc) ∧ S' D = none ∧ Ex S2 S' ∧ Fr C S' H' σ (env g) := fun {S' H' g} G =>
      ⟨G.e2 D _ hD2 (dO g2), G.nw D sD2 (by show H2 D ≠ none; rw [hD2]; exact fun z => nomatch z), G.e0, F2.unwipe (hE g2 g) (hw g2) G hσ4 (hev g)⟩
    refine ⟨S3, g2, _, F4, hz', fun b g5 hb S5 H5 F5 x5 => ?_⟩
    cases b with
    | false =>
      obtain ⟨k1, k2, k3, k4⟩ := keepD F5
      exact ⟨S5, g5, acc, ys, k4, x2.trans k3, k1, k2, hb, ha.mono fun _ _ z => rb.mono k3 z, by omega⟩
    | true =>
      refine ⟨(Cs.at S2 H2 σ (env g2), xs[i]), S5, g5, _, F5, hb, fun y g6 hyw v S6 H6 F6 x6 hv => ?_⟩
      obtain ⟨k1, k2, k3, k4⟩ := keepD F6
      have l1 := All2.length ha
      have e1 : (fun ws => P (ys ++ (y :: ws))) = (fun zs => P ((ys ++ [y]) ++ zs)) := by
        funext zs
        rw [List.append_assoc]
        rfl
      have hyw : lcW cf ef (xs.drop (i + 1)) g6 (fun ws => P (ys ++ (y :: ws))) := hyw
      rw [e1] at hyw
      exact ⟨acc, k1, by rw [l1]; exact Nat.lt_of_le_of_lt hy (Nat.lt_of_lt_of_le hlt W1.len), S6, g6, acc ++ [v], ys ++ [y], k4.other k1 k2 d0 (dO g6), x2.trans k3, upd_same, k2, hyw, (ha.mono fun _ _ z => rb.mono k3 z).snoc hv, by simp; omega⟩
  · have e : i = xs.length := by omega
    subst e
    rw [List.drop_length] at hz
    have hz : P (ys ++ []) g2 := hz
    rw [List.append_nil] at hz
    refine .inl ⟨W1.stop _ (Nat.le_refl _) F2 x2, ?_⟩
    have := q ys g2 hz D acc S2 (del H2 D) (F2.del sD2 d0 (dO g2)) (x1.trans x2) (by unfold del; simp) ha
    rw [upd_del hD2] at this
    exact this
theorem xn_lc {scope : Scope} {own : List (Str × Nat)} {ifs : List Expr} {elt : Expr} {mx : W (List α)} {up : Up α} {cf : α → W Bool} {ef : α → W β} (hc : X.calm = true) (hN : X.N.Nodup) (hi : PI X tg iter (tS C env re mx)) (ok : BlkOk X.N X.env.scope scope own)
    (hjs : (up.js.all fun j => (own.map (·.2)).contains j) = true) (hw : ∀ g, wipeOk (env g) (own.map (·.2)) = true)
    (hg : ∀ (s : Shared) (H : Hp) (C0 : Addr) (cl : List (Str × Addr)) (fp : List Addr), PG (X.blk s H scope (compEnvC scope cl C0 X.env) fp) tg (tG re up))
    (ht : ∀ (s : Shared) (H : Hp) (C0 : Addr) (cl : List (Str × Addr)) (fp : List Addr) (C' : Cs) (a : α), PTs (X.blk s H scope (compEnvC scope cl C0 X.env) fp) ifs (tT C' (fun g => up.f a (wipeE (env g) (own.map (·.2)))) (cf a)))
    (he : ∀ (s : Shared) (H : Hp) (C0 : Addr) (cl : List (Str × Addr)) (fp : List Addr) (C' : Cs) (a : α), PE (X.blk s H scope (compEnvC scope cl C0 X.env) fp) elt (tE C' (fun g => up.f a (wipeE (env g) (own.map (·.2)))) rb (ef a)))
    (hs : ∀ x, foldedSetIterable iter X.env x = pure x := by intro _; rfl) (hE : ∀ g g', Gs (env g) (env g') := by intro _ _; repeat (first | exact Gs.nil | apply Gs.keep | apply Gs.gh)) :
    PE X (.ListComp elt [⟨tg, iter, ifs, 0⟩] scope pos) (tN C env rb (mx.bind fun xs => lcW cf ef xs)) := by
  refine pe_imp (pe_lc (tt := fun σ H Q => ∃ p : Cs × α, tT p.1 (fun g => up.f p.2 (wipeE (env g) (own.map (·.2)))) (cf p.2) σ H Q) (te := fun σ H Q => ∃ p : Cs × α, tE p.1 (fun g => up.f p.2 (wipeE (env g) (own.map (·.2)))) rb (ef p.2) σ H Q) hc hN hi ok hg
    (fun s H C0 cl fp => ⟨fun pins s' σ H' Q I ⟨p, q⟩ => (ht s H C0 cl fp p.1 p.2).run pins s' σ H' Q I q⟩) (fun s H C0 cl fp => pe_ex fun p => he s H C0 cl fp p.1 p.2) hs) fun σ H Q _ h => lc_use hjs hw hE (by
      obtain ⟨S, g0, P, F, em, q⟩ := h
      exact ⟨S, g0, P, F, em, fun xs g1 px p vs S' H' F' eS hp ha _ => q xs g1 px p vs S' H' F' eS hp ha⟩)
/-- as long as there is room -/
def roomW {β : Type} (n : Nat) (w : W β) : W β := fun g P => n < 1000000 ∧ w g P
def roomO {β : Type} (n : Nat) (o : Option β) : Option β := if n < 1000000 then o else none
theorem ofO_room {β : Type} (n : Nat) (o : Option β) : ofO (roomO n o) = roomW n (ofO o) := by
  funext g P
  apply propext
  unfold roomO roomW
  split
  · rename_i h
    exact Iff.intro (fun z => ⟨h, z⟩) fun z => z.2
  · rename_i h
    exact Iff.intro (fun ⟨_, e, _⟩ => nomatch e) fun z => absurd z.1 h
/-- acc and [f y for y in ys if c y] -/
def lcWa {α β : Type} (c : α → W Bool) (f : α → W β) : List α → List β → W (List β)
  | [], acc => .ret acc
  | y :: ys, acc => (c y).bind fun b => if b = true then (f y).bind fun v => roomW acc.length (lcWa c f ys (acc ++ [v])) else lcWa c f ys acc
def lcOa {α β : Type} (c : α → Option Bool) (f : α → Option β) : List α → List β → Option (List β)
  | [], acc => some acc
  | y :: ys, acc => (c y).bind fun b => if b = true then (f y).bind fun v => roomO acc.length (lcOa c f ys (acc ++ [v])) else lcOa c f ys acc
theorem ofO_lca {α β : Type} (c : α → Option Bool) (f : α → Option β) : ∀ (ys : List α) (acc : List β), ofO (lcOa c f ys acc) = lcWa (fun x => ofO (c x)) (fun x => ofO (f x)) ys acc
  | [], acc => ofO_some acc
  | y :: ys, acc => by
    unfold lcOa lcWa
    rw [ofO_bind]
    congr 1
    funext b
    rw [ofO_if]
    congr 1
    · rw [ofO_bind]
      congr 1
      funext v
      rw [ofO_room, ofO_lca c f ys]
    · exact ofO_lca c f ys acc
/-- [f x y for x in xs if c x for y in ..]: h x adds to what there is -/
def lcW2 {α β : Type} (c : α → W Bool) (h : α → List β → W (List β)) : List α → List β → W (List β)
  | [], acc => .ret acc
  | x :: xs, acc => (c x).bind fun b => if b = true then (h x acc).bind fun acc' => lcW2 c h xs acc' else lcW2 c h xs acc
def lcO2 {α β : Type} (c : α → Option Bool) (h : α → List β → Option (List β)) : List α → List β → Option (List β)
  | [], acc => some acc
  | x :: xs, acc => (c x).bind fun b => if b = true then (h x acc).bind fun acc' => lcO2 c h xs acc' else lcO2 c h xs acc
theorem ofO_lc2 {α β : Type} (c : α → Option Bool) (h : α → List β → Option (List β)) : ∀ (xs : List α) (acc : List β), ofO (lcO2 c h xs acc) = lcW2 (fun x => ofO (c x)) (fun x acc => ofO (h x acc)) xs acc
  | [], acc => ofO_some acc
  | x :: xs, acc => by
    unfold lcO2 lcW2
    rw [ofO_bind]
    congr 1
    funext b
    rw [ofO_if]
    congr 1
    · rw [ofO_bind]
      congr 1
      funext acc'
      exact ofO_lc2 c h xs acc'
    · exact ofO_lc2 c h xs acc
theorem Fr.unwipeD {C : Cs} {S H S' H' : Hp} {σ σ2 : St} {env env' env2 : List Sl} {vs : List Nat} {D : Addr} (F : Fr C S H σ env) (d0 : C.H0 D = none) (hG : Gs env env') (hv : wipeOk env vs = true) (G : Fr ⟨owns σ env, S, Rt.del H D⟩ S' H' σ2 env2) (hσ : ∀ i, i ∉ vs → σ2[i]? = σ[i]?) (he : ∀ i, i ∉ vs → env2[i]? = env'[i]?) : Fr C S' H' σ env' := by
  have eo := (hG.owns σ).symm
  have nD : ∀ {b}, C.H0 b ≠ none → Rt.del H D b = H b := fun {b} e => by
    have : b ≠ D := fun z => e (by rw [z]; exact d0)
    unfold Rt.del
    rw [if_neg this]
  refine ⟨F.e0.trans G.e0, G.e1, fun b o e n => ?_, fun b s0 h0 => G.nw b (F.nw b s0 h0) (by show Rt.del H D b ≠ none; rw [nD h0]; exact F.al b h0), fun b h0 => G.al b (by show Rt.del H D b ≠ none; rw [nD h0]; exact F.al b h0), SlAll.of_get (σ := σ) (env := env') (F.sl.len.trans hG.length) fun i v s h1 h2 => ?_, fun p hp => F.ow p (by rw [← eo]; exact hp), by rw [eo]; exact F.nd, G.tc⟩
  · refine G.e2 b o (by show Rt.del H D b = some o; rw [nD (by rw [e]; exact fun z => nomatch z)]; exact F.e2 b o e n) fun hb => ?_
    rcases F.ow b hb with z | z
    · rw [z] at e
      cases e
    · exact n z
  · by_cases hi : i ∈ vs
    · have q := List.all_eq_true.mp hv i hi
      rcases hG.get i with e | ⟨d0, o0, o1, e1, e2⟩
      · have h2' : env[i]? = some s := e.trans h2
        obtain ⟨v', e', r⟩ := F.sl.get i h2'
        rw [h1] at e'
        cases e'
        rw [h2'] at q
        cases s with
        | un => exact True.intro
        | im r' a =>
          obtain ⟨x, e, z⟩ := r
          exact ⟨x, e, r'.mono G.e0 z⟩
        | ow _ _ => cases q
        | iv _ _ => cases q
        | ob _ _ => cases q
      · rw [e1] at q
        cases q
    · obtain ⟨v', e', r⟩ := G.sl.get i ((he i hi).trans h2)
      rw [hσ i hi, h1] at e'
      cases e'
      exact r
theorem Fr.hereD {C : Cs} {S H : Hp} {σ : St} {env : List Sl} (F : Fr C S H σ env) (D : Addr) : Fr ⟨owns σ env, S, Rt.del H D⟩ S H σ env := by
  have nD : ∀ {b}, Rt.del H D b ≠ none → Rt.del H D b = H b := fun {b} e => by
    unfold Rt.del at e ⊢
    split
    · rename_i z
      rw [if_pos z] at e
      exact absurd rfl e
    · rfl
  exact ⟨Ex.refl S, F.e1, fun b o e _ => by rw [← nD (by show Rt.del H D b ≠ none; rw [show Rt.del H D b = some o from e]; exact fun z => nomatch z)]; exact e, fun _ e _ => e, fun b h => by rw [← nD h]; exact h, F.sl, fun p hp => .inr hp, F.nd, F.tc⟩
theorem xn_lc2 {scope : Scope} {own : List (Str × Nat)} {vs1 : List Nat} {ifs ifs1 : List Expr} {elt tg1 iter1 : Expr} {mx : W (List α)} {up : Up α} {up1 : Up γ} {cf : α → W Bool} {mi : α → W (List γ)} {cf1 : α → γ → W Bool} {ef : α → γ → W β} (hc : X.calm = true) (hN : X.N.Nodup) (hi : PI X tg iter (tS C env re mx)) (ok : BlkOk X.N X.env.scope scope own) (hv1 : ∀ i ∈ vs1, i ∈ own.map (·.2))
    (hjs : (up.js.all fun j => (own.map (·.2)).contains j) = true) (hjs1 : (up1.js.all fun j => vs1.contains j) = true) (hw : ∀ g, wipeOk (env g) (own.map (·.2)) = true) (hw1 : ∀ g a, wipeOk (up.f a (wipeE (env g) (own.map (·.2)))) vs1 = true) (hw2 : ∀ g a, wipeOk (up.f a (wipeE (env g) (own.map (·.2)))) (own.map (·.2)) = true)
    (hg : ∀ (s : Shared) (H : Hp) (C0 : Addr) (cl : List (Str × Addr)) (fp : List Addr), PG (X.blk s H scope (compEnvC scope cl C0 X.env) fp) tg (tG re up))
    (ht : ∀ (s : Shared) (H : Hp) (C0 : Addr) (cl : List (Str × Addr)) (fp : List Addr) (C' : Cs) (a : α), PTs (X.blk s H scope (compEnvC scope cl C0 X.env) fp) ifs (tT C' (fun g => up.f a (wipeE (env g) (own.map (·.2)))) (cf a)))
    (hi1 : ∀ (s : Shared) (H : Hp) (C0 : Addr) (cl : List (Str × Addr)) (fp : List Addr) (C' : Cs) (a : α), PI (X.blk s H scope (compEnvC scope cl C0 X.env) fp) tg1 iter1 (tS C' (fun g => up.f a (wipeE (env g) (own.map (·.2)))) rc (mi a)))
    (hg1 : ∀ (s : Shared) (H : Hp) (C0 : Addr) (cl : List (Str × Addr)) (fp : List Addr), PG (X.blk s H scope (compEnvC scope cl C0 X.env) fp) tg1 (tG rc up1))
    (ht1 : ∀ (s : Shared) (H : Hp) (C0 : Addr) (cl : List (Str × Addr)) (fp : List Addr) (C' : Cs) (a : α) (b : γ), PTs (X.blk s H scope (compEnvC scope cl C0 X.env) fp) ifs1 (tT C' (fun g => up1.f b (wipeE (up.f a (wipeE (env g) (own.map (·.2)))) vs1)) (cf1 a b)))
    (he : ∀ (s : Shared) (H : Hp) (C0 : Addr) (cl : List (Str × Addr)) (fp : List Addr) (C' : Cs) (a : α) (b : γ), PE (X.blk s H scope (compEnvC scope cl C0 X.env) fp) elt (tE C' (fun g => up1.f b (wipeE (up.f a (wipeE (env g) (own.map (·.2)))) vs1)) rb (ef a b)))
    (hs : ∀ x, foldedSetIterable iter X.env x = pure x := by intro _; rfl) (hs1 : ∀ env x, foldedSetIterable iter1 env x = pure x := by intro _ _; rfl)
    (hE : ∀ g g', Gs (env g) (env g') := by intro _ _; repeat (first | exact Gs.nil | apply Gs.keep | apply Gs.gh)) (hE1 : ∀ g g' a, Gs (up.f a (wipeE (env g) (own.map (·.2)))) (up.f a (wipeE (env g') (own.map (·.2)))) := by intro _ _ _; repeat (first | exact Gs.nil | apply Gs.keep | apply Gs.gh)) :
    PE X (.ListComp elt [⟨tg, iter, ifs, 0⟩, ⟨tg1, iter1, ifs1, 0⟩] scope pos) (tN C env rb (mx.bind fun xs => lcW2 cf (fun a acc => (mi a).bind fun ys => lcWa (cf1 a) (ef a) ys acc) xs [])) := by
  have hjs' : ∀ j, j ∉ own.map (·.2) → j ∉ up.js := fun j hj z => hj (by
    have := List.all_eq_true.mp hjs j z
    simpa using this)
  have hjs1' : ∀ j, j ∉ vs1 → j ∉ up1.js := fun j hj z => hj (by
    have := List.all_eq_true.mp hjs1 j z
    simpa using this)
  refine pe_imp (pe_lc2 (tt := fun σ H Q => ∃ p : Cs × α, tT p.1 (fun g => up.f p.2 (wipeE (env g) (own.map (·.2)))) (cf p.2) σ H Q)
    (wi1 := fun σ H Q => ∃ p : Cs × α, tS p.1 (fun g => up.f p.2 (wipeE (env g) (own.map (·.2)))) rc (mi p.2) σ H Q)
    (tt1 := fun σ H Q => ∃ p : Cs × α × γ, tT p.1 (fun g => up1.f p.2.2 (wipeE (up.f p.2.1 (wipeE (env g) (own.map (·.2)))) vs1)) (cf1 p.2.1 p.2.2) σ H Q)
    (te := fun σ H Q => ∃ p : Cs × α × γ, tE p.1 (fun g => up1.f p.2.2 (wipeE (up.f p.2.1 (wipeE (env g) (own.map (·.2)))) vs1)) rb (ef p.2.1 p.2.2) σ H Q) hc hN hi ok hv1 hg
    (fun s H C0 cl fp => ⟨fun pins s' σ H' Q I ⟨p, q⟩ => (ht s H C0 cl fp p.1 p.2).run pins s' σ H' Q I q⟩)
    (fun s H C0 cl fp => ⟨fun pins s' σ H' Q I ⟨p, q⟩ => (hi1 s H C0 cl fp p.1 p.2).run pins s' σ H' Q I q⟩) hg1
    (fun s H C0 cl fp => ⟨fun pins s' σ H' Q I ⟨p, q⟩ => (ht1 s H C0 cl fp p.1 p.2.1 p.2.2).run pins s' σ H' Q I q⟩) (fun s H C0 cl fp => pe_ex fun p => he s H C0 cl fp p.1 p.2.1 p.2.2) hs hs1) fun σ H Q _ ⟨S, g0, P, F, em, q⟩ => ?_
  refine ⟨S, g0, _, F, em, fun xs g1 em J S1 H1 F1 x1 W1 D hD => ?_⟩
  have d0 : C.H0 D = none := F1.H0none hD
  have dO1 : D ∉ owns σ (env g1) := fun z => by
    obtain ⟨_, o, e⟩ := F1.sl.own z
    rw [hD] at e
    cases e
  have dO : ∀ g, D ∉ owns σ (env g) := fun g z => dO1 ((hE g g1).owns σ ▸ z)
  have dS : S1 D = none := F1.e1.back hD
  refine ⟨fun i m H => m = xs.length - i ∧ i ≤ xs.length ∧ ∃ S g acc ys, Fr C S H σ (env g) ∧ Ex S1 S ∧ H D = some (.lst acc) ∧ S D = none ∧ lcW2 cf (fun a acc => (mi a).bind fun ys => lcWa (cf1 a) (ef a) ys acc) (xs.drop i) ys g P ∧ All2 (rb.p S) acc ys,
    ⟨xs.length, rfl, Nat.zero_le _, S1, g1, [], [], F1.add hD, Ex.refl S1, upd_same, dS, em, True.intro⟩, ?_⟩
  rintro i m H2 ⟨rfl, hi2, S2, g2, acc, ys, F2, x2, hD2, sD2, hz, ha⟩
  by_cases hlt : i < xs.length
  · have hxi : xs[i]? = some xs[i] := List.getElem?_eq_getElem hlt
    have hz' := hz
    rw [drop_cons hxi] at hz'
    unfold lcW2 at hz'
    refine .inr ⟨W1.go i hlt F2 x2, fun H' => ∃ S g acc ys, Fr C S H' σ (env g) ∧ Ex S1 S ∧ H' D = some (.lst acc) ∧ S D = none ∧ lcW2 cf (fun a acc => (mi a).bind fun ys => lcWa (cf1 a) (ef a) ys acc) (xs.drop (i + 1)) ys g P ∧ All2 (rb.p S) acc ys,
      fun H' h' => ⟨xs.length - (i + 1), by omega, rfl, hlt, h'⟩, fun x H3 hy3 => ?_⟩
    let C' : Cs := ⟨owns σ (env g2), S2, Rt.del H2 D⟩
    have c0 : C'.H0 D = none := by
      show Rt.del H2 D D = none
      unfold Rt.del
      simp
    have F2' : Fr C' S2 H2 σ (env g2) := F2.hereD D
    have Fb := F2'.wipe (own.map (·.2))
    obtain ⟨S3, F3, x3, xH3, n3, r3⟩ := W1.yld i x H3 xs[i] Fb x2 hy3 hxi
    have hD3 : H3 D = some (.lst acc) := xH3 _ _ hD2
    have sD3 : S3 D = none := n3 D sD2 (by rw [hD2]; exact fun z => nomatch z)
    refine ⟨C', S3, _, xs[i], F3, r3, fun σ4 l4 n4 F4 => ?_⟩
    have hσ4 : ∀ j, j ∉ own.map (·.2) → σ4[j]? = σ[j]? := fun j hj => (n4 j (hjs' j hj)).trans (wipe_get hj)
    have hev : ∀ g j, j ∉ own.map (·.2) → (up.f xs[i] (wipeE (env g) (own.map (·.2))))[j]? = (env g)[j]? := fun g j hj => (up.ok _ _ j (hjs' j hj)).trans (wipeE_get hj)
    have hlen4 : σ4.length = σ.length := l4.trans (wipe_length _ _)
    refine ⟨wipe_same hlen4 hσ4, (Cs.at S3 H3 σ4 (up.f xs[i] (wipeE (env g2) (own.map (·.2)))), xs[i]), ?_⟩
    -- back at the outer one
    have back : ∀ {S' H' g}, Fr C' S' H' σ4 (up.f xs[i] (wipeE (env g) (own.map (·.2)))) → Fr C S' H' σ (env g) := fun {S' H' g} G => F2.unwipeD d0 (hE g2 g) (hw g2) G hσ4 (hev g)
    -- D is none of the own ones
    have dO4 : ∀ {S' H' g}, Fr C' S' H' σ4 (up.f xs[i] (wipeE (env g) (own.map (·.2)))) → D ∉ owns σ4 (up.f xs[i] (wipeE (env g) (own.map (·.2)))) := fun {S' H' g} G z => by
      have G2 := back G
      obtain ⟨j, s, e1, e2, e3⟩ := owns_of z
      by_cases hj : j ∈ own.map (·.2)
      · have q := List.all_eq_true.mp (hw2 g xs[i]) j hj
        rw [e1] at q
        cases s with
        | un => cases e3
        | im _ _ => cases e3
        | ow _ _ => cases q
        | iv _ _ => cases q
        | ob _ _ => cases q
      · have : D ∈ owns σ (env g) := owns_mem_get j ((hev g j hj).symm.trans e1) ((hσ4 j hj).symm.trans e2) e3
        exact dO g this
    have keep : ∀ {S' H' S'' H'' g g'}, Fr C' S' H' σ4 (up.f xs[i] (wipeE (env g) (own.map (·.2)))) → H' D = some (.lst acc) → S' D = none → Fr (Cs.at S' H' σ4 (up.f xs[i] (wipeE (env g) (own.map (·.2))))) S'' H'' σ4 (up.f xs[i] (wipeE (env g') (own.map (·.2)))) →
        Fr C' S'' H'' σ4 (up.f xs[i] (wipeE (env g') (own.map (·.2)))) ∧ H'' D = some (.lst acc) ∧ S'' D = none ∧ Ex S' S'' := fun {S' H' S'' H'' g g'} G h1 h2 G' =>
      ⟨G.backG ((hE1 g' g xs[i]).owns σ4) G', G'.e2 D _ h1 (dO4 G), G'.nw D h2 (by show H' D ≠ none; rw [h1]; exact fun z => nomatch z), G'.e0⟩
    refine ⟨S3, g2, _, F4.here, hz', fun b g5 hb S5 H5 F5 x5 => ?_⟩
    obtain ⟨G5, hD5, sD5, _⟩ := keep F4 hD3 sD3 F5
    cases b with
    | false => exact ⟨S5, g5, acc, ys, back G5, x2.trans (x3.trans x5), hD5, sD5, hb, ha.mono fun _ _ z => rb.mono (x3.trans x5) z⟩
    | true =>
      refine ⟨(Cs.at S5 H5 σ4 _, xs[i]), S5, g5, _, G5.here, hb, fun zs1 g6 hz6 J1 S6 H6 F6 x6 W2 => ?_⟩
      obtain ⟨G6, hD6, sD6, _⟩ := keep G5 hD5 sD5 F6
      refine ⟨fun j k H => k = zs1.length - j ∧ j ≤ zs1.length ∧ ∃ S g acc ys, Fr C' S H σ4 (up.f xs[i] (wipeE (env g) (own.map (·.2)))) ∧ Ex S6 S ∧ H D = some (.lst acc) ∧ S D = none ∧
          lcWa (cf1 xs[i]) (ef xs[i]) (zs1.drop j) ys g (fun acc' g' => lcW2 cf (fun a acc => (mi a).bind fun ys => lcWa (cf1 a) (ef a) ys acc) (xs.drop (i + 1)) acc' g' P) ∧ All2 (rb.p S) acc ys,
        ⟨zs1.length, rfl, Nat.zero_le _, S6, g6, acc, ys, G6, Ex.refl S6, hD6, sD6, hz6, ha.mono fun _ _ z => rb.mono (x3.trans (x5.trans x6)) z⟩, ?_⟩
      rintro j k H7 ⟨rfl, hj2, S7, g7, acc7, ys7, G7, x7, hD7, sD7, hz7, ha7⟩
      by_cases hlt1 : j < zs1.length
      · have hxj : zs1[j]? = some zs1[j] := List.getElem?_eq_getElem hlt1
        have hz8 := hz7
        rw [drop_cons hxj] at hz8
        unfold lcWa at hz8
        refine .inr ⟨W2.go j hlt1 G7 x7, fun H => ∃ S g acc ys, Fr C' S H σ4 (up.f xs[i] (wipeE (env g) (own.map (·.2)))) ∧ Ex S6 S ∧ H D = some (.lst acc) ∧ S D = none ∧
          lcWa (cf1 xs[i]) (ef xs[i]) (zs1.drop (j + 1)) ys g (fun acc' g' => lcW2 cf (fun a acc => (mi a).bind fun ys => lcWa (cf1 a) (ef a) ys acc) (xs.drop (i + 1)) acc' g' P) ∧ All2 (rb.p S) acc ys,
          fun H' h' => ⟨zs1.length - (j + 1), by omega, rfl, hlt1, h'⟩, fun y H8 hy8 => ?_⟩
        have Gb := G7.here.wipe vs1
        obtain ⟨S8, F8, x8, xH8, n8, r8⟩ := W2.yld j y H8 zs1[j] Gb x7 hy8 hxj
        refine ⟨Cs.at S7 H7 σ4 (up.f xs[i] (wipeE (env g7) (own.map (·.2)))), S8, _, zs1[j], F8, r8, fun σ5 l5 n5 F9 => ?_⟩
        have hσ5 : ∀ j, j ∉ vs1 → σ5[j]? = σ4[j]? := fun j hj => (n5 j (hjs1' j hj)).trans (wipe_get hj)
        have hev1 : ∀ g j', j' ∉ vs1 → (up1.f zs1[j] (wipeE (up.f xs[i] (wipeE (env g) (own.map (·.2)))) vs1))[j']? = (up.f xs[i] (wipeE (env g) (own.map (·.2))))[j']? := fun g j' hj => (up1.ok _ _ j' (hjs1' j' hj)).trans (wipeE_get hj)
        have hlen5 : σ5.length = σ4.length := l5.trans (wipe_length _ _)
        refine ⟨wipe_same hlen5 hσ5, (Cs.at S7 H7 σ4 (up.f xs[i] (wipeE (env g7) (own.map (·.2)))), xs[i], zs1[j]), ?_⟩
        have keep1 : ∀ {S' H' g}, Fr (Cs.at S7 H7 σ4 (up.f xs[i] (wipeE (env g7) (own.map (·.2))))) S' H' σ5 (up1.f zs1[j] (wipeE (up.f xs[i] (wipeE (env g) (own.map (·.2)))) vs1)) →
            H' D = some (.lst acc7) ∧ S' D = none ∧ Ex S7 S' ∧ Fr C' S' H' σ4 (up.f xs[i] (wipeE (env g) (own.map (·.2)))) := fun {S' H' g} G =>
          ⟨G.e2 D _ hD7 (dO4 G7), G.nw D sD7 (by show H7 D ≠ none; rw [hD7]; exact fun z => nomatch z), G.e0, G7.unwipe (hE1 g7 g xs[i]) (hw1 g7 xs[i]) G hσ5 (hev1 g)⟩
        refine ⟨S8, g7, _, F9, hz8, fun b g10 hb10 S10 H10 F10 x10 => ?_⟩
        cases b with
        | false =>
          obtain ⟨k1, k2, k3, k4⟩ := keep1 F10
          exact ⟨S10, g10, acc7, ys7, k4, x7.trans k3, k1, k2, hb10, ha7.mono fun _ _ z => rb.mono k3 z⟩
        | true =>
          refine ⟨(Cs.at S7 H7 σ4 (up.f xs[i] (wipeE (env g7) (own.map (·.2)))), xs[i], zs1[j]), S10, g10, _, F10, hb10, fun v g11 ⟨hroom, hv11⟩ u S11 H11 F11 x11 hu => ?_⟩
          obtain ⟨k1, k2, k3, k4⟩ := keep1 F11
          have l1 := All2.length ha7
          exact ⟨acc7, k1, by rw [l1, sizeLine_eq]; omega, S11, g11, acc7 ++ [u], ys7 ++ [v], k4.other k1 k2 c0 (dO4 k4), x7.trans k3, upd_same, k2, hv11, (ha7.mono fun _ _ z => rb.mono k3 z).snoc hu⟩
      · have e : j = zs1.length := by omega
        subst e
        rw [List.drop_length] at hz7
        exact .inl ⟨W2.stop _ (Nat.le_refl _) G7 x7, S7, g7, acc7, ys7, back G7, x2.trans (x3.trans (x5.trans (x6.trans x7))), hD7, sD7, hz7, ha7⟩
  · have e : i = xs.length := by omega
    subst e
    rw [List.drop_length] at hz
    have hz : P ys g2 := hz
    refine .inl ⟨W1.stop _ (Nat.le_refl _) F2 x2, ?_⟩
    have := q ys g2 hz D acc S2 (del H2 D) (F2.del sD2 d0 (dO g2)) (x1.trans x2) (by unfold del; simp) ha
    rw [upd_del hD2] at this
    exact fun _ => this
theorem xts_nil {env' : Gh → List Sl} {C' : Cs} : PTs X [] (tT C' env' (.ret true)) := ⟨fun pins s σ H Q I ⟨S, g0, P, F, em, q⟩ => pts_nil.run pins s σ H Q I (q _ _ em S H F (Ex.refl S))⟩
theorem xts_one {env' : Gh → List Sl} {C' : Cs} {m : W Bool} (h : PT X a (tT C' env' m)) : PTs X [a] (tT C' env' m) := pts_one h
end

/-! ### the text's own defs -/
def Post {ρ : Type} (S H : Hp) (r : Rp ρ) (o : ρ) (Q : VK) : Prop := ∀ v S' H', Ex S S' → Ex S' H' → Ex H H' → (∀ b, S b = none → H b ≠ none → S' b = none) → Tc S' H' → r.p S' v o → Q v H'
/-- f(..) gives what f gives, and changes nothing -/
def SpF {α ρ : Type} (ra : Ra α) (r : Rp ρ) (f : α → Option ρ) : Sp := fun vs H Q _ => ∃ S a o, Ex S H ∧ Tc S H ∧ ra.p S vs a ∧ f a = some o ∧ Post S H r o Q
section
variable {X : Cx} {C : Cs} {env : Gh → List Sl} {e : Expr} {es : List Expr} {pos p : Pos} {α ρ : Type} {ra : Ra α} {r : Rp ρ} {f : α → Option ρ} {m : W α}
theorem xe_call {π : Around → Prop} {k : Nat} {fa : Addr} {fd : FuncData} {ps : List Str} {x : Str} (F : FnP π X.prog X.w X.K X.mg X.base CX0 k fa fd ps (SpF ra r f)) (hpi : π X.A) (hr : Room k X.A) (hg : Gl X x) (hm : X.mg x = some (.ref fa)) (hk : PySem.W.keepIn X.K (.ref fa) = true) (hb : Binds X.K fd ps [])
    (ha : PA X (e :: es) (tA C env ra m)) (hdb : (x == ("__debug__" : Str)) = false := by decide) (he : starEach (e :: es) X.env = (false, eval e X.env) :: starEach es X.env := by rfl) (hpl : (backTo pos (starEach es X.env)).any (·.1) = false := by rfl) :
    PE X (.Call (.Name x p) (e :: es) [] pos) (tE C env r (m.bind fun a => ofO (f a))) :=
  pe_imp (pe_callP F hpi hr hg hm hk hb .nil pass0 ha hdb he hpl) fun σ H Q _ ⟨S, g0, P, Fr1, em, q⟩ => ⟨S, g0, _, Fr1, em, fun a g1 ⟨o, eo, po⟩ vs S1 H1 F1 x1 hv => by
    show SpF ra r f (vs ++ []) H1 _ E0
    rw [List.append_nil]
    exact ⟨S1, a, o, F1.e1, F1.tc, hv, eo, fun v S' H' eS eH eHH n t hr' _ => q o g1 po v S' H' (F1.call eS eH eHH n t) (x1.trans eS) hr'⟩⟩
end
end Rt

set_option maxRecDepth 100000
set_option maxHeartbeats 4000000
/-! Rt6: statements over data, defs. -/
namespace Rt
open PySem L2

/-- how a block ends: it goes on with data, gives a value back, breaks, goes on with the next turn -/
inductive Fl (ρ β γ : Type) where
  | nx (b : β) | rt (a : ρ) | br (c : γ) | ct (c : γ)
def Fl.up {ρ β γ : Type} : Fl ρ Empty γ → Fl ρ β γ
  | .nx b => nomatch b
  | .rt a => .rt a
  | .br c => .br c
  | .ct c => .ct c
def W.no {α : Type} : W α := fun _ _ => False
theorem ofO_no {α : Type} : ofO (none : Option α) = W.no := by
  funext g P
  exact propext (Iff.intro (fun ⟨_, e, _⟩ => nomatch e) fun h => h.elim)
def upF {ρ β γ : Type} (o : W (Fl ρ Empty γ)) : W (Fl ρ β γ) := o.bind fun x => .ret x.up
def bindK {ρ β β' γ : Type} (k : β → W (Fl ρ β' γ)) : Fl ρ β γ → W (Fl ρ β' γ)
  | .nx b => k b
  | .rt a => .ret (.rt a)
  | .br c => .ret (.br c)
  | .ct c => .ret (.ct c)
def bindF {ρ β β' γ : Type} (o : W (Fl ρ β γ)) (k : β → W (Fl ρ β' γ)) : W (Fl ρ β' γ) := o.bind (bindK k)
/-- how a turn ends -/
def turnK {ρ γ γ' : Type} (k : γ → W (Fl ρ γ γ')) : Fl ρ γ γ → W (Fl ρ γ γ')
  | .nx s => k s
  | .ct s => k s
  | .br s => .ret (.nx s)
  | .rt a => .ret (.rt a)
/-- a loop over a list, from s on -/
def forL {ρ α γ γ' : Type} (f : γ → α → W (Fl ρ γ γ)) : List α → γ → W (Fl ρ γ γ')
  | [], s => .ret (.nx s)
  | x :: xs, s => (f s x).bind (turnK (forL f xs))
def whileL {ρ γ γ' : Type} (c : γ → W Bool) (f : γ → W (Fl ρ γ γ)) : Nat → γ → W (Fl ρ γ γ')
  | 0, _ => .no
  | n + 1, s => (c s).bind fun b => if b = true then (f s).bind (turnK (whileL c f n)) else .ret (.nx s)
/-- what a def gives -/
def rtK {ρ β γ : Type} : Fl ρ β γ → W ρ
  | .rt a => .ret a
  | _ => .no
def rtOf {ρ β γ : Type} (o : W (Fl ρ β γ)) : W ρ := o.bind rtK
/-- .. a def that gives None -/
def rtKN {β γ : Type} : Fl Unit β γ → W Unit
  | .rt a => .ret a
  | .nx _ => .ret ()
  | _ => .no
def rtN {β γ : Type} (o : W (Fl Unit β γ)) : W Unit := o.bind rtKN

/-! the same, reckoned -/
def upO {ρ β γ : Type} (o : Option (Fl ρ Empty γ)) : Option (Fl ρ β γ) := o.bind fun x => some x.up
def bindKO {ρ β β' γ : Type} (k : β → Option (Fl ρ β' γ)) : Fl ρ β γ → Option (Fl ρ β' γ)
  | .nx b => k b
  | .rt a => some (.rt a)
  | .br c => some (.br c)
  | .ct c => some (.ct c)
def bindFO {ρ β β' γ : Type} (o : Option (Fl ρ β γ)) (k : β → Option (Fl ρ β' γ)) : Option (Fl ρ β' γ) := o.bind (bindKO k)
def turnKO {ρ γ γ' : Type} (k : γ → Option (Fl ρ γ γ')) : Fl ρ γ γ → Option (Fl ρ γ γ')
  | .nx s => k s
  | .ct s => k s
  | .br s => some (.nx s)
  | .rt a => some (.rt a)
def forO {ρ α γ γ' : Type} (f : γ → α → Option (Fl ρ γ γ)) : List α → γ → Option (Fl ρ γ γ')
  | [], s => some (.nx s)
  | x :: xs, s => (f s x).bind (turnKO (forO f xs))
def whileO {ρ γ γ' : Type} (c : γ → Option Bool) (f : γ → Option (Fl ρ γ γ)) : Nat → γ → Option (Fl ρ γ γ')
  | 0, _ => none
  | n + 1, s => (c s).bind fun b => if b = true then (f s).bind (turnKO (whileO c f n)) else some (.nx s)
def rtKO {ρ β γ : Type} : Fl ρ β γ → Option ρ
  | .rt a => some a
  | _ => none
def rtO {ρ β γ : Type} (o : Option (Fl ρ β γ)) : Option ρ := o.bind rtKO
def rtKNO {β γ : Type} : Fl Unit β γ → Option Unit
  | .rt a => some a
  | .nx _ => some ()
  | _ => none
def rtNO {β γ : Type} (o : Option (Fl Unit β γ)) : Option Unit := o.bind rtKNO
theorem ofO_up {ρ β γ : Type} (o : Option (Fl ρ Empty γ)) : ofO (upO (β := β) o) = upF (ofO o) := by
  unfold upO upF
  rw [ofO_bind]
  congr 1
  funext x
  exact ofO_some _
theorem ofO_bindK {ρ β β' γ : Type} (k : β → Option (Fl ρ β' γ)) (x : Fl ρ β γ) : ofO (bindKO k x) = bindK (fun b => ofO (k b)) x := by
  cases x with
  | nx b => rfl
  | rt a => exact ofO_some _
  | br c => exact ofO_some _
  | ct c => exact ofO_some _
theorem ofO_bindF {ρ β β' γ : Type} (o : Option (Fl ρ β γ)) (k : β → Option (Fl ρ β' γ)) : ofO (bindFO o k) = bindF (ofO o) fun b => ofO (k b) := by
  unfold bindFO bindF
  rw [ofO_bind]
  congr 1
  funext x
  exact ofO_bindK k x
theorem ofO_turnK {ρ γ γ' : Type} (k : γ → Option (Fl ρ γ γ')) (x : Fl ρ γ γ) : ofO (turnKO k x) = turnK (fun b => ofO (k b)) x := by
  cases x with
  | nx b => rfl
  | ct b => rfl
  | rt a => exact ofO_some _
  | br c => exact ofO_some _
theorem ofO_for {ρ α γ γ' : Type} (f : γ → α → Option (Fl ρ γ γ)) : ∀ (xs : List α) (s : γ), ofO (forO (γ' := γ') f xs s) = forL (fun s x => ofO (f s x)) xs s
  | [], s => ofO_some _
  | x :: xs, s => by
    unfold forO forL
    rw [ofO_bind]
    congr 1
    funext o
    rw [ofO_turnK]
    congr 1
    funext s'
    exact ofO_for f xs s'
theorem ofO_while {ρ γ γ' : Type} (c : γ → Option Bool) (f : γ → Option (Fl ρ γ γ)) : ∀ (n : Nat) (s : γ), ofO (whileO (γ' := γ') c f n s) = whileL (fun s => ofO (c s)) (fun s => ofO (f s)) n s
  | 0, s => ofO_no
  | n + 1, s => by
    unfold whileO whileL
    rw [ofO_bind]
    congr 1
    funext b
    rw [ofO_if, ofO_bind, ofO_some]
    congr 1
    congr 1
    funext o
    rw [ofO_turnK]
    congr 1
    funext s'
    exact ofO_while c f n s'
theorem ofO_rt {ρ β γ : Type} (o : Option (Fl ρ β γ)) : ofO (rtO o) = rtOf (ofO o) := by
  unfold rtO rtOf
  rw [ofO_bind]
  congr 1
  funext x
  cases x with
  | rt a => exact ofO_some _
  | nx b => exact ofO_no
  | br c => exact ofO_no
  | ct c => exact ofO_no
theorem ofO_rtN {β γ : Type} (o : Option (Fl Unit β γ)) : ofO (rtNO o) = rtN (ofO o) := by
  unfold rtNO rtN
  rw [ofO_bind]
  congr 1
  funext x
  cases x with
  | rt a => exact ofO_some _
  | nx b => exact ofO_some _
  | br c => exact ofO_no
  | ct c => exact ofO_no

/-- the shared object: a list of ints -/
def oD (g : Gh) : HO := .lst (g.map V.int)
/-- the ends, by the data; kp: what is known still where a value is given back -/
def EndF (C : Cs) (S : Hp) {ρ β γ : Type} (kp : Gh → List Sl) (pn : β → Gh → List Sl) (pl : γ → Gh → List Sl) (r : Rp ρ) (D : Ends) (g : Gh) : Fl ρ β γ → Prop
  | .nx b => ∀ S' H' σ', Fr C S' H' σ' (pn b g) → Ex S S' → D.nx σ' H'
  | .rt a => ∀ v S' H' σ', Fr C S' H' σ' (kp g) → Ex S S' → r.p S' v a → D.rt v H'
  | .br c => ∀ S' H' σ', Fr C S' H' σ' (pl c g) → Ex S S' → D.bk σ' H'
  | .ct c => ∀ S' H' σ', Fr C S' H' σ' (pl c g) → Ex S S' → D.ct σ' H'
def tF (C : Cs) (env : Gh → List Sl) {ρ β γ : Type} (m : W (Fl ρ β γ)) (pn : β → Gh → List Sl) (pl : γ → Gh → List Sl) (kp : Gh → List Sl) (r : Rp ρ) : TS := fun D σ H => ∃ S g P, Fr C S H σ (env g) ∧ m g P ∧ ∀ o g', P o g' → EndF C S kp pn pl r D g' o
theorem EndF.mono {C : Cs} {S S2 : Hp} {ρ β γ : Type} {kp : Gh → List Sl} {pn : β → Gh → List Sl} {pl : γ → Gh → List Sl} {r : Rp ρ} {D : Ends} {g : Gh} {o : Fl ρ β γ} (e : Ex S S2) (h : EndF C S kp pn pl r D g o) : EndF C S2 kp pn pl r D g o := by
  cases o with
  | nx b => exact fun S' H' σ' F x => h S' H' σ' F (e.trans x)
  | rt a => exact fun v S' H' σ' F x q => h v S' H' σ' F (e.trans x) q
  | br c => exact fun S' H' σ' F x => h S' H' σ' F (e.trans x)
  | ct c => exact fun S' H' σ' F x => h S' H' σ' F (e.trans x)
/-- less is known -/
inductive Le : List Sl → List Sl → Prop
  | nil : Le [] []
  | keep {s : Sl} {a b : List Sl} : Le a b → Le (s :: a) (s :: b)
  | drop {s : Sl} {a b : List Sl} : Le a b → Le (s :: a) (.un :: b)
theorem Le.refl : ∀ a : List Sl, Le a a
  | [] => .nil
  | _ :: a => .keep (Le.refl a)
theorem Le.sl {S H : Hp} : ∀ {σ : St} {a b : List Sl}, Le a b → SlAll S H σ a → SlAll S H σ b
  | [], _, _, .nil, _ => True.intro
  | _ :: _, _, _, .keep l, ⟨x, y⟩ => ⟨x, Le.sl l y⟩
  | _ :: _, _, _, .drop l, ⟨_, y⟩ => ⟨True.intro, Le.sl l y⟩
  | _ :: _, _, _, .nil, h => h.elim
  | [], _, _, .keep _, h => h.elim
  | [], _, _, .drop _, h => h.elim
theorem Le.owns : ∀ {σ : St} {a b : List Sl}, Le a b → (owns σ b).Sublist (owns σ a)
  | [], _, _, _ => by simp [Rt.owns]
  | _ :: _, _, _, .nil => by simp [Rt.owns]
  | v :: _, _, _, .keep l => by
    unfold Rt.owns
    exact (List.Sublist.refl _).append (Le.owns l)
  | v :: _, s :: _, _, .drop l => by
    unfold Rt.owns
    have : ownOf v Sl.un = [] := by cases v with | none => rfl | some v => cases v <;> rfl
    rw [this, List.nil_append]
    exact (Le.owns l).trans (List.sublist_append_right _ _)
theorem Fr.le {C : Cs} {S H : Hp} {σ : St} {a b : List Sl} (F : Fr C S H σ a) (l : Le a b) : Fr C S H σ b :=
  ⟨F.e0, F.e1, F.e2, F.nw, F.al, l.sl F.sl, fun p hp => F.ow p (l.owns.subset hp), F.nd.sublist l.owns, F.tc⟩
theorem SlAll.take {S H : Hp} : ∀ (n : Nat) {σ : St} {a : List Sl}, SlAll S H σ a → SlAll S H (σ.take n) (a.take n)
  | 0, _, _, _ => by simp [SlAll]
  | n + 1, [], [], _ => True.intro
  | n + 1, _ :: _, _ :: _, h => ⟨h.1, SlAll.take n h.2⟩
  | _ + 1, [], _ :: _, h => h.elim
  | _ + 1, _ :: _, [], h => h.elim
theorem owns_take : ∀ (n : Nat) {σ : St} {a : List Sl}, (Rt.owns (σ.take n) (a.take n)).Sublist (Rt.owns σ a)
  | 0, _, _ => by simp [Rt.owns]
  | n + 1, [], _ => by simp [Rt.owns]
  | n + 1, _ :: _, [] => by simp [Rt.owns]
  | n + 1, v :: σ, s :: a => by
    show (ownOf v s ++ Rt.owns (σ.take n) (a.take n)).Sublist (ownOf v s ++ Rt.owns σ a)
    exact (List.Sublist.refl _).append (owns_take n)
theorem Fr.take {C : Cs} {S H : Hp} {σ : St} {a : List Sl} (n : Nat) (F : Fr C S H σ a) : Fr C S H (σ.take n) (a.take n) :=
  ⟨F.e0, F.e1, F.e2, F.nw, F.al, F.sl.take n, fun p hp => F.ow p ((owns_take n).subset hp), F.nd.sublist (owns_take n), F.tc⟩
/-- what is kept: the first slots -/
def Kp (env kp : Gh → List Sl) : Prop := ∃ n, ∀ g, kp g = (env g).take n
theorem Fr.kp {C : Cs} {S H : Hp} {σ : St} {env kp : Gh → List Sl} {g : Gh} (k : Kp env kp) (F : Fr C S H σ (env g)) : ∃ σ', Fr C S H σ' (kp g) := by
  obtain ⟨n, e⟩ := k
  exact ⟨σ.take n, by rw [e g]; exact F.take n⟩

section
variable {X : Cx} {C : Cs} {env kp : Gh → List Sl} {e a b c tg iter : Expr} {es : List Expr} {A B rest : List Stmt} {st : Stmt} {pos : Pos} {α β γ δ ρ τ : Type} {r : Rp ρ} {ra re : Rp α} {rb : Rp β} {ma : W α} {mb : W β} {k : Bool} {pn : β → Gh → List Sl} {pl : γ → Gh → List Sl} {pt : τ → Gh → List Sl}
/-! ### blocks -/
theorem xs_nil {v : β} (l : ∀ g, Le (env g) (pn v g)) : PSs X [] (tF C env (.ret (.nx v)) pn pl kp r) := pss_imp pss_nil fun D σ H _ ⟨S, g0, P, F, em, q⟩ => q _ _ em S H σ (F.le (l _)) (Ex.refl S)
theorem xs_ret {m : W ρ} (h : PE X e (tE C env r m)) (hk : Kp env kp := by first | exact ⟨0, fun _ => rfl⟩ | exact ⟨1, fun _ => rfl⟩) : PSs X (.Return (some e) pos :: rest) (tF C env (m.bind fun x => .ret (.rt x)) pn pl kp r) := pss_imp (pss_cons (ps_ret h) pss_never) fun D σ H _ ⟨S, g0, P, F, em, q⟩ =>
  ⟨S, g0, _, F, em, fun x g1 px v S1 H1 F1 x1 hv => let ⟨σ', F'⟩ := F1.kp hk; q _ _ px v S1 H1 σ' F' x1 hv⟩
theorem xs_brk {v : γ} (l : ∀ g, Le (env g) (pl v g)) : PSs X (.Break pos :: rest) (tF C env (.ret (.br v)) pn pl kp r) := pss_imp (pss_cons ps_break pss_never) fun D σ H _ ⟨S, g0, P, F, em, q⟩ => q _ _ em S H σ (F.le (l _)) (Ex.refl S)
theorem xs_cont {v : γ} (l : ∀ g, Le (env g) (pl v g)) : PSs X (.Continue pos :: rest) (tF C env (.ret (.ct v)) pn pl kp r) := pss_imp (pss_cons ps_continue pss_never) fun D σ H _ ⟨S, g0, P, F, em, q⟩ => q _ _ em S H σ (F.le (l _)) (Ex.refl S)
/-- what isn't come to -/
theorem xs_never : PSs X A (tF C env (.no : W (Fl ρ β γ)) pn pl kp r) := pss_imp pss_never fun D σ H _ ⟨S, g0, P, F, em, q⟩ => em.elim
/-- name = e -/
theorem xs_set {i : Nat} {x : Str} {py : Pos} {m : W α} {K : α → W (Fl ρ β γ)} (h : PE X e (tE C env re m)) (hr : ∀ a, PSs X rest (tF C (fun g => (env g).set i (.im re a)) (K a) pn pl kp r)) (hN : X.N.Nodup) (hi : X.N[i]? = some x) (hx : Loc X.env.scope x) (hs : swapsWith e (some (.Name x py)) pos.line X.env = pure false)
    (hf : X.fn x = true) : PSs X (.Assign [.Name x py] e pos :: rest) (tF C env (m.bind K) pn pl kp r) :=
  pss_imp (pss_cons (ps_set hN hi hx h hs (.inl hf)) (pss_ex hr)) fun D σ H _ ⟨S, g0, P, F, em, q⟩ =>
    ⟨S, g0, _, F, em, fun a g1 pa v S1 H1 F1 x1 hv => ⟨a, S1, _, P, F1.setIm i hv, pa, fun o g9 po => (q o g9 po).mono x1⟩⟩
/-- name = a new list, the def's own -/
theorem xs_setN {i : Nat} {x : Str} {py : Pos} {m : W (List α)} {K : List α → W (Fl ρ β γ)} (h : PE X e (tN C env re m)) (hr : ∀ a, PSs X rest (tF C (fun g => (env g).set i (.ow re a)) (K a) pn pl kp r)) (hN : X.N.Nodup) (hi : X.N[i]? = some x) (hx : Loc X.env.scope x) (hs : swapsWith e (some (.Name x py)) pos.line X.env = pure false)
    (hf : X.fn x = true) : PSs X (.Assign [.Name x py] e pos :: rest) (tF C env (m.bind K) pn pl kp r) :=
  pss_imp (pss_cons (ps_set hN hi hx h hs (.inl hf)) (pss_ex hr)) fun D σ H _ ⟨S, g0, P, F, em, q⟩ =>
    ⟨S, g0, _, F, em, fun xs g1 px p vs S1 H1 F1 x1 hp hv => ⟨xs, S1, _, P, F1.setOw i hp hv, px, fun o g9 po => (q o g9 po).mono x1⟩⟩
/-- any target -/
theorem xs_asg {m : W α} {up : Up α} {K : α → W (Fl ρ β γ)} (h : PE X e (tE C env re m)) (hg : PG X tg (tG re up)) (hr : ∀ a, PSs X rest (tF C (fun g => up.f a (env g)) (K a) pn pl kp r)) (hs : swapsWithSole [tg] e pos.line X.env = pure false := by rfl) (hw : swappedStores [tg] e X.env = pure none := by rfl)
    (h1 : (assignEach [tg] X.env).map (·.2) = [assign tg X.env] := by rfl) : PSs X (.Assign [tg] e pos :: rest) (tF C env (m.bind K) pn pl kp r) :=
  pss_imp (pss_cons (ps_asg h hg hs hw h1) (pss_ex hr)) fun D σ H _ ⟨S, g0, P, F, em, q⟩ =>
    ⟨S, g0, _, F, em, fun a g1 pa v S1 H1 F1 x1 hv => ⟨C, S1, _, a, F1, hv, fun σ' _ _ F2 => ⟨a, S1, _, P, F2, pa, fun o g9 po => (q o g9 po).mono x1⟩⟩⟩
/-- x, y = a, b of two locals -/
theorem xs_par {i j : Nat} {x y : Str} {px py pt0 : Pos} {kt k2 : Nat} {pt2 : Pos} {α1 α2 : Type} {r1 : Rp α1} {r2 : Rp α2} {m1 : W α1} {m2 : W α2} {K : α1 → α2 → W (Fl ρ β γ)} (ha : PE X a (tE C env r1 m1)) (hb : PE X b (tE C env r2 m2)) (hr : ∀ a b, PSs X rest (tF C (fun g => ((env g).set i (.im r1 a)).set j (.im r2 b)) (K a b) pn pl kp r))
    (hc : X.calm = true) (hN : X.N.Nodup) (hi : X.N[i]? = some x) (hj : X.N[j]? = some y) (hij : i ≠ j) (hx : X.env.scope.names.lookup x = some .local) (hy : X.env.scope.names.lookup y = some .local)
    (hw : swappedStores [.Tuple [.Name x px, .Name y py] kt pt0] (.Tuple [a, b] k2 pt2) X.env = pure (some [x, y])) (hs : swapsWithSole [.Tuple [.Name x px, .Name y py] kt pt0] (.Tuple [a, b] k2 pt2) pos.line X.env = pure false := by rfl)
    (h1 : starEach [a, b] X.env = (false, eval a X.env) :: starEach [b] X.env := by rfl) (h2 : starEach [b] X.env = (false, eval b X.env) :: starEach [] X.env := by rfl) :
    PSs X (.Assign [.Tuple [.Name x px, .Name y py] kt pt0] (.Tuple [a, b] k2 pt2) pos :: rest) (tF C env (m1.bind fun a => m2.bind fun b => K a b) pn pl kp r) :=
  pss_imp (pss_cons (ps_par hc hN hi hj hij hx hy (pa_cons ha (pa_cons hb pa_nil h2) h1) hw hs) (pss_ex fun p : α1 × α2 => hr p.1 p.2)) fun D σ H _ ⟨S, g0, P, F, em, q⟩ =>
    ⟨S, g0, _, F, em, fun u g1 pu v S1 H1 F1 x1 hv => ⟨S1, g1, _, F1, pu, fun w g2 pw v2 S2 H2 F2 x2 hv2 => ⟨v, v2, rfl, (u, w), S2, _, P, (F2.setIm i (r1.mono x2 hv)).setIm j hv2, pw, fun o g9 po => (q o g9 po).mono (x1.trans x2)⟩⟩⟩
/-- .. the second one a new list -/
theorem xs_parN {i j : Nat} {x y : Str} {px py pt0 : Pos} {kt k2 : Nat} {pt2 : Pos} {α1 α2 : Type} {r1 : Rp α1} {r2 : Rp α2} {m1 : W α1} {m2 : W (List α2)} {K : α1 → List α2 → W (Fl ρ β γ)} (ha : PE X a (tE C env r1 m1)) (hb : PE X b (tN C env r2 m2)) (hr : ∀ a b, PSs X rest (tF C (fun g => ((env g).set i (.im r1 a)).set j (.ow r2 b)) (K a b) pn pl kp r))
    (hc : X.calm = true) (hN : X.N.Nodup) (hi : X.N[i]? = some x) (hj : X.N[j]? = some y) (hij : i ≠ j) (hx : X.env.scope.names.lookup x = some .local) (hy : X.env.scope.names.lookup y = some .local)
    (hw : swappedStores [.Tuple [.Name x px, .Name y py] kt pt0] (.Tuple [a, b] k2 pt2) X.env = pure (some [x, y])) (hs : swapsWithSole [.Tuple [.Name x px, .Name y py] kt pt0] (.Tuple [a, b] k2 pt2) pos.line X.env = pure false := by rfl)
    (h1 : starEach [a, b] X.env = (false, eval a X.env) :: starEach [b] X.env := by rfl) (h2 : starEach [b] X.env = (false, eval b X.env) :: starEach [] X.env := by rfl) :
    PSs X (.Assign [.Tuple [.Name x px, .Name y py] kt pt0] (.Tuple [a, b] k2 pt2) pos :: rest) (tF C env (m1.bind fun a => m2.bind fun b => K a b) pn pl kp r) :=
  pss_imp (pss_cons (ps_par hc hN hi hj hij hx hy (pa_cons ha (pa_cons hb pa_nil h2) h1) hw hs) (pss_ex fun p : α1 × List α2 => hr p.1 p.2)) fun D σ H _ ⟨S, g0, P, F, em, q⟩ =>
    ⟨S, g0, _, F, em, fun u g1 pu v S1 H1 F1 x1 hv => ⟨S1, g1, _, F1, pu, fun w g2 pw p vs S2 H2 F2 x2 hp hv2 => ⟨v, .ref p, rfl, (u, w), S2, _, P, (F2.setIm i (r1.mono x2 hv)).setOw j hp hv2, pw, fun o g9 po => (q o g9 po).mono (x1.trans x2)⟩⟩⟩
/-- an expression whose value is dropped -/
theorem xs_exp {m : W α} {K : α → W (Fl ρ β γ)} (h : PE X e (tE C env re m)) (hr : ∀ a, PSs X rest (tF C env (K a) pn pl kp r)) (hs : swapsWith e none pos.line X.env = pure false := by rfl) : PSs X (.Expr e pos :: rest) (tF C env (m.bind K) pn pl kp r) :=
  pss_imp (pss_cons (ps_expr h hs) (pss_ex hr)) fun D σ H _ ⟨S, g0, P, F, em, q⟩ =>
    ⟨S, g0, _, F, em, fun a g1 pa v S1 H1 F1 x1 hv => ⟨a, S1, _, P, F1, pa, fun o g9 po => (q o g9 po).mono x1⟩⟩
theorem xs_pass {mc : W (Fl ρ β γ)} (hr : PSs X rest (tF C env mc pn pl kp r)) : PSs X (.Pass pos :: rest) (tF C env mc pn pl kp r) := pss_imp (pss_cons ps_pass hr) fun D σ H _ h => h
theorem xs_doc {x : Str} {j : Nat} {pos' : Pos} {mc : W (Fl ρ β γ)} (hr : PSs X rest (tF C env mc pn pl kp r)) : PSs X (.Expr (.Constant (.str x) j pos) pos' :: rest) (tF C env mc pn pl kp r) := pss_imp (pss_cons ps_doc hr) fun D σ H _ h => h
/-! ### if -/
/-- if c: a block that doesn't go on; and the rest -/
theorem xs_ifx {m : W Bool} {MA : W (Fl ρ Empty γ)} {MR : W (Fl ρ β γ)} (hc : PT X c (tT C env m)) (hA : PSs X A (tF C env MA (fun z _ => nomatch z) pl kp r)) (hR : PSs X rest (tF C env MR pn pl kp r)) :
    PSs X (.If c A [] pos :: rest) (tF C env (m.bind fun b => if b = true then upF MA else MR) pn pl kp r) :=
  pss_imp (pss_cons (ps_if hc hA pss_nil) hR) fun D σ H _ ⟨S, g0, P, F, em, q⟩ => ⟨S, g0, _, F, em, fun x g1 px S1 H1 F1 x1 => by
    cases x with
    | true =>
      refine ⟨S1, g1, _, F1, px, fun w g9 pw => ?_⟩
      have q := (q _ _ pw).mono x1
      cases w with
      | nx z => exact nomatch z
      | rt a => exact q
      | br c => exact q
      | ct c => exact q
    | false => exact ⟨S1, g1, P, F1, px, fun o g9 po => (q o g9 po).mono x1⟩⟩
/-- if with both ways, the last statement -/
theorem xs_ifT {m : W Bool} {MA MB : W (Fl ρ β γ)} (hc : PT X c (tT C env m)) (hA : PSs X A (tF C env MA pn pl kp r)) (hB : PSs X B (tF C env MB pn pl kp r)) :
    PSs X [.If c A B pos] (tF C env (m.bind fun b => if b = true then MA else MB) pn pl kp r) :=
  pss_imp (pss_one (ps_if hc hA hB)) fun D σ H _ ⟨S, g0, P, F, em, q⟩ => ⟨S, g0, _, F, em, fun x g1 px S1 H1 F1 x1 => by
    cases x with
    | true => exact ⟨S1, g1, P, F1, px, fun o g9 po => (q o g9 po).mono x1⟩
    | false => exact ⟨S1, g1, P, F1, px, fun o g9 po => (q o g9 po).mono x1⟩⟩
/-- if, and the rest behind where they meet -/
theorem xs_if {m : W Bool} {MA MB : W (Fl ρ τ γ)} {MR : τ → W (Fl ρ β γ)} (hc : PT X c (tT C env m)) (hA : PSs X A (tF C env MA pt pl kp r)) (hB : PSs X B (tF C env MB pt pl kp r)) (hR : ∀ t, PSs X rest (tF C (pt t) (MR t) pn pl kp r)) :
    PSs X (.If c A B pos :: rest) (tF C env (m.bind fun b => bindF (if b = true then MA else MB) MR) pn pl kp r) :=
  pss_imp (pss_cons (ps_if hc hA hB) (pss_ex hR)) fun D σ H _ ⟨S, g0, P, F, em, q⟩ => ⟨S, g0, _, F, em, fun x g1 px S1 H1 F1 x1 => by
    have go : ∀ M : W (Fl ρ τ γ), bindF M MR g1 P → tF C env M pt pl kp r { D with nx := fun σ H => ∃ t, tF C (pt t) (MR t) pn pl kp r D σ H } σ H1 := fun M hM => ⟨S1, g1, _, F1, hM, fun w g9 pw => by
      cases w with
      | nx t => exact fun S2 H2 σ2 F2 x2 => ⟨t, S2, _, P, F2, pw, fun o g9 po => (q o g9 po).mono (x1.trans x2)⟩
      | rt a => exact fun v S2 H2 σ2 F2 x2 hv => q _ _ pw v S2 H2 σ2 F2 (x1.trans x2) hv
      | br c => exact fun S2 H2 σ2 F2 x2 => q _ _ pw S2 H2 σ2 F2 (x1.trans x2)
      | ct c => exact fun S2 H2 σ2 F2 x2 => q _ _ pw S2 H2 σ2 F2 (x1.trans x2)⟩
    cases x with
    | true => exact go MA px
    | false => exact go MB px⟩
/-! ### loops -/
theorem xs_for {up : Up α} {mx : W (List α)} {s0 : τ} {f : τ → α → W (Fl ρ τ τ)} {MR : τ → W (Fl ρ β γ)} (hp : PassesOwn (model X.prog X.w) X.A X.env X.xe) (hc : X.calm = true) (hi : PI X tg iter (tS C env re mx)) (hg : PG X tg (tG re up)) (l0 : ∀ g, Le (env g) (pt s0 g))
    (hb : ∀ s a, PSs X A (tF C (fun g => up.f a (pt s g)) (f s a) pt pt kp r)) (hR : ∀ s, PSs X rest (tF C (pt s) (MR s) pn pl kp r)) (hs : ∀ x, foldedSetIterable iter X.env x = pure x := by intro _; rfl) :
    PSs X (.For tg iter A [] pos :: rest) (tF C env (mx.bind fun xs => bindF (forL f xs s0) MR) pn pl kp r) :=
  pss_imp (pss_cons (ps_for hp hc hi hg (pss_ex fun p : τ × α => hb p.1 p.2) hs) (pss_ex hR)) fun D σ H _ ⟨S, g0, P, F, em, q⟩ => ⟨S, g0, _, F, em, fun xs g1 em J S1 H1 F1 x1 W1 => by
    refine ⟨fun i m σ H => m = xs.length - i ∧ i ≤ xs.length ∧ ∃ S g s, Fr C S H σ (pt s g) ∧ Ex S1 S ∧ bindF (forL f (xs.drop i) s) MR g P, ⟨xs.length, rfl, Nat.zero_le _, S1, g1, s0, F1.le (l0 _), Ex.refl S1, em⟩, ?_⟩
    rintro i m σ2 H2 ⟨rfl, hi2, S2, g2, s, F2, x2, h2⟩
    by_cases hlt : i < xs.length
    · have hxi : xs[i]? = some xs[i] := List.getElem?_eq_getElem hlt
      rw [drop_cons hxi] at h2
      unfold forL at h2
      refine .inr ⟨W1.go i hlt F2 x2, fun σ' H' => ∃ S g s, Fr C S H' σ' (pt s g) ∧ Ex S1 S ∧ bindF (forL f (xs.drop (i + 1)) s) MR g P, fun σ' H' h' => ⟨xs.length - (i + 1), by omega, rfl, hlt, h'⟩, fun x H3 hy3 => ?_⟩
      obtain ⟨S3, F3, x3, _, _, r3⟩ := W1.yld i x H3 xs[i] F2 x2 hy3 hxi
      refine ⟨C, S3, _, xs[i], F3, r3, fun σ4 _ _ F4 => ⟨(s, xs[i]), S3, g2, _, F4, h2, fun w g9 pw => ?_⟩⟩
      cases w with
      | nx t => exact fun S5 H5 σ5 F5 x5 => ⟨S5, g9, t, F5, x2.trans (x3.trans x5), pw⟩
      | ct t => exact fun S5 H5 σ5 F5 x5 => ⟨S5, g9, t, F5, x2.trans (x3.trans x5), pw⟩
      | br t => exact fun S5 H5 σ5 F5 x5 => ⟨t, S5, _, P, F5, pw, fun o g9 po => (q o g9 po).mono (x1.trans (x2.trans (x3.trans x5)))⟩
      | rt a => exact fun v S5 H5 σ5 F5 x5 hv => q _ _ pw v S5 H5 σ5 F5 (x1.trans (x2.trans (x3.trans x5))) hv
    · have e : i = xs.length := by omega
      subst e
      rw [List.drop_length] at h2
      exact .inl ⟨W1.stop _ (Nat.le_refl _) F2 x2, s, S2, _, P, F2, h2, fun o g9 po => (q o g9 po).mono (x1.trans x2)⟩⟩
theorem xs_while {s0 : τ} {n : Nat} {cf : τ → W Bool} {f : τ → W (Fl ρ τ τ)} {MR : τ → W (Fl ρ β γ)} (hp : PassesOwn (model X.prog X.w) X.A X.env X.xe) (l0 : ∀ g, Le (env g) (pt s0 g)) (hc : ∀ s, PT X c (tT C (pt s) (cf s)))
    (hb : ∀ s, PSs X A (tF C (pt s) (f s) pt pt kp r)) (hR : ∀ s, PSs X rest (tF C (pt s) (MR s) pn pl kp r)) :
    PSs X (.While c A [] pos :: rest) (tF C env (bindF (whileL cf f n s0) MR) pn pl kp r) :=
  pss_imp (pss_cons (ps_while hp (pt_ex hc) (pss_ex hb)) (pss_ex hR)) fun D σ H _ ⟨S, g0, P, F, em, q⟩ => by
    refine ⟨fun m σ H => ∃ S2 g s, Fr C S2 H σ (pt s g) ∧ Ex S S2 ∧ bindF (whileL cf f m s) MR g P, ⟨n, S, g0, s0, F.le (l0 _), Ex.refl S, em⟩, ?_⟩
    rintro m σ2 H2 ⟨S2, g2, s, F2, x2, h2⟩
    cases m with
    | zero => exact h2.elim
    | succ m =>
      unfold whileL at h2
      refine ⟨s, S2, g2, _, F2, h2, fun b g3 pb S3 H3 F3 x3 => ?_⟩
      cases b with
      | false => exact ⟨s, S3, _, P, F3, pb, fun o g9 po => (q o g9 po).mono (x2.trans x3)⟩
      | true =>
        refine ⟨fun σ' H' => ∃ S2 g s, Fr C S2 H' σ' (pt s g) ∧ Ex S S2 ∧ bindF (whileL cf f m s) MR g P, fun σ' H' h' => ⟨m, Nat.lt_succ_self m, h'⟩, s, S3, g3, _, F3, pb, fun w g9 pw => ?_⟩
        cases w with
        | nx t => exact fun S5 H5 σ5 F5 x5 => ⟨S5, g9, t, F5, x2.trans (x3.trans x5), pw⟩
        | ct t => exact fun S5 H5 σ5 F5 x5 => ⟨S5, g9, t, F5, x2.trans (x3.trans x5), pw⟩
        | br t => exact fun S5 H5 σ5 F5 x5 => ⟨t, S5, _, P, F5, pw, fun o g9 po => (q o g9 po).mono (x2.trans (x3.trans x5))⟩
        | rt a => exact fun v S5 H5 σ5 F5 x5 hv => q _ _ pw v S5 H5 σ5 F5 (x2.trans (x3.trans x5)) hv
/-! ### lists of the def's own -/
def addO {α : Type} (xs : List α) (v : α) : Option (List α) := if xs.length ≤ 1000000 then some (xs ++ [v]) else none
theorem xs_app {i : Nat} {x : Str} {px pa pe : Pos} {xs : List α} {m : W α} {K : List α → W (Fl ρ β γ)} (hv : PE X (.Name x px) (tVar i)) (h : PE X e (tE C env re m)) (hr : ∀ ys, PSs X rest (tF C (fun g => (env g).set i (.ow re ys)) (K ys) pn pl kp r)) (hi : ∀ g, (env g)[i]? = some (.ow re xs) := by intro _; rfl)
    (hs : swapsWith (.Call (.Attribute (.Name x px) "append" pa) [e] [] pe) none pos.line X.env = pure false := by rfl) (h1 : starEach [e] X.env = (false, eval e X.env) :: starEach [] X.env := by rfl)
    (hb : PE X (.Call (.Attribute (.Name x px) "append" pa) [e] [] pe) (tBM X.K "list" rAppend (tVar i) (tCons (tE C env re m) tNil))) :
    PSs X (.Expr (.Call (.Attribute (.Name x px) "append" pa) [e] [] pe) pos :: rest) (tF C env (m.bind fun v => (ofO (addO xs v)).bind K) pn pl kp r) :=
  pss_imp (pss_cons (ps_expr hb hs) (pss_ex hr)) fun D σ H _ ⟨S, g0, P, F, em, q⟩ => by
    obtain ⟨w, ew, p, vs, e2, sp, hp, ha⟩ := F.sl.get i (hi _)
    subst e2
    refine ⟨.ref p, ew, .inl ⟨rfl, vs, SqL.of hp⟩, S, g0, _, F, em, fun v g1 ⟨zs, ez, pv⟩ u S1 H1 F1 x1 hu => ?_⟩
    unfold addO at ez
    split at ez
    case isFalse => cases ez
    rename_i hl
    cases ez
    obtain ⟨w1, ew1, p1, vs1, e21, sp1, hp1, ha1⟩ := F1.sl.get i (hi _)
    subst e21
    rw [ew] at ew1
    cases ew1
    refine ⟨p, vs1, u, rfl, rfl, hp1, by rw [All2.length ha1, sizeLine_eq]; omega, xs ++ [v], S1, _, P, ?_, pv, fun o g9 po => (q o g9 po).mono x1⟩
    exact F1.write (hi _) ew (ha1.snoc hu)
/-- a list of the def's own changes no more -/
theorem xs_frz (i : Nat) {xs : List α} {m : W (Fl ρ β γ)} (hA : C.A0 = []) (hr : PSs X A (tF C (fun g => (env g).set i (.im (qL re) xs)) m pn pl kp r)) (hi : ∀ g, (env g)[i]? = some (.ow re xs) := by intro _; rfl) : PSs X A (tF C env m pn pl kp r) :=
  pss_imp hr fun D σ H _ ⟨S, g0, P, F, em, q⟩ => by
    obtain ⟨S', x1, F1⟩ := F.freeze (hi _) fun p _ => by rw [hA]; simp
    exact ⟨S', g0, P, F1, em, fun o g9 po => (q o g9 po).mono x1⟩
end

/-! ### defs -/
section
variable {α ρ : Type} {ra : Ra α} {r : Rp ρ}
/-- a frame at the entry -/
theorem Fr.entry {S H : Hp} {σ : St} {env : List Sl} (e : Ex S H) (t : Tc S H) (h : SlAll S H σ env) (ho : owns σ env = []) : Fr ⟨[], S, H⟩ S H σ env :=
  ⟨Ex.refl S, e, fun _ _ h _ => h, fun _ h _ => h, fun _ h => h, h, fun p hp => (by rw [ho] at hp; cases hp), by rw [ho]; exact List.nodup_nil, t⟩
theorem Fr.post {S H S' H' : Hp} {σ : St} {env : List Sl} {Q : VK} {o : ρ} (h : Post S H r o Q) (F : Fr ⟨[], S, H⟩ S' H' σ env) {v : V} (hv : r.p S' v o) : Q v H' :=
  h v S' H' F.e0 F.e1 (fun b u e => F.e2 b u e (by simp)) F.nw F.tc hv
theorem body_of {X : Cx} {body : List Stmt} {N : List Str} {β γ : Type} {f : α → Option ρ} {env : α → List Sl} {m : α → W (Fl ρ β γ)} {pn : β → Gh → List Sl} {pl : γ → Gh → List Sl} {kp : Gh → List Sl} {vs : List V} {H : Hp} {Q : VK} {E : XK} (h : SpF ra r f vs H Q E) (hg : ∀ a, ofO (f a) = rtOf (m a))
    (hs : ∀ S H a, ra.p S vs a → SlAll S H (start N vs) (env a) ∧ owns (start N vs) (env a) = []) (hb : ∀ (C : Cs) (a : α), C.A0 = [] → PSs X body (tF C (fun _ => env a) (m a) pn pl kp r)) :
    ∃ t, PSs X body t ∧ t { nx := fun _ H' => Q .non H', rt := Q } (start N vs) H := by
  obtain ⟨S, a, o, e, t, hv, eo, k⟩ := h
  obtain ⟨s1, s2⟩ := hs S H a hv
  have hm : rtOf (m a) [] (fun x _ => x = o) := by
    rw [← hg a]
    exact ⟨o, eo, rfl⟩
  refine ⟨_, hb ⟨[], S, H⟩ a rfl, S, [], _, Fr.entry e t s1 s2, hm, fun w g' pw => ?_⟩
  cases w with
  | rt x =>
    have pw : x = o := pw
    subst pw
    exact fun v S' H' σ' F _ hv => F.post k hv
  | nx _ => exact pw.elim
  | br _ => exact pw.elim
  | ct _ => exact pw.elim
theorem body_ofN {X : Cx} {body : List Stmt} {N : List Str} {β γ : Type} {f : α → Option Unit} {env : α → List Sl} {m : α → W (Fl Unit β γ)} {pn : β → Gh → List Sl} {pl : γ → Gh → List Sl} {kp : Gh → List Sl} {vs : List V} {H : Hp} {Q : VK} {E : XK} (h : SpF ra qN f vs H Q E) (hg : ∀ a, ofO (f a) = rtN (m a))
    (hs : ∀ S H a, ra.p S vs a → SlAll S H (start N vs) (env a) ∧ owns (start N vs) (env a) = []) (hb : ∀ (C : Cs) (a : α), C.A0 = [] → PSs X body (tF C (fun _ => env a) (m a) pn pl kp qN)) :
    ∃ t, PSs X body t ∧ t { nx := fun _ H' => Q .non H', rt := Q } (start N vs) H := by
  obtain ⟨S, a, o, e, t, hv, eo, k⟩ := h
  obtain ⟨s1, s2⟩ := hs S H a hv
  have hm : rtN (m a) [] (fun x _ => x = o) := by
    rw [← hg a]
    exact ⟨o, eo, rfl⟩
  refine ⟨_, hb ⟨[], S, H⟩ a rfl, S, [], _, Fr.entry e t s1 s2, hm, fun w g' pw => ?_⟩
  cases w with
  | rt x => exact fun v S' H' σ' F _ hv => F.post k hv
  | nx _ => exact fun S' H' σ' F _ => F.post k (show qN.p S' .non () from rfl)
  | br _ => exact pw.elim
  | ct _ => exact pw.elim
/-- behind a call that changes the shared object -/
def PostD {ρ : Type} (d : Addr) (S H : Hp) (r : Rp ρ) (o : ρ) (g : Gh) (Q : VK) : Prop := ∀ v S' H', Ex S S' → Ex S' H' → (∀ b u, H b = some u → b ≠ d → H' b = some u) → H' d = some (oD g) → S' d = none → (∀ b, S b = none → H b ≠ none → S' b = none) → Tc S' H' → r.p S' v o → Q v H'
/-- f(object, ..) gives what f gives, and changes the object alone -/
def SpD {α ρ : Type} (ra : Ra α) (r : Rp ρ) (f : α → W ρ) : Sp := fun vs H Q _ => ∃ S a d ws g P, vs = .ref d :: ws ∧ Ex S H ∧ Tc S H ∧ S d = none ∧ H d = some (oD g) ∧ ra.p S ws a ∧ f a g P ∧ ∀ o g', P o g' → PostD d S H r o g' Q
theorem Fr.entryD {S H : Hp} {σ : St} {env : List Sl} {d : Addr} {g : Gh} (e : Ex S H) (t : Tc S H) (sd : S d = none) (hd : H d = some (oD g)) (h : SlAll S H σ env) (ho : owns σ env = []) : Fr ⟨[d], S, H⟩ S H (some (.ref d) :: σ) (.iv d (oD g) :: env) := by
  have eo : owns (some (.ref d) :: σ) (.iv d (oD g) :: env) = [d] := by
    show ownOf (some (.ref d)) (Sl.iv d (oD g)) ++ owns σ env = [d]
    rw [ho]
    rfl
  exact ⟨Ex.refl S, e, fun _ _ h _ => h, fun _ h _ => h, fun _ h => h, ⟨⟨d, _, rfl, sd, hd, rfl, rfl⟩, h⟩, fun p hp => .inr (by rw [eo] at hp; exact hp), by rw [eo]; simp, t⟩
theorem Fr.postD {S H S' H' : Hp} {σ : St} {Q : VK} {o : ρ} {d : Addr} {g : Gh} (h : PostD d S H r o g Q) (F : Fr ⟨[d], S, H⟩ S' H' σ [.iv d (oD g)]) {v : V} (hv : r.p S' v o) : Q v H' := by
  obtain ⟨x, e, p, u, e1, sp, hp, e2, e3⟩ := F.sl.get 0 (s := .iv d (oD g)) rfl
  subst e2 e3
  exact h v S' H' F.e0 F.e1 (fun b u e n => F.e2 b u e (by simpa using n)) hp sp F.nw F.tc hv
theorem body_ofD {X : Cx} {body : List Stmt} {N : List Str} {x0 : Str} {β γ : Type} {f : α → W ρ} {env : α → List Sl} {m : α → W (Fl ρ β γ)} {pn : β → Gh → List Sl} {pl : γ → Gh → List Sl} {vs : List V} {H : Hp} {Q : VK} {E : XK} (h : SpD ra r f vs H Q E) (hg : ∀ a, f a = rtOf (m a))
    (hs : ∀ S H ws a, ra.p S ws a → SlAll S H (start N ws) (env a) ∧ owns (start N ws) (env a) = []) (hb : ∀ (C : Cs) (d : Addr) (a : α), C.A0 = [d] → PSs X body (tF C (fun g => .iv d (oD g) :: env a) (m a) pn pl (fun g => [.iv d (oD g)]) r)) :
    ∃ t, PSs X body t ∧ t { nx := fun _ H' => Q .non H', rt := Q } (start (x0 :: N) vs) H := by
  obtain ⟨S, a, d, ws, g, P, ev, e, t, sd, hd, hv, eo, k⟩ := h
  subst ev
  obtain ⟨s1, s2⟩ := hs S H ws a hv
  rw [hg a] at eo
  have es : start (x0 :: N) (.ref d :: ws) = some (.ref d) :: start N ws := by
    unfold L2.start
    simp
  rw [es]
  refine ⟨_, hb ⟨[d], S, H⟩ d a rfl, S, g, _, Fr.entryD e t sd hd s1 s2, eo, fun w g' pw => ?_⟩
  cases w with
  | rt x => exact fun v S' H' σ' F _ hv => Fr.postD (k x g' pw) F hv
  | nx _ => exact pw.elim
  | br _ => exact pw.elim
  | ct _ => exact pw.elim
/-- parameters: what they stand for, their slots -/
structure Pr (α : Type) where
  ra : Ra α
  n : Nat
  sl : α → List Sl
  ok : ∀ {S H : Hp} {vs : List V} {a : α}, ra.p S vs a → SlAll S H (vs.map some) (sl a) ∧ owns (vs.map some) (sl a) = [] ∧ vs.length = n
def p0 : Pr Unit := ⟨q0, 0, fun _ => [], fun {S H vs a} h => by
  rw [show vs = [] from h]
  exact ⟨True.intro, rfl, rfl⟩⟩
def pC {β : Type} (r : Rp α) (p : Pr β) : Pr (α × β) := ⟨qC r p.ra, p.n + 1, fun a => .im r a.1 :: p.sl a.2, fun {S H vs a} ⟨v, ws, e, h1, h2⟩ => by
  obtain ⟨q1, q2, q3⟩ := p.ok (H := H) h2
  rw [e]
  refine ⟨⟨⟨v, rfl, h1⟩, q1⟩, ?_, by rw [List.length_cons, q3]⟩
  show ownOf (some v) (Sl.im r a.1) ++ owns (ws.map some) (p.sl a.2) = []
  rw [q2]
  cases v <;> rfl⟩
theorem SlAll.unN {S H : Hp} : ∀ n : Nat, SlAll S H (List.replicate n none) (List.replicate n .un) ∧ owns (List.replicate n none) (List.replicate n Sl.un) = []
  | 0 => ⟨True.intro, rfl⟩
  | n + 1 => by
    obtain ⟨a, b⟩ := SlAll.unN (S := S) (H := H) n
    refine ⟨⟨True.intro, a⟩, ?_⟩
    show ownOf none Sl.un ++ owns (List.replicate n none) (List.replicate n Sl.un) = []
    rw [b]
    rfl
theorem SlAll.cat {S H : Hp} : ∀ {σ τ : St} {a b : List Sl}, SlAll S H σ a → SlAll S H τ b → SlAll S H (σ ++ τ) (a ++ b)
  | [], _, [], _, _, h => h
  | _ :: _, _, _ :: _, _, h1, h2 => ⟨h1.1, SlAll.cat h1.2 h2⟩
  | [], _, _ :: _, _, h, _ => h.elim
  | _ :: _, _, [], _, h, _ => h.elim
theorem owns_cat {S H : Hp} : ∀ {σ τ : St} {a b : List Sl}, SlAll S H σ a → owns (σ ++ τ) (a ++ b) = owns σ a ++ owns τ b
  | [], _, [], _, _ => rfl
  | v :: σ, τ, s :: a, b, h => by
    show ownOf v s ++ owns (σ ++ τ) (a ++ b) = (ownOf v s ++ owns σ a) ++ owns τ b
    rw [owns_cat h.2, List.append_assoc]
  | [], _, _ :: _, _, h => h.elim
  | _ :: _, _, [], _, h => h.elim
theorem Pr.start {p : Pr α} {N : List Str} {j : Nat} (hN : N.length = p.n + j) {S H : Hp} {vs : List V} {a : α} (h : p.ra.p S vs a) : SlAll S H (L2.start N vs) (p.sl a ++ List.replicate j .un) ∧ owns (L2.start N vs) (p.sl a ++ List.replicate j .un) = [] := by
  obtain ⟨q1, q2, q3⟩ := p.ok (H := H) h
  obtain ⟨u1, u2⟩ := SlAll.unN (S := S) (H := H) j
  have e : N.length - vs.length = j := by omega
  unfold L2.start
  rw [e]
  refine ⟨q1.cat u1, ?_⟩
  rw [owns_cat q1, q2, u2]
  rfl
section
variable {P : Program} {w : World} {K : PySem.W.Frag} {mg : Str → Option Value} {base : Heap} {p : Pr α} {N ps : List Str} {k : Nat} {st : Stmt} {x qual : Str} {f : Addr} {fd : FuncData} {β γ : Type}
/-- a def, by what its body gives -/
theorem fn_okF {π : Around → Prop} {g : α → Option ρ} {env : α → List Sl} {m : α → W (Fl ρ β γ)} {pn : β → Gh → List Sl} {pl : γ → Gh → List Sl} (j : Nat) (sπ : Stb π) (F : Fun K x qual st f fd) (S : FnScope N ps (defScope st)) (hn : p.n = ps.length) (hN : N.length = ps.length + j) (he : ∀ a, env a = p.sl a ++ List.replicate j .un)
    (hb : ∀ (cdv : Value) (A : Around) (outer : List Env) (s : Shared) (H : Hp) (E : XK), π (A.deeper (PyProof.Rows.envOfC qual (defScope st) s.heap.objs.size f cdv)) → Room k (A.deeper (PyProof.Rows.envOfC qual (defScope st) s.heap.objs.size f cdv)) → ∀ (C : Cs) (a : α), C.A0 = [] → PSs (cxOf CX0 P w K mg base N qual (defScope st) f cdv A outer s H E).nox (defBody st) (tF C (fun _ => env a) (m a) pn pl (fun _ => []) r))
    (hg : ∀ a, ofO (g a) = rtOf (m a)) : FnP π P w K mg base CX0 (k + 1) f fd ps (SpF p.ra r g) := by
  refine funP_ok sπ F S (fun vs H Q E h => ?_) (fun cdv A outer s H vs Q E hp hr h => ?_)
  · obtain ⟨_, _, _, _, _, hv, _⟩ := h
    rw [(p.ok (H := H) hv).2.2, hn]
  · exact body_of (E := E) h hg (fun S H a hv => by rw [he a]; exact p.start (by rw [hN, hn]) hv) (hb cdv A outer s H E hp hr)
theorem fn_okN {π : Around → Prop} {g : α → Option Unit} {env : α → List Sl} {m : α → W (Fl Unit β γ)} {pn : β → Gh → List Sl} {pl : γ → Gh → List Sl} (j : Nat) (sπ : Stb π) (F : Fun K x qual st f fd) (S : FnScope N ps (defScope st)) (hn : p.n = ps.length) (hN : N.length = ps.length + j) (he : ∀ a, env a = p.sl a ++ List.replicate j .un)
    (hb : ∀ (cdv : Value) (A : Around) (outer : List Env) (s : Shared) (H : Hp) (E : XK), π (A.deeper (PyProof.Rows.envOfC qual (defScope st) s.heap.objs.size f cdv)) → Room k (A.deeper (PyProof.Rows.envOfC qual (defScope st) s.heap.objs.size f cdv)) → ∀ (C : Cs) (a : α), C.A0 = [] → PSs (cxOf CX0 P w K mg base N qual (defScope st) f cdv A outer s H E).nox (defBody st) (tF C (fun _ => env a) (m a) pn pl (fun _ => []) qN))
    (hg : ∀ a, ofO (g a) = rtN (m a)) : FnP π P w K mg base CX0 (k + 1) f fd ps (SpF p.ra qN g) := by
  refine funP_ok sπ F S (fun vs H Q E h => ?_) (fun cdv A outer s H vs Q E hp hr h => ?_)
  · obtain ⟨_, _, _, _, _, hv, _⟩ := h
    rw [(p.ok (H := H) hv).2.2, hn]
  · exact body_ofN (E := E) h hg (fun S H a hv => by rw [he a]; exact p.start (by rw [hN, hn]) hv) (hb cdv A outer s H E hp hr)
/-- .. whose first parameter is the shared object -/
theorem fn_okD {π : Around → Prop} {x0 : Str} {g : α → W ρ} {env : α → List Sl} {m : α → W (Fl ρ β γ)} {pn : β → Gh → List Sl} {pl : γ → Gh → List Sl} (j : Nat) (sπ : Stb π) (F : Fun K x qual st f fd) (S : FnScope (x0 :: N) (x0 :: ps) (defScope st)) (hn : p.n = ps.length) (hN : N.length = ps.length + j) (he : ∀ a, env a = p.sl a ++ List.replicate j .un)
    (hb : ∀ (cdv : Value) (A : Around) (outer : List Env) (s : Shared) (H : Hp) (E : XK), π (A.deeper (PyProof.Rows.envOfC qual (defScope st) s.heap.objs.size f cdv)) → Room k (A.deeper (PyProof.Rows.envOfC qual (defScope st) s.heap.objs.size f cdv)) → ∀ (C : Cs) (d : Addr) (a : α), C.A0 = [d] → PSs (cxOf CX0 P w K mg base (x0 :: N) qual (defScope st) f cdv A outer s H E).nox (defBody st) (tF C (fun g => .iv d (oD g) :: env a) (m a) pn pl (fun g => [.iv d (oD g)]) r))
    (hg : ∀ a, g a = rtOf (m a)) : FnP π P w K mg base CX0 (k + 1) f fd (x0 :: ps) (SpD p.ra r g) := by
  refine funP_ok sπ F S (fun vs H Q E h => ?_) (fun cdv A outer s H vs Q E hp hr h => ?_)
  · obtain ⟨_, _, _, ws, _, _, ev, _, _, _, _, hv, _⟩ := h
    rw [ev, List.length_cons, List.length_cons, (p.ok (H := H) hv).2.2, hn]
  · exact body_ofD (E := E) h hg (fun S H ws a hv => by rw [he a]; exact p.start (by rw [hN, hn]) hv) (hb cdv A outer s H E hp hr)
end
end
end Rt

set_option maxRecDepth 100000
set_option maxHeartbeats 4000000
/-! Rt7: the shared object, more of lists, the end. -/
namespace Rt
open PySem L2

/-! ### the end of a proof -/
/-- as walk_of, where what the written part says of loose names is known -/
theorem walk_ofX {π : Around → Prop} {l : PySem.W.OpenLaw} {n k : Nat} {q : Program} {loose : List Str} {XP : (Str → Option Value) → Heap → Prop} {YP : World → Heap → Prop} {d : DefRec} {K : Params → PySem.W.Frag} {CX : World → CXT} {sp : World → Sp} {x : Str}
    (hpi : π callerA) (hn : l.most = some n) (hn2 : n ≤ sizeLine) (hdf : d.params.defaults = []) (hr : Room k callerA)
    (hY : ∀ (w : World) (h : Heap), YP w h → (K w.params).In h)
    (F : ∀ (w : World) (mg : Str → Option Value) (fa : Addr) (h : Heap), (K w.params).In h → h.Ns mainGlobals mg → mg d.name = some (.ref fa) → XP mg h →
      ∃ fd : FuncData, (∀ (s : Shared) (u : Value), BindsTo s fd ⟨[u], []⟩ [(x, u)]) ∧
        ∀ base : Heap, (K w.params).In base → base.Ns mainGlobals mg → FnP π l.prog w (K w.params) mg base (CX w) k fa fd [x] (sp w))
    (hsp : ∀ (w : World) (H : Hp) (a : Addr) (ns : List Int), ns.length ≤ n → Only H → SqL (K w.params) H a (ns.map V.int) → sp w [.ref a] H (fun v _ => v = .bl true) fun _ _ _ => False)
    (hCX : ∀ (w : World) (H : Hp) (s : Shared) (e : Value) (s' : Shared), CX w [] H s (fun _ _ _ => False) e s' → False) :
    PySem.W.WalkO q loose XP YP l.row.toRowW d [] (fun f vs => PySem.call f vs) := by
  refine Att.attach_call hn hdf fun w s₀ s₁ mg mb fa o pm cd doc a vs ns G Y ho hd hcd hmg hobj hints hlen hg => ?_
  have KX := hY w _ Y
  obtain ⟨fd, hb, hF⟩ := F w mg fa _ KX G.T.g hmg G.X
  exact law_callP hpi KX G.T.g G.T.b G.T.builtins G.T.nolimit hg hobj hints (Nat.le_trans hlen hn2) hr hF hb (fun H hO hS => hsp w H a ns hlen hO hS) fun H e s' => hCX w H s₁ e s'
theorem gint_of {p : Program} {lv : List (Str × PySem.W.WData)} {mg : Str → Option Value} {h : Heap} {x : Str} {n : Int} (X : PySem.W.XL p lv mg h) (hm : (x, PySem.W.WData.int n) ∈ lv) : ∃ t, mg x = some (.int n t) := by
  obtain ⟨v, e, r⟩ := X.2.val _ hm
  cases r
  exact ⟨_, e⟩

/-! ### the object that more than one def changes -/
theorem Fr.writeIv {C : Cs} {S H : Hp} {σ : St} {env : List Sl} (F : Fr C S H σ env) {i : Nat} {d : Addr} {o o' : HO} (hi : env[i]? = some (.iv d o)) (nt : ∀ vs, o' ≠ .tup vs := by intro _ z; cases z) : Fr C S (upd H d o') σ (env.set i (.iv d o')) := by
  obtain ⟨v, hp, p, u, e1, sp, ho, e2, e3⟩ := F.sl.get i hi
  subst e1 e2 e3
  have m : p ∈ owns σ env := owns_mem_get i hi hp rfl
  have eo : owns σ (env.set i (.iv p o')) = owns σ env := owns_same hi hp rfl rfl
  refine ⟨F.e0, F.e1.mut sp, fun b u' e n => ?_, F.nw, fun b h0 => ?_, F.sl.mutOne F.nd hi hp rfl ⟨p, o', rfl, sp, upd_same, rfl, rfl⟩, by rw [eo]; exact F.ow, by rw [eo]; exact F.nd, F.tc.up nt⟩
  · have nb : b ≠ p := fun z => by
      subst z
      rcases F.ow b m with q | q
      · rw [q] at e
        cases e
      · exact n q
    rw [upd_ne nb]
    exact F.e2 b u' e n
  · by_cases z : b = p
    · rw [z, upd_same]
      exact fun z => nomatch z
    · rw [upd_ne z]
      exact F.al b h0
theorem Fr.iv {C : Cs} {S H : Hp} {σ : St} {env : List Sl} (F : Fr C S H σ env) {i : Nat} {d : Addr} {o : HO} (hi : env[i]? = some (.iv d o)) : σ[i]? = some (some (.ref d)) ∧ S d = none ∧ H d = some o := by
  obtain ⟨v, hp, p, u, e1, sp, ho, e2, e3⟩ := F.sl.get i hi
  subst e1 e2 e3
  exact ⟨hp, sp, ho⟩
section
variable {X : Cx} {C : Cs} {env kp : Gh → List Sl} {e a b c tg iter : Expr} {es : List Expr} {A B rest : List Stmt} {pos p px : Pos} {α β γ ρ τ : Type} {r : Rp ρ} {ra re : Rp α} {rb : Rp β} {ma : W α} {mb : W β} {k : Bool} {pn : β → Gh → List Sl} {pl : γ → Gh → List Sl} {d : Addr} {i : Nat}
/-- a call that hands the object on -/
theorem xe_callD {π : Around → Prop} {ra : Ra α} {f : α → W ρ} {m : W α} {k : Nat} {fa : Addr} {fd : FuncData} {ps : List Str} {x xd : Str} (F : FnP π X.prog X.w X.K X.mg X.base CX0 k fa fd ps (SpD ra r f)) (hpi : π X.A) (hr : Room k X.A) (hg : Gl X x) (hm : X.mg x = some (.ref fa)) (hk : PySem.W.keepIn X.K (.ref fa) = true) (hb : Binds X.K fd ps [])
    (hd : PE X (.Name xd px) (tVar i)) (ha : PA X es (tA C env ra m)) (hi : ∀ g, (env g)[i]? = some (.iv d (oD g)) := by intro _; rfl) (hE : ∀ g g', env g' = (env g).set i (.iv d (oD g')) := by intro _ _; rfl)
    (hdb : (x == ("__debug__" : Str)) = false := by decide) (he : starEach (.Name xd px :: es) X.env = (false, eval (.Name xd px) X.env) :: starEach es X.env := by rfl) (hpl : (backTo pos (starEach es X.env)).any (·.1) = false := by rfl) :
    PE X (.Call (.Name x p) (.Name xd px :: es) [] pos) (tE C env r (m.bind f)) :=
  pe_imp (pe_callP F hpi hr hg hm hk hb .nil pass0 (pa_cons hd ha he) hdb he hpl) fun σ H Q _ ⟨S, g0, P, Fr1, em, q⟩ => by
    obtain ⟨s0, _, _⟩ := Fr1.iv (hi g0)
    refine ⟨.ref d, s0, S, g0, _, Fr1, em, fun a g1 pa vs S1 H1 F1 x1 hv => ?_⟩
    show SpD ra r f ((.ref d :: vs) ++ []) H1 _ E0
    rw [List.append_nil]
    obtain ⟨_, sp, hp⟩ := F1.iv (hi g1)
    refine ⟨S1, a, d, vs, g1, P, rfl, F1.e1, F1.tc, sp, hp, hv, pa, fun o g' po v S' H' eS eH eHH hd' sd' n t hr' _ => ?_⟩
    have F2 := F1.writeIv (hi g1) (o' := oD g')
    rw [← hE g1 g'] at F2
    refine q o g' po v S' H' (F2.call eS eH (fun b u hb => ?_) (fun b s0 h0 => ?_) t) (x1.trans eS) hr'
    · by_cases z : b = d
      · subst z
        rw [upd_same] at hb
        cases hb
        exact hd'
      · rw [upd_ne z] at hb
        exact eHH b u hb z
    · by_cases z : b = d
      · rw [z]
        exact sd'
      · rw [upd_ne z] at h0
        exact n b s0 h0
/-- the object's item -/
theorem xe_gix {xd : Str} {mi : W Int} (hd : PE X (.Name xd px) (tVar i)) (hb : PE X b (tE C env qI mi)) (hi : ∀ g, (env g)[i]? = some (.iv d (oD g)) := by intro _; rfl) (hs : PlainIx b := by intro _ _; rfl) :
    PE X (.Subscript (.Name xd px) b pos) (tE C env qI (mi.bind fun j => W.get.bind fun g => ofO (L2.atI g j))) :=
  pe_imp (pe_ix ix_list hd hb hs) fun σ H Q _ ⟨S, g0, P, F, em, q⟩ => by
    obtain ⟨s0, _, _⟩ := F.iv (hi g0)
    refine ⟨.ref d, s0, S, g0, _, F, em, fun j g1 ⟨z, ez, pz⟩ y S1 H1 F1 x1 hy => ?_⟩
    obtain ⟨_, _, hp⟩ := F1.iv (hi g1)
    have hy : y = .int j := hy
    subst hy
    obtain ⟨v, ev, hv⟩ := (All2.of_map (f := V.int) g1).atI ez
    exact ⟨d, _, j, v, rfl, rfl, SqL.of hp, ev, fun _ => q _ _ pz v S1 H1 F1 x1 hv⟩
/-- object[j] = e -/
def W.gset (j v : Int) : W Unit := fun g P => ∃ n, ixN g.length j = some n ∧ P () (g.set n v)
theorem xs_gset {xd : Str} {ps : Pos} {mv mi : W Int} {K : W (Fl ρ β γ)} (hv : PE X e (tE C env qI mv)) (hd : PE X (.Name xd px) (tVar i)) (hb : PE X b (tE C env qI mi)) (hr : PSs X rest (tF C env K pn pl kp r)) (hi : ∀ g, (env g)[i]? = some (.iv d (oD g)) := by intro _; rfl) (hE : ∀ g g', env g' = (env g).set i (.iv d (oD g')) := by intro _ _; rfl)
    (ha : ∀ v, assign (.Subscript (.Name xd px) b ps) X.env v = (do
      let ov ← holding [v] (eval (.Name xd px) X.env)
      let iv ← holding [v, ov] (eval b X.env)
      standAt ps
      holding [v, ov, iv] (setItem ov iv v)
      release [v, ov, iv] []) := by intro _; rfl)
    (hs : swapsWithSole [.Subscript (.Name xd px) b ps] e pos.line X.env = pure false := by rfl) (hw : swappedStores [.Subscript (.Name xd px) b ps] e X.env = pure none := by rfl) (h1 : (assignEach [.Subscript (.Name xd px) b ps] X.env).map (·.2) = [assign (.Subscript (.Name xd px) b ps) X.env] := by rfl) :
    PSs X (.Assign [.Subscript (.Name xd px) b ps] e pos :: rest) (tF C env (mv.bind fun v => mi.bind fun j => (W.gset j v).bind fun _ => K) pn pl kp r) :=
  pss_imp (pss_cons (ps_asg hv (pg_sub hd hb set_list ha) hs hw h1) hr) fun D σ H _ ⟨S, g0, P, F, em, q⟩ => ⟨S, g0, _, F, em, fun v g1 pv u S1 H1 F1 x1 hu => by
    obtain ⟨s1, _, _⟩ := F1.iv (hi g1)
    refine ⟨.ref d, s1, S1, g1, _, F1, pv, fun j g2 ⟨n, en, pn⟩ y S2 H2 F2 x2 hy => ?_⟩
    obtain ⟨_, _, hp⟩ := F2.iv (hi g2)
    have hy : y = .int j := hy
    have hu : u = .int v := hu
    subst hy hu
    refine ⟨d, _, j, n, rfl, rfl, hp, by rw [List.length_map]; exact en, ?_⟩
    have F3 := F2.writeIv (hi g2) (o' := oD (g2.set n v))
    rw [← hE g2 (g2.set n v)] at F3
    have eo : oD (g2.set n v) = .lst ((g2.map V.int).set n (.int v)) := by
      unfold oD
      rw [List.map_set]
    rw [eo] at F3
    exact ⟨S2, g2.set n v, P, F3, pn, fun o g9 po => (q o g9 po).mono (x1.trans x2)⟩⟩
/-- a list of ints of the def's own becomes the object -/
theorem xs_gh (i : Nat) {xs : List Int} {m : W (Fl ρ β γ)} (hr : ∀ d, PSs X A (tF C (fun g => (env g).set i (.iv d (oD g))) m pn pl kp r)) (hi : ∀ g, (env g)[i]? = some (.ow qI xs) := by intro _; rfl) (hE : ∀ g g', env g = env g' := by intro _ _; rfl) :
    PSs X A (tF C env ((W.put xs).bind fun _ => m) pn pl kp r) :=
  pss_imp (pss_ex hr) fun D σ H _ ⟨S, g0, P, F, em, q⟩ => by
    obtain ⟨v, ev, p, vs, e1, sp, hp, ha⟩ := F.sl.get i (hi g0)
    subst e1
    have hvs : vs = xs.map V.int := flat_ints ha
    subst hvs
    have eo : owns σ ((env g0).set i (.iv p (oD xs))) = owns σ (env g0) := owns_same (hi g0) ev rfl rfl
    refine ⟨p, S, xs, P, ?_, em, q⟩
    show Fr C S H σ ((env xs).set i (.iv p (oD xs)))
    rw [hE xs g0]
    exact ⟨F.e0, F.e1, F.e2, F.nw, F.al, F.sl.setEnv i ev ⟨p, _, rfl, sp, hp, rfl, rfl⟩, by rw [eo]; exact F.ow, by rw [eo]; exact F.nd, F.tc⟩

/-! ### in another dress, where it can be worn -/
theorem xe_asO {f : α → Option β} {m : W α} (hf : ∀ H v a b, ra.p H v a → f a = some b → rb.p H v b) (h : PE X e (tE C env ra m)) : PE X e (tE C env rb (m.bind fun x => ofO (f x))) := pe_imp h fun σ H Q _ ⟨S, g0, P, F, em, k⟩ =>
  ⟨S, g0, _, F, em, fun x g1 ⟨z, ez, pz⟩ v S1 H1 F1 x1 hv _ => k _ _ pz v S1 H1 F1 x1 (hf S1 v x z hv ez)⟩
def two {α : Type} : List α → Option (α × α)
  | [x, y] => some (x, y)
  | _ => none
def three {α : Type} : List α → Option (α × α × α)
  | [x, y, z] => some (x, y, z)
  | _ => none
theorem as_two (H : Hp) (v : V) (a : List α) (b : α × α) (h : (qT ra).p H v a) (e : two a = some b) : (qP ra ra).p H v b := by
  obtain ⟨p, vs, ev, hp, h2⟩ := h
  match a, e with
  | [x, y], e =>
    cases e
    match vs, h2 with
    | [v1, v2], ⟨a1, a2, _⟩ => exact ⟨p, v1, v2, ev, hp, a1, a2⟩
theorem as_three (H : Hp) (v : V) (a : List α) (b : α × α × α) (h : (qT ra).p H v a) (e : three a = some b) : (qP3 ra ra ra).p H v b := by
  obtain ⟨p, vs, ev, hp, h2⟩ := h
  match a, e with
  | [x, y, z], e =>
    cases e
    match vs, h2 with
    | [v1, v2, v3], ⟨a1, a2, a3, _⟩ => exact ⟨p, v1, v2, v3, ev, hp, a1, a2, a3⟩
theorem xe_unT2 {m : W (List α)} (h : PE X e (tE C env (qT ra) m)) : PE X e (tE C env (qP ra ra) (m.bind fun x => ofO (two x))) := xe_asO as_two h
theorem xe_unT3 {m : W (List α)} (h : PE X e (tE C env (qT ra) m)) : PE X e (tE C env (qP3 ra ra ra) (m.bind fun x => ofO (three x))) := xe_asO as_three h
theorem xe_row2 {m : W (α × α)} (h : PE X e (tE C env (qP ra ra) m)) : PE X e (tE C env (qT ra) (m.bind fun x => .ret [x.1, x.2])) :=
  xe_as (r := qP ra ra) (rb := qT ra) (f := fun x => [x.1, x.2]) (fun H v a ⟨p, x, y, ev, hp, h1, h2⟩ => ⟨p, [x, y], ev, hp, h1, h2, True.intro⟩) h
theorem xe_row3 {m : W (α × α × α)} (h : PE X e (tE C env (qP3 ra ra ra) m)) : PE X e (tE C env (qT ra) (m.bind fun x => .ret [x.1, x.2.1, x.2.2])) :=
  xe_as (r := qP3 ra ra ra) (rb := qT ra) (f := fun x => [x.1, x.2.1, x.2.2]) (fun H v a ⟨p, x, y, z, ev, hp, h1, h2, h3⟩ => ⟨p, [x, y, z], ev, hp, h1, h2, h3, True.intro⟩) h

/-! ### lists of the def's own, further -/
/-- xs.extend(a new list) -/
theorem xs_ext {x : Str} {pa pe : Pos} {xs : List α} {m : W (List α)} {K : List α → W (Fl ρ β γ)} (hr : ∀ ys, PSs X rest (tF C (fun g => (env g).set i (.ow re ys)) (K ys) pn pl kp r))
    (hb : PE X (.Call (.Attribute (.Name x px) "extend" pa) [e] [] pe) (tBM X.K "list" rExtend (tVar i) (tCons (tN C env re m) tNil))) (hi : ∀ g, (env g)[i]? = some (.ow re xs) := by intro _; rfl)
    (hs : swapsWith (.Call (.Attribute (.Name x px) "extend" pa) [e] [] pe) none pos.line X.env = pure false := by rfl) :
    PSs X (.Expr (.Call (.Attribute (.Name x px) "extend" pa) [e] [] pe) pos :: rest) (tF C env (m.bind fun zs => (ofO (catC xs zs)).bind K) pn pl kp r) :=
  pss_imp (pss_cons (ps_expr hb hs) (pss_ex hr)) fun D σ H _ ⟨S, g0, P, F, em, q⟩ => by
    obtain ⟨w, ew, p, vs, e2, sp, hp, ha⟩ := F.sl.get i (hi _)
    subst e2
    refine ⟨.ref p, ew, .inl ⟨rfl, vs, SqL.of hp⟩, S, g0, _, F, em, fun zs g1 ⟨out, eo, po⟩ b ws S1 H1 F1 x1 hb hw => ?_⟩
    obtain ⟨w1, ew1, p1, vs1, e21, sp1, hp1, ha1⟩ := F1.sl.get i (hi _)
    subst e21
    rw [ew] at ew1
    cases ew1
    unfold catC at eo
    split at eo
    · rename_i hl
      cases eo
      have npb : p ≠ b := fun z => by
        rw [z, hb] at hp1
        cases hp1
      refine ⟨p, b, vs1, ws, rfl, rfl, by rw [upd_ne npb]; exact hp1, upd_same, by rw [All2.length ha1, All2.length hw, sizeLine_eq]; omega, xs ++ zs, S1, g1, P, ?_, po, fun o g9 po => (q o g9 po).mono x1⟩
      exact (F1.add hb).write (hi _) ew (ha1.append hw)
    · cases eo

/-! ### the greatest, the least one of a list, a tuple of ints -/
def maxL : List Int → Option Int
  | [] => none
  | x :: xs => some (xs.foldl max x)
def minL : List Int → Option Int
  | [] => none
  | x :: xs => some (xs.foldl min x)
def rExt (K : PySem.W.Frag) (f : Int → Int → Int) : List V → Hp → VK → Prop := fun vs H Q => ∃ (a : Addr) (n : Int) (ns : List Int), vs = [V.ref a] ∧ (SqL K H a ((n :: ns).map V.int) ∨ SqT K H a ((n :: ns).map V.int)) ∧ Q (.int (ns.foldl f n)) H
theorem alike_all (ns : List Int) : PySem.W.AlikeAll (ns.map PyData.int) := by
  refine ⟨fun x hx y hy => ?_, fun x hx => ?_⟩
  · obtain ⟨i, _, rfl⟩ := List.mem_map.mp hx
    obtain ⟨j, _, rfl⟩ := List.mem_map.mp hy
    simp only [PySem.W.alike]
  · obtain ⟨i, _, rfl⟩ := List.mem_map.mp hx
    exact fun z => nomatch z
theorem dep_ints (ns : List Int) : PyData.depthAll (ns.map PyData.int) ≤ 0 := depthAll_map (fun a => by simp [PyData.depth]) ns
theorem cr_maxQ (hc : X.calm = true) (hu : X.A.units + 64 < cLine) : CallR X (.builtin "max") (rExt X.K max) := by
  intro pins s σ H vs us Q I r h
  obtain ⟨a, n, ns, rfl, hs, q⟩ := h
  rw [Vals.ref1 r]
  have hd : DpAll X.K H ((n :: ns).map V.int) ((n :: ns).map PyData.int) := dpAll (r := qI) (f := PyData.int) (fun h => dI.rep h) (All2.of_map (f := V.int) (n :: ns))
  have h0 := dep_ints (n :: ns)
  rcases hs with hs | hs
  · obtain ⟨its, rv, hl, _⟩ := I.list hs
    obtain ⟨as, rd⟩ := Dp.readsAll I _ _ _ hd rv
    refine PySem.W.max_list_data (I.ok.hd hc) hl.isList rd (alike_all (n :: ns)) (by
      show X.A.units + 1 + PyData.depthAll ((n :: ns).map PyData.int) < cLine
      omega) fun i v h' tk bs hv hr hk => ?_
    rw [PySem.W.maxD_ints] at hr
    cases hr
    exact ⟨.int _, H, I.kept hk, ⟨_, rfl⟩, q⟩
  · obtain ⟨its, rv, hl, _⟩ := I.tuple hs
    obtain ⟨as, rd⟩ := Dp.readsAll I _ _ _ hd rv
    refine PySem.W.max_tuple_data (I.ok.hd hc) (show s.heap.IsTuple a its.toArray from hl) rd (alike_all (n :: ns)) (by
      show X.A.units + 1 + PyData.depthAll ((n :: ns).map PyData.int) < cLine
      omega) fun i v h' tk bs hv hr hk => ?_
    rw [PySem.W.maxD_ints] at hr
    cases hr
    exact ⟨.int _, H, I.kept hk, ⟨_, rfl⟩, q⟩
theorem cr_minQ (hc : X.calm = true) (hu : X.A.units + 64 < cLine) : CallR X (.builtin "min") (rExt X.K min) := by
  intro pins s σ H vs us Q I r h
  obtain ⟨a, n, ns, rfl, hs, q⟩ := h
  rw [Vals.ref1 r]
  have hd : DpAll X.K H ((n :: ns).map V.int) ((n :: ns).map PyData.int) := dpAll (r := qI) (f := PyData.int) (fun h => dI.rep h) (All2.of_map (f := V.int) (n :: ns))
  have h0 := dep_ints (n :: ns)
  rcases hs with hs | hs
  · obtain ⟨its, rv, hl, _⟩ := I.list hs
    obtain ⟨as, rd⟩ := Dp.readsAll I _ _ _ hd rv
    refine PySem.W.min_list_data (I.ok.hd hc) hl.isList rd (alike_all (n :: ns)) (by
      show X.A.units + 1 + PyData.depthAll ((n :: ns).map PyData.int) < cLine
      omega) fun i v h' tk bs hv hr hk => ?_
    rw [PySem.W.minD_ints] at hr
    cases hr
    exact ⟨.int _, H, I.kept hk, ⟨_, rfl⟩, q⟩
  · obtain ⟨its, rv, hl, _⟩ := I.tuple hs
    obtain ⟨as, rd⟩ := Dp.readsAll I _ _ _ hd rv
    refine PySem.W.min_tuple_data (I.ok.hd hc) (show s.heap.IsTuple a its.toArray from hl) rd (alike_all (n :: ns)) (by
      show X.A.units + 1 + PyData.depthAll ((n :: ns).map PyData.int) < cLine
      omega) fun i v h' tk bs hv hr hk => ?_
    rw [PySem.W.minD_ints] at hr
    cases hr
    exact ⟨.int _, H, I.kept hk, ⟨_, rfl⟩, q⟩
theorem xe_max1 {mx : W (List Int)} (hc : X.calm = true) (hu : X.A.units + 64 < cLine) (hg : Gl X "max") (hm : X.mg "max" = none) (ha : PE X a (tQ C env k qI mx)) (hs : starEach [a] X.env = (false, eval a X.env) :: starEach [] X.env := by rfl) :
    PE X (.Call (.Name "max" p) [a] [] pos) (tE C env qI (mx.bind fun xs => ofO (maxL xs))) :=
  xe_b1 (f := maxL) (cr_maxQ hc hu) (by decide +kernel) hg hm ha (fun _ S H σ p vs xs z Q F _ hp h2 ez kk => by
    cases xs with
    | nil => cases ez
    | cons n ns =>
      cases ez
      exact ⟨p, n, ns, rfl, by rw [← flat_ints h2]; exact sq_seq hp, kk _ S H F (Ex.refl S) rfl⟩) hs
theorem xe_min1 {mx : W (List Int)} (hc : X.calm = true) (hu : X.A.units + 64 < cLine) (hg : Gl X "min") (hm : X.mg "min" = none) (ha : PE X a (tQ C env k qI mx)) (hs : starEach [a] X.env = (false, eval a X.env) :: starEach [] X.env := by rfl) :
    PE X (.Call (.Name "min" p) [a] [] pos) (tE C env qI (mx.bind fun xs => ofO (minL xs))) :=
  xe_b1 (f := minL) (cr_minQ hc hu) (by decide +kernel) hg hm ha (fun _ S H σ p vs xs z Q F _ hp h2 ez kk => by
    cases xs with
    | nil => cases ez
    | cons n ns =>
      cases ez
      exact ⟨p, n, ns, rfl, by rw [← flat_ints h2]; exact sq_seq hp, kk _ S H F (Ex.refl S) rfl⟩) hs

/-! ### name = [..], the name a local -/
section
variable {δ : Type} {rd : Rp δ} {y : Str} {py spos : Pos} {elt : Expr} {ifs : List Expr} {scope : Scope} {own : List (Str × Nat)} {mx : W (List α)} {up : Up α} {cf : α → W Bool} {ef : α → W δ}
theorem xs_setLcN {K : List δ → W (Fl ρ β γ)} (hc : X.calm = true) (hN : X.N.Nodup) (hy : X.N[i]? = some y) (hyl : X.env.scope.names.lookup y = some .local) (hsw : swapsWith (.ListComp elt [⟨tg, iter, ifs, 0⟩] scope pos) (some (.Name y py)) spos.line X.env = pure true)
    (hi : PI X tg iter (tS C env re mx)) (ok : BlkOk X.N X.env.scope scope own) (hjs : (up.js.all fun j => (own.map (·.2)).contains j) = true) (hw : ∀ g, wipeOk (env g) (own.map (·.2)) = true)
    (hg : ∀ (s : Shared) (H : Hp) (C0 : Addr) (cl : List (Str × Addr)) (fp : List Addr), PG (X.blk s H scope (compEnvC scope cl C0 X.env) fp) tg (tG re up))
    (ht : ∀ (s : Shared) (H : Hp) (C0 : Addr) (cl : List (Str × Addr)) (fp : List Addr) (C' : Cs) (a : α), PTs (X.blk s H scope (compEnvC scope cl C0 X.env) fp) ifs (tT C' (fun g => up.f a (wipeE (env g) (own.map (·.2)))) (cf a)))
    (he : ∀ (s : Shared) (H : Hp) (C0 : Addr) (cl : List (Str × Addr)) (fp : List Addr) (C' : Cs) (a : α), PE (X.blk s H scope (compEnvC scope cl C0 X.env) fp) elt (tE C' (fun g => up.f a (wipeE (env g) (own.map (·.2)))) rd (ef a)))
    (hr : ∀ a, PSs X rest (tF C (fun g => (env g).set i (.ow rd a)) (K a) pn pl kp r))
    (hs : ∀ x, foldedSetIterable iter X.env x = pure x := by intro _; rfl) (hE : ∀ g g', Gs (env g) (env g') := by intro _ _; repeat (first | exact Gs.nil | apply Gs.keep | apply Gs.gh)) :
    PSs X (.Assign [.Name y py] (.ListComp elt [⟨tg, iter, ifs, 0⟩] scope pos) spos :: rest) (tF C env ((mx.bind fun xs => lcW cf ef xs).bind K) pn pl kp r) :=
  pss_imp (pss_cons (ps_setLc (tt := fun σ H Q => ∃ p : Cs × α, tT p.1 (fun g => up.f p.2 (wipeE (env g) (own.map (·.2)))) (cf p.2) σ H Q) (te := fun σ H Q => ∃ p : Cs × α, tE p.1 (fun g => up.f p.2 (wipeE (env g) (own.map (·.2)))) rd (ef p.2) σ H Q) hc hN hy hyl hsw hi ok hg
    (fun s H C0 cl fp => ⟨fun pins s' σ H' Q I ⟨p, q⟩ => (ht s H C0 cl fp p.1 p.2).run pins s' σ H' Q I q⟩) (fun s H C0 cl fp => pe_ex fun p => he s H C0 cl fp p.1 p.2) hs) (pss_ex hr)) fun D σ H _ ⟨S, g0, P, F, em, q⟩ =>
    lc_use (re := re) (rb := rd) (mx := mx) (up := up) (cf := cf) (ef := ef) (Q := fun x H1 => ∃ a, tF C (fun g => (env g).set i (.ow rd a)) (K a) pn pl kp r D (σ.set i (some x)) H1) hjs hw hE ⟨S, g0, _, F, em, fun xs g1 px p vs S' H' F' eS hp ha => ⟨xs, _, g1, P, F'.setOw i hp ha, px, fun o g9 po => (q o g9 po).mono eS⟩⟩
theorem xs_setLc {K : List δ → W (Fl ρ β γ)} (hc : X.calm = true) (hN : X.N.Nodup) (hy : X.N[i]? = some y) (hyl : X.env.scope.names.lookup y = some .local) (hsw : swapsWith (.ListComp elt [⟨tg, iter, ifs, 0⟩] scope pos) (some (.Name y py)) spos.line X.env = pure true)
    (hi : PI X tg iter (tS C env re mx)) (ok : BlkOk X.N X.env.scope scope own) (hjs : (up.js.all fun j => (own.map (·.2)).contains j) = true) (hw : ∀ g, wipeOk (env g) (own.map (·.2)) = true)
    (hg : ∀ (s : Shared) (H : Hp) (C0 : Addr) (cl : List (Str × Addr)) (fp : List Addr), PG (X.blk s H scope (compEnvC scope cl C0 X.env) fp) tg (tG re up))
    (ht : ∀ (s : Shared) (H : Hp) (C0 : Addr) (cl : List (Str × Addr)) (fp : List Addr) (C' : Cs) (a : α), PTs (X.blk s H scope (compEnvC scope cl C0 X.env) fp) ifs (tT C' (fun g => up.f a (wipeE (env g) (own.map (·.2)))) (cf a)))
    (he : ∀ (s : Shared) (H : Hp) (C0 : Addr) (cl : List (Str × Addr)) (fp : List Addr) (C' : Cs) (a : α), PE (X.blk s H scope (compEnvC scope cl C0 X.env) fp) elt (tE C' (fun g => up.f a (wipeE (env g) (own.map (·.2)))) rd (ef a)))
    (hr : ∀ a, PSs X rest (tF C (fun g => (env g).set i (.im (qL rd) a)) (K a) pn pl kp r))
    (hs : ∀ x, foldedSetIterable iter X.env x = pure x := by intro _; rfl) (hE : ∀ g g', Gs (env g) (env g') := by intro _ _; repeat (first | exact Gs.nil | apply Gs.keep | apply Gs.gh)) :
    PSs X (.Assign [.Name y py] (.ListComp elt [⟨tg, iter, ifs, 0⟩] scope pos) spos :: rest) (tF C env ((mx.bind fun xs => lcW cf ef xs).bind K) pn pl kp r) :=
  pss_imp (pss_cons (ps_setLc (tt := fun σ H Q => ∃ p : Cs × α, tT p.1 (fun g => up.f p.2 (wipeE (env g) (own.map (·.2)))) (cf p.2) σ H Q) (te := fun σ H Q => ∃ p : Cs × α, tE p.1 (fun g => up.f p.2 (wipeE (env g) (own.map (·.2)))) rd (ef p.2) σ H Q) hc hN hy hyl hsw hi ok hg
    (fun s H C0 cl fp => ⟨fun pins s' σ H' Q I ⟨p, q⟩ => (ht s H C0 cl fp p.1 p.2).run pins s' σ H' Q I q⟩) (fun s H C0 cl fp => pe_ex fun p => he s H C0 cl fp p.1 p.2) hs) (pss_ex hr)) fun D σ H _ ⟨S, g0, P, F, em, q⟩ =>
    lc_use (re := re) (rb := rd) (mx := mx) (up := up) (cf := cf) (ef := ef) (Q := fun x H1 => ∃ a, tF C (fun g => (env g).set i (.im (qL rd) a)) (K a) pn pl kp r D (σ.set i (some x)) H1) hjs hw hE (tN_of_E ⟨S, g0, _, F, em, fun xs g1 px v S' H' F' eS hv => ⟨xs, S', g1, P, F'.setIm i hv, px, fun o g9 po => (q o g9 po).mono eS⟩⟩)
end
end

/-! ### defs by their names -/
section
variable (P : Program) (w : World) (K : PySem.W.Frag) (mg : Str → Option Value) (base : Heap)
def Has (π : Around → Prop) (x : Str) (k : Nat) (ps : List Str) (sp : Sp) : Prop := ∃ fa fd, FnP π P w K mg base CX0 k fa fd ps sp ∧ mg x = some (.ref fa) ∧ PySem.W.keepIn K (.ref fa) = true ∧ Binds K fd ps []
end
section
variable {X : Cx} {C : Cs} {env kp : Gh → List Sl} {e a b : Expr} {es : List Expr} {A B rest : List Stmt} {pos p px : Pos} {α β γ ρ : Type} {r : Rp ρ} {pn : β → Gh → List Sl} {pl : γ → Gh → List Sl} {d : Addr} {i : Nat} {ra : Ra α}
theorem xe_callH {π : Around → Prop} {f : α → Option ρ} {m : W α} {j k : Nat} {ps : List Str} {x : Str} (h : Has X.prog X.w X.K X.mg X.base π x j ps (SpF ra r f)) (hpi : π X.A) (hr : Room k X.A) (hj : j ≤ k) (hg : Gl X x)
    (ha : PA X (e :: es) (tA C env ra m)) (hdb : (x == ("__debug__" : Str)) = false := by decide) (he : starEach (e :: es) X.env = (false, eval e X.env) :: starEach es X.env := by rfl) (hpl : (backTo pos (starEach es X.env)).any (·.1) = false := by rfl) :
    PE X (.Call (.Name x p) (e :: es) [] pos) (tE C env r (m.bind fun a => ofO (f a))) :=
  let ⟨_, _, F, hm, hk, hb⟩ := h
  xe_call F hpi (hr.mono hj) hg hm hk hb ha hdb he hpl
theorem xe_callDH {π : Around → Prop} {f : α → W ρ} {m : W α} {j k : Nat} {ps : List Str} {x xd : Str} (h : Has X.prog X.w X.K X.mg X.base π x j ps (SpD ra r f)) (hpi : π X.A) (hr : Room k X.A) (hj : j ≤ k) (hg : Gl X x)
    (hd : PE X (.Name xd px) (tVar i)) (ha : PA X es (tA C env ra m)) (hi : ∀ g, (env g)[i]? = some (.iv d (oD g)) := by intro _; rfl) (hE : ∀ g g', env g' = (env g).set i (.iv d (oD g')) := by intro _ _; rfl)
    (hdb : (x == ("__debug__" : Str)) = false := by decide) (he : starEach (.Name xd px :: es) X.env = (false, eval (.Name xd px) X.env) :: starEach es X.env := by rfl) (hpl : (backTo pos (starEach es X.env)).any (·.1) = false := by rfl) :
    PE X (.Call (.Name x p) (.Name xd px :: es) [] pos) (tE C env r (m.bind f)) :=
  let ⟨_, _, F, hm, hk, hb⟩ := h
  xe_callD F hpi (hr.mono hj) hg hm hk hb hd ha hi hE hdb he hpl
theorem xs_parN1 {i j : Nat} {x y : Str} {px py pt0 : Pos} {kt k2 : Nat} {pt2 : Pos} {α1 α2 : Type} {r1 : Rp α1} {r2 : Rp α2} {m1 : W (List α1)} {m2 : W α2} {K : List α1 → α2 → W (Fl ρ β γ)} (ha : PE X a (tN C env r1 m1)) (hb : ∀ C', PE X b (tE C' env r2 m2)) (hr : ∀ a b, PSs X rest (tF C (fun g => ((env g).set i (.ow r1 a)).set j (.im r2 b)) (K a b) pn pl kp r))
    (hc : X.calm = true) (hN : X.N.Nodup) (hi : X.N[i]? = some x) (hj : X.N[j]? = some y) (hij : i ≠ j) (hx : X.env.scope.names.lookup x = some .local) (hy : X.env.scope.names.lookup y = some .local)
    (hw : swappedStores [.Tuple [.Name x px, .Name y py] kt pt0] (.Tuple [a, b] k2 pt2) X.env = pure (some [x, y])) (hs : swapsWithSole [.Tuple [.Name x px, .Name y py] kt pt0] (.Tuple [a, b] k2 pt2) pos.line X.env = pure false := by rfl)
    (h1 : starEach [a, b] X.env = (false, eval a X.env) :: starEach [b] X.env := by rfl) (h2 : starEach [b] X.env = (false, eval b X.env) :: starEach [] X.env := by rfl) (hE : ∀ g g', Gs (env g) (env g') := by intro _ _; repeat (first | exact Gs.nil | apply Gs.keep | apply Gs.gh)) :
    PSs X (.Assign [.Tuple [.Name x px, .Name y py] kt pt0] (.Tuple [a, b] k2 pt2) pos :: rest) (tF C env (m1.bind fun a => m2.bind fun b => K a b) pn pl kp r) :=
  pss_imp (pss_cons (ps_par hc hN hi hj hij hx hy (pa_cons ha (pa_cons (pe_ex hb) pa_nil h2) h1) hw hs) (pss_ex fun p : List α1 × α2 => hr p.1 p.2)) fun D σ H _ ⟨S, g0, P, F, em, q⟩ => ⟨S, g0, _, F, em, fun xs g1 px p vs S1 H1 F1 x1 hp hv => by
    have G0 := F1.add hp (o := .lst vs)
    have np : ∀ g, p ∉ owns σ (env g) := fun g z => by
      obtain ⟨_, o, e⟩ := F1.sl.own ((hE g g1).owns σ ▸ z)
      rw [hp] at e
      cases e
    refine ⟨_, S1, g1, _, G0.here, px, fun w g2 pw v2 S2 H2 F2 x2 hv2 => ⟨.ref p, v2, rfl, (xs, w), S2, g2, P, ?_, pw, fun o g9 po => (q o g9 po).mono (x1.trans x2)⟩⟩
    have hp2 : H2 p = some (.lst vs) := F2.e2 p _ upd_same (np g1)
    have sp2 : S2 p = none := F2.nw p (F1.e1.back hp) (by show upd H1 p (.lst vs) p ≠ none; rw [upd_same]; exact fun z => nomatch z)
    have G2 : Fr C S2 H2 σ (env g2) := G0.backG ((hE g2 g1).owns σ) F2
    have G3 := (G2.del sp2 (F1.H0none hp) (np g2)).setOw i (r := r1) (p := p) (vs := vs) (xs := xs) (by unfold Rt.del; simp) (hv.mono fun _ _ z => r1.mono x2 z)
    rw [upd_del hp2] at G3
    exact G3.setIm j hv2⟩
theorem xe_gintE {x : Str} {i : Int} (hg : Gl X x) (hm : ∃ t, X.mg x = some (.int i t)) (hd : (x == ("__debug__" : Str)) = false := by decide) : PE X (.Name x pos) (tE C env qI (.ret i)) :=
  let ⟨_, h⟩ := hm
  xe_gint hg h hd
end
/-! ### defs that give a new list -/
theorem del_ne {H : Hp} {p b : Addr} (h : b ≠ p) : del H p b = H b := by
  unfold del
  rw [if_neg h]
theorem del_same {H : Hp} {p : Addr} : del H p p = none := by
  unfold del
  simp
theorem Ex.del {S S' : Hp} (p : Addr) (e : Ex S S') : Ex (Rt.del S p) (Rt.del S' p) := fun b u h => by
  by_cases z : b = p
  · rw [z, del_same] at h
    cases h
  · rw [del_ne z] at h ⊢
    exact e b u h
theorem Ex.toDel {S S' : Hp} {p : Addr} (e : Ex S S') (h : S p = none) : Ex S (Rt.del S' p) := fun b u hb => by
  have z : b ≠ p := fun z => by
    rw [z, h] at hb
    cases hb
  rw [del_ne z]
  exact e b u hb
theorem del_upd {S : Hp} {p : Addr} {o : HO} (h : S p = none) : del (upd S p o) p = S := by
  funext b
  by_cases z : b = p
  · rw [z, del_same, h]
  · rw [del_ne z, upd_ne z]
/-- a list that is new behind C -/
def qNew (C : Cs) {α : Type} (r : Rp α) : Rp (List α) := ⟨fun S v xs => ∃ p vs, v = .ref p ∧ S p = some (.lst vs) ∧ C.S0 p = none ∧ C.H0 p = none ∧ All2 (r.p (Rt.del S p)) vs xs, fun e ⟨p, vs, h1, h2, h3, h4, h5⟩ => ⟨p, vs, h1, e _ _ h2, h3, h4, h5.mono fun _ _ z => r.mono (e.del p) z⟩⟩
def SpN {α β : Type} (ra : Ra α) (r : Rp β) (f : α → Option (List β)) : Sp := fun vs H Q _ => ∃ S a o, Ex S H ∧ Tc S H ∧ ra.p S vs a ∧ f a = some o ∧
  ∀ p us S' H', Ex S S' → Ex S' H' → Ex H H' → (∀ b, S b = none → H b ≠ none → S' b = none) → Tc S' H' → H' p = none → All2 (r.p S') us o → Q (.ref p) (upd H' p (.lst us))
section
variable {X : Cx} {C : Cs} {env kp : Gh → List Sl} {e a b : Expr} {es : List Expr} {A B rest : List Stmt} {pos p : Pos} {α β γ δ : Type} {re : Rp δ} {pn : β → Gh → List Sl} {pl : γ → Gh → List Sl} {ra : Ra α}
theorem xs_retN {m : W (List δ)} (h : PE X e (tN C env re m)) (hk : Kp env kp := by first | exact ⟨0, fun _ => rfl⟩ | exact ⟨1, fun _ => rfl⟩) : PSs X (.Return (some e) pos :: rest) (tF C env (m.bind fun x => .ret (.rt x)) pn pl kp (qNew C re)) := pss_imp (pss_cons (ps_ret h) pss_never) fun D σ H _ ⟨S, g0, P, F, em, q⟩ =>
  ⟨S, g0, _, F, em, fun x g1 px p vs S1 H1 F1 x1 hp ha => by
    obtain ⟨σ', F'⟩ := (F1.new (o := .lst vs) hp).kp hk
    have sp : S1 p = none := F1.e1.back hp
    exact q _ _ px (.ref p) _ _ σ' F' (x1.trans (Ex.new sp)) ⟨p, vs, rfl, upd_same, F1.e0.back sp, F1.H0none hp, by rw [del_upd sp]; exact ha⟩⟩
theorem body_ofL {body : List Stmt} {N : List Str} {f : α → Option (List δ)} {env : α → List Sl} {m : α → W (Fl (List δ) β γ)} {vs : List V} {H : Hp} {Q : VK} {E : XK} (h : SpN ra re f vs H Q E) (hg : ∀ a, ofO (f a) = rtOf (m a))
    (hs : ∀ S H a, ra.p S vs a → SlAll S H (start N vs) (env a) ∧ owns (start N vs) (env a) = []) (hb : ∀ (C : Cs) (a : α), C.A0 = [] → PSs X body (tF C (fun _ => env a) (m a) pn pl kp (qNew C re))) :
    ∃ t, PSs X body t ∧ t { nx := fun _ H' => Q .non H', rt := Q } (start N vs) H := by
  obtain ⟨S, a, o, e, t, hv, eo, k⟩ := h
  obtain ⟨s1, s2⟩ := hs S H a hv
  have hm : rtOf (m a) [] (fun x _ => x = o) := by
    rw [← hg a]
    exact ⟨o, eo, rfl⟩
  refine ⟨_, hb ⟨[], S, H⟩ a rfl, S, [], _, Fr.entry e t s1 s2, hm, fun w g' pw => ?_⟩
  cases w with
  | rt x =>
    have pw : x = o := pw
    subst pw
    rintro v S' H' σ' F _ ⟨p, us, ev, sp, s0, h0, ha⟩
    subst ev
    have := k p us (Rt.del S' p) (Rt.del H' p) (F.e0.toDel s0) (F.e1.del p) (Ex.toDel (fun b u e => F.e2 b u e (by simp)) h0) (fun b z1 z2 => by
      by_cases z : b = p
      · rw [z]
        exact del_same
      · rw [del_ne z]
        exact F.nw b z1 z2) (F.tc.del2 p) del_same ha
    rw [upd_del (F.e1 _ _ sp)] at this
    exact this
  | nx _ => exact pw.elim
  | br _ => exact pw.elim
  | ct _ => exact pw.elim
theorem xe_callL {π : Around → Prop} {f : α → Option (List δ)} {m : W α} {j k : Nat} {ps : List Str} {x : Str} (h : Has X.prog X.w X.K X.mg X.base π x j ps (SpN ra re f)) (hpi : π X.A) (hr : Room k X.A) (hj : j ≤ k) (hg : Gl X x)
    (ha : PA X (e :: es) (tA C env ra m)) (hdb : (x == ("__debug__" : Str)) = false := by decide) (he : starEach (e :: es) X.env = (false, eval e X.env) :: starEach es X.env := by rfl) (hpl : (backTo pos (starEach es X.env)).any (·.1) = false := by rfl) :
    PE X (.Call (.Name x p) (e :: es) [] pos) (tN C env re (m.bind fun a => ofO (f a))) := by
  obtain ⟨fa, fd, F, hm, hk, hb⟩ := h
  exact pe_imp (pe_callP F hpi (hr.mono hj) hg hm hk hb .nil pass0 ha hdb he hpl) fun σ H Q _ ⟨S, g0, P, Fr1, em, q⟩ => ⟨S, g0, _, Fr1, em, fun a g1 ⟨o, eo, po⟩ vs S1 H1 F1 x1 hv => by
    show SpN ra re f (vs ++ []) H1 _ E0
    rw [List.append_nil]
    exact ⟨S1, a, o, F1.e1, F1.tc, hv, eo, fun p us S' H' eS eH eHH n t hp ha _ => q o g1 po p us S' H' (F1.call eS eH eHH n t) (x1.trans eS) hp ha⟩⟩
end
section
variable {P : Program} {w : World} {K : PySem.W.Frag} {mg : Str → Option Value} {base : Heap} {α β γ δ : Type} {re : Rp δ} {p : Pr α} {N ps : List Str} {k : Nat} {st : Stmt} {x qual : Str} {f : Addr} {fd : FuncData}
theorem fn_okL {π : Around → Prop} {g : α → Option (List δ)} {env : α → List Sl} {m : α → W (Fl (List δ) β γ)} {pn : β → Gh → List Sl} {pl : γ → Gh → List Sl} (j : Nat) (sπ : Stb π) (F : Fun K x qual st f fd) (S : FnScope N ps (defScope st)) (hn : p.n = ps.length) (hN : N.length = ps.length + j) (he : ∀ a, env a = p.sl a ++ List.replicate j .un)
    (hb : ∀ (cdv : Value) (A : Around) (outer : List Env) (s : Shared) (H : Hp) (E : XK), π (A.deeper (PyProof.Rows.envOfC qual (defScope st) s.heap.objs.size f cdv)) → Room k (A.deeper (PyProof.Rows.envOfC qual (defScope st) s.heap.objs.size f cdv)) → ∀ (C : Cs) (a : α), C.A0 = [] → PSs (cxOf CX0 P w K mg base N qual (defScope st) f cdv A outer s H E).nox (defBody st) (tF C (fun _ => env a) (m a) pn pl (fun _ => []) (qNew C re)))
    (hg : ∀ a, ofO (g a) = rtOf (m a)) : FnP π P w K mg base CX0 (k + 1) f fd ps (SpN p.ra re g) := by
  refine funP_ok sπ F S (fun vs H Q E h => ?_) (fun cdv A outer s H vs Q E hp hr h => ?_)
  · obtain ⟨_, _, _, _, _, hv, _⟩ := h
    rw [(p.ok (H := H) hv).2.2, hn]
  · exact body_ofL (E := E) h hg (fun S H a hv => by rw [he a]; exact p.start (by rw [hN, hn]) hv) (hb cdv A outer s H E hp hr)
end

/-! ### defs within which a shared object is made -/
def SpW {α ρ : Type} (ra : Ra α) (r : Rp ρ) (f : α → W ρ) : Sp := fun vs H Q _ => ∃ S a P, Ex S H ∧ Tc S H ∧ ra.p S vs a ∧ f a [] P ∧ ∀ o g, P o g → Post S H r o Q
section
variable {P : Program} {w : World} {K : PySem.W.Frag} {mg : Str → Option Value} {base : Heap} {α β γ ρ : Type} {r : Rp ρ} {p : Pr α} {N ps : List Str} {k : Nat} {st : Stmt} {x qual : Str} {f : Addr} {fd : FuncData}
theorem fn_okW {π : Around → Prop} {g : α → W ρ} {env : α → List Sl} {m : α → W (Fl ρ β γ)} {pn : β → Gh → List Sl} {pl : γ → Gh → List Sl} (j : Nat) (sπ : Stb π) (F : Fun K x qual st f fd) (S : FnScope N ps (defScope st)) (hn : p.n = ps.length) (hN : N.length = ps.length + j) (he : ∀ a, env a = p.sl a ++ List.replicate j .un)
    (hb : ∀ (cdv : Value) (A : Around) (outer : List Env) (s : Shared) (H : Hp) (E : XK), π (A.deeper (PyProof.Rows.envOfC qual (defScope st) s.heap.objs.size f cdv)) → Room k (A.deeper (PyProof.Rows.envOfC qual (defScope st) s.heap.objs.size f cdv)) → ∀ (C : Cs) (a : α), C.A0 = [] → PSs (cxOf CX0 P w K mg base N qual (defScope st) f cdv A outer s H E).nox (defBody st) (tF C (fun _ => env a) (m a) pn pl (fun _ => []) r))
    (hg : ∀ a, g a = rtOf (m a)) : FnP π P w K mg base CX0 (k + 1) f fd ps (SpW p.ra r g) := by
  refine funP_ok sπ F S (fun vs H Q E h => ?_) (fun cdv A outer s H vs Q E hp hr h => ?_)
  · obtain ⟨_, _, _, _, _, hv, _⟩ := h
    rw [(p.ok (H := H) hv).2.2, hn]
  · obtain ⟨S, a, P', e, t, hv, eo, kk⟩ := h
    obtain ⟨s1, s2⟩ := p.start (N := N) (j := j) (by rw [hN, hn]) (H := H) hv
    rw [hg a] at eo
    refine ⟨_, hb cdv A outer s H E hp hr ⟨[], S, H⟩ a rfl, S, [], _, Fr.entry e t (by rw [he a]; exact s1) (by rw [he a]; exact s2), eo, fun w g' pw => ?_⟩
    cases w with
    | rt x => exact fun v S' H' σ' F _ hv => F.post (kk _ _ pw) hv
    | nx _ => exact pw.elim
    | br _ => exact pw.elim
    | ct _ => exact pw.elim
end

section
variable {X : Cx} {C : Cs} {env kp : Gh → List Sl} {A : List Stmt} {α β γ ρ : Type} {r : Rp ρ} {re : Rp α} {pn : β → Gh → List Sl} {pl : γ → Gh → List Sl}
/-- a list of the def's own changes no more, the shared object stands by -/
theorem xs_frzD (i : Nat) {d : Addr} {xs : List α} {m : W (Fl ρ β γ)} (hA : C.A0 = [d]) (hr : PSs X A (tF C (fun g => (env g).set i (.im (qL re) xs)) m pn pl kp r)) (hi : ∀ g, (env g)[i]? = some (.ow re xs) := by intro _; rfl) (h0 : ∀ g, (env g)[0]? = some (.iv d (oD g)) := by intro _; rfl) (hne : i ≠ 0 := by decide) : PSs X A (tF C env m pn pl kp r) :=
  pss_imp hr fun D σ H _ ⟨S, g0, P, F, em, q⟩ => by
    obtain ⟨s0, _, _⟩ := F.iv (h0 g0)
    obtain ⟨S', x1, F1⟩ := F.freeze (hi _) fun p hp z => by
      rw [hA] at z
      have z : p = d := by simpa using z
      subst z
      exact hne (owns_inj F.nd (hi g0) hp rfl (h0 g0) s0 rfl)
    exact ⟨S', g0, P, F1, em, fun o g9 po => (q o g9 po).mono x1⟩
end

/-! ### lists of data as data -/
theorem dpAllD {K : PySem.W.Frag} {H : Hp} : ∀ {vs : List V} {xs : List PyData}, All2 ((qD K).p H) vs xs → DpAll K H vs xs
  | [], [], _ => .nil
  | v :: vs, x :: xs, ⟨a, b⟩ => .cons a (dpAllD b)
  | [], _ :: _, z => z.elim
  | _ :: _, [], z => z.elim
section
variable {X : Cx} {C : Cs} {env : Gh → List Sl} {e : Expr} {m : W (List PyData)}
theorem xe_dataL (h : PE X e (tE C env (qL (qD X.K)) m)) : PE X e (tE C env (qD X.K) (m.bind fun xs => .ret (PyData.list xs))) :=
  xe_as (r := qL (qD X.K)) (rb := qD X.K) (f := PyData.list) (fun H v a ⟨p, vs, ev, hp, ha⟩ => by rw [ev]; exact .lst (SqL.of hp) (dpAllD ha)) h
theorem xe_dataT (h : PE X e (tE C env (qT (qD X.K)) m)) : PE X e (tE C env (qD X.K) (m.bind fun xs => .ret (PyData.tuple xs))) :=
  xe_as (r := qT (qD X.K)) (rb := qD X.K) (f := PyData.tuple) (fun H v a ⟨p, vs, ev, hp, ha⟩ => by rw [ev]; exact .tup (TupAt.sq hp) (dpAllD ha)) h
end
theorem units65 {k : Nat} {A : Around} (r : Room k A) : A.units + 65 < cLine := by
  have := r.un
  omega
end Rt

set_option maxRecDepth 100000
set_option maxHeartbeats 4000000
/-! Rt8: sorted(a tuple of ints). -/
namespace Rt
open PySem L2 PyProof.Rows
section
variable {prog : Program} {w : World} {A : Around} {E : Value → Shared → Prop} {s : Shared}
/-- the heap behind which a tuple's items stand in a list of their own -/
def gath (h : Heap) (its : List Value) : Heap := (h.push (seqObj "list" #[] 0)).update h.objs.size (Obj.mapSeq (· ++ its.toArray))
theorem gather {t : Addr} {its : List Value} {R : List Value → Shared → Prop} (ht : s.heap.IsTuple t its.toArray) (hn : its.length ≤ sizeLine) (k : R its { s with heap := gath s.heap its }) : wpAny (model prog w) A (collect (.ref t)) R E s := by
  obtain ⟨u, hu, cu, m, du⟩ := id ht
  unfold collect
  apply wpAny_bind
  apply wpAny_runValue
  apply codeAny_builtin entry_proto_collect'
  show wpAny _ _ (do
    again (.builtin "list.__iadd__" ⟨[← newList [], .ref t], []⟩)) _ _ s
  apply wpAny_bind
  refine wpAny_newList ?_
  apply wpAny_pure
  refine ⟨Code.quiet_builtin _ (by decide +kernel), codeAny_builtin entry_list_iadd' ?_⟩
  have hu1 : (s.heap.push (seqObj "list" #[] 0)).get? t = some u := Heap.get?_push_of_some _ hu
  have hL : (s.heap.push (seqObj "list" #[] 0)).get? s.heap.objs.size = some (seqObj "list" #[] 0) := Heap.get?_push_size _ rfl
  show wpAny _ _ (Builtin.List.listExtendWith (.ref s.heap.objs.size) (.ref t) (.ref s.heap.objs.size)) _ _ { s with
    heap := s.heap.push (seqObj "list" #[] 0) }
  unfold Builtin.List.listExtendWith
  apply wpAny_bind
  refine wpAny_typeOf (T := "tuple") ?_ ?_
  · exact ⟨u, hu1, cu⟩
  have e1 : (Value.type "tuple" == Value.type "tuple") = true := rfl
  rw [if_pos (by rw [e1, Bool.or_true])]
  apply wpAny_bind
  apply listItems_at hu1 du
  apply wpAny_bind
  apply listItems_at (xs := #[]) (n := 0) hL rfl
  rw [if_neg (by simp)]
  apply wpAny_bind
  refine listUpdate_at (xs := #[]) (n := 0) hL rfl ?_ (Nat.zero_le _) (by
    show (#[] ++ its.toArray).size ≤ sizeLine + 1
    rw [Array.size_append, List.size_toArray]
    show 0 + its.length ≤ sizeLine + 1
    omega)
  apply wpAny_pure
  show wpAny (model prog w) A (do
    let x ← load s.heap.objs.size
    match x.data with
    | .seq ys _ => pure ys.toList
    | _ => unsupported "internal:collect") R E { s with heap := gath s.heap its }
  apply wpAny_bind
  refine wpAny_load (get?_update_seq hL _) ?_
  show wpAny _ _ (pure ((#[] : Array Value) ++ its.toArray).toList) R E _
  rw [Array.toList_append, List.toList_toArray]
  exact wpAny_pure k
theorem sortedT_ord {t : Addr} {its : List Value} {lt : Value → Value → Bool} {R : Value → Shared → Prop} (O : SrtO.Swo lt) (ht : s.heap.IsTuple t its.toArray) (hn : its.length ≤ sizeLine)
    (hS : 2 ≤ its.length → ∀ (h1 : Heap) (a : Addr), SrtO.SortableO prog w A.in1.in1 { s with heap := h1 } a its lt)
    (k : ∀ out : List Value, SrtO.Srtd lt out → SrtO.Stb lt out its → R (.ref (s.heap.objs.size + 1)) { s with heap := sortedAll s.heap its out.toArray }) :
    wpAny (model prog w) A (call (.builtin "sorted") [.ref t]) R E s := by
  apply Calls.call_function_entry kind_sorted plain_sorted entry_sorted (args_sorted1 _)
  unfold Builtin.«sorted»
  refine wpAny_bind (m := checkCount "sorted" 1 1 _) (wpAny_pure ?_)
  apply wpAny_bind
  refine gather ht hn ?_
  apply wpAny_bind
  refine wpAny_newList ?_ hn
  have z : (gath s.heap its).objs.size = s.heap.objs.size + 1 := by
    unfold gath
    rw [Heap.size_update, size_push']
  have hq : ((gath s.heap its).push (seqObj "list" its.toArray 0)).get? (s.heap.objs.size + 1) = some (seqObj "list" its.toArray 0) := by
    rw [← z]
    exact Heap.get?_push_size _ rfl
  show wpAny _ _ _ _ _ { s with heap := (gath s.heap its).push (seqObj "list" its.toArray 0) }
  rw [z]
  apply wpAny_bind
  apply wpAny_holding
  refine wpAny_call_entry slot_list_sort ⟨_, hq, rfl⟩ entry_list_sort ?_ (args_list_sort _)
  refine SrtO.list_sort_ord O hq hn (fun h2 => hS h2 _ _) fun out hs hb => ?_
  exact ⟨_, rfl, wpAny_pure ⟨_, rfl, k out hs hb⟩⟩
end
section
variable {X : Cx} {C : Cs} {env : Gh → List Sl} {a : Expr} {pos p : Pos}
def rSortTI (K : PySem.W.Frag) : List V → Hp → VK → Prop := fun vs H Q => ∃ (a : Addr) (ns : List Int), vs = [V.ref a] ∧ SqT K H a (ns.map V.int) ∧ ∀ (p : Addr), H p = none → Q (.ref p) (upd H p (.lst ((sortI ns).map V.int)))
theorem cr_sortTI : CallR X (.builtin "sorted") (rSortTI X.K) := by
  intro pins s σ H vs us Q I r h
  obtain ⟨a, ns, rfl, hs, q⟩ := h
  obtain ⟨its, rv, hl, hz⟩ := I.tuple hs
  rw [Vals.ref1 r]
  have hi := rv.ints
  have hn : its.length ≤ sizeLine := by
    rw [← rv.length]
    exact hz
  refine sortedT_ord SrtO.swo_int (show s.heap.IsTuple a its.toArray from hl) hn (fun h2 _ _ => SrtO.ints_sortable hi h2) fun out h1 h2 => ?_
  obtain ⟨k1, k2, k3⟩ := SrtO.ints_out hi h1 h2
  have e : out.map SrtO.iv = sortI ns := sorted_unique (k2.trans (sortI_perm ns).symm) k3 (sortI_sorted ns)
  rw [e] at k1
  obtain ⟨ep, he⟩ := sortedAll_at s.heap its out.toArray
  have hlen : ((sortI ns).map V.int).length ≤ sizeLine := by
    rw [List.length_map, (sortI_perm ns).length_eq]
    rw [List.length_map] at hz
    exact hz
  refine ⟨.ref _, upd H (s.heap.objs.size + 1) (.lst ((sortI ns).map V.int)), ?_, rfl, q _ (I.hok.fresh (Nat.le_succ _))⟩
  exact I.laid (t' := s.toks) (fun _ _ => sortedAll_old) (Nat.le_succ _) ⟨hlen, out, ep, vals_of_ints k1, he⟩
theorem xn_sortedT {mx : W (List Int)} (hg : Gl X "sorted") (hm : X.mg "sorted" = none) (ha : PE X a (tQ C env false qI mx)) (hs : starEach [a] X.env = (false, eval a X.env) :: starEach [] X.env := by rfl) :
    PE X (.Call (.Name "sorted" p) [a] [] pos) (tN C env qI (mx.bind fun xs => .ret (sortI xs))) :=
  pe_imp (pe_callB cr_sortTI hg hm (by decide +kernel) (pa_cons ha pa_nil hs) (by decide) (by decide) hs (by rfl)) fun σ H Q _ ⟨S, g0, P, F, em, kk⟩ => ⟨S, g0, _, F, em, fun xs g1 px p S1 H1 F1 x1 rd => by
    obtain ⟨vs, hp, h2⟩ := rd _ S1 H1 F1 (Ex.refl S1)
    exact ⟨p, xs, rfl, by rw [← flat_ints h2]; exact TupAt.sq hp, fun l hl _ => kk _ _ px l _ S1 H1 F1 x1 hl (All2.of_map _)⟩⟩
end

/-! ### the script: a list of ints that nobody changes, laid before the law begins -/
def qX (K : PySem.W.Frag) : Rp (List Int) := ⟨fun H v xs => ∃ p, v = .ref p ∧ SqL K H p (xs.map V.int), fun e ⟨p, h1, h2⟩ => ⟨p, h1, by
  rcases h2 with (h2 | ⟨o, h2⟩) | h2
  · exact .inl (.inl (e _ _ h2))
  · exact .inl (.inr ⟨o, e _ _ h2⟩)
  · exact .inr h2⟩⟩
section
variable {X : Cx} {C : Cs} {env : Gh → List Sl} {a b : Expr} {pos p : Pos}
theorem xe_lenX {mx : W (List Int)} (hg : Gl X "len") (hm : X.mg "len" = none) (ha : PE X a (tE C env (qX X.K) mx)) (hs : starEach [a] X.env = (false, eval a X.env) :: starEach [] X.env := by rfl) :
    PE X (.Call (.Name "len" p) [a] [] pos) (tE C env qI (mx.bind fun xs => .ret (xs.length : Int))) :=
  pe_imp (pe_callB call_len_seq hg hm PySem.boot_len (pa_cons ha pa_nil hs) (by decide) (by decide) hs (by rfl)) fun σ H Q _ ⟨S, g0, P, F, em, k⟩ => ⟨S, g0, _, F, em, fun xs g1 px v S1 H1 F1 x1 hv => by
    obtain ⟨p, ev, h2⟩ := (qX X.K).mono F1.e1 hv
    exact ⟨p, _, by rw [ev], .inl h2, fun _ => k _ _ px _ S1 H1 F1 x1 (by rw [List.length_map]; rfl)⟩⟩
theorem xe_ixX {mx : W (List Int)} {mi : W Int} (ha : PE X a (tE C env (qX X.K) mx)) (hb : PE X b (tE C env qI mi)) (hs : PlainIx b := by intro _ _; rfl) : PE X (.Subscript a b pos) (tE C env qI (mx.bind fun xs => mi.bind fun i => ofO (L2.atI xs i))) :=
  pe_imp (pe_ix ix_list ha hb hs) fun σ H Q _ ⟨S, g0, P, F, em, k⟩ => ⟨S, g0, _, F, em, fun xs g1 hx v S1 H1 F1 x1 hv => ⟨S1, g1, _, F1, hx, fun i g2 ⟨z, ez, pz⟩ y S2 H2 F2 x2 hy => by
    have hy : y = .int i := hy
    subst hy
    obtain ⟨p, ev, h2⟩ := (qX X.K).mono (x2.trans F2.e1) hv
    obtain ⟨u, eu, hu⟩ := (All2.of_map (f := V.int) xs).atI ez
    exact ⟨p, _, i, u, ev, rfl, h2, eu, fun _ => k _ _ pz u S2 H2 F2 (x1.trans x2) hu⟩⟩⟩
end

/-! ### the law -/
/-- a def that the text has written -/
def Dfn (K : PySem.W.Frag) (x : Str) (st : Stmt) (f : Addr) : Prop := ∃ fd, Fun K x x st f fd
theorem law_end {K : PySem.W.Frag} {m : List Int × Unit → W Bool} (hm : ∀ ns : List Int, ns.length ≤ 63 → m (ns, ()) [] (fun b _ => b = true)) (H : Hp) (a : Addr) (ns : List Int) (hl : ns.length ≤ 63) (hS : SqL K H a (ns.map V.int)) :
    SpW (pC (qX K) p0).ra qB m [.ref a] H (fun v _ => v = .bl true) fun _ _ _ => False :=
  ⟨H, (ns, ()), _, Ex.refl H, (fun b vs e z => by rw [e] at z; cases z), ⟨.ref a, [], rfl, ⟨a, rfl, hS⟩, rfl⟩, hm ns hl, fun o g ho v S' H' _ _ _ _ _ hv => by
    have hv : v = .bl o := hv
    rw [hv, ho]⟩
end Rt

set_option maxRecDepth 100000
set_option maxHeartbeats 4000000
/-! RtS: sorted(a list of tuples of ints), of any length. -/
namespace Rt
open PySem L2 PyProof.Rows
section
variable {prog : Program} {w : World} {A : Around} {s : Shared}
theorem kat_ints : ∀ {vs ws : List Value} {ns ms : List Int} (i : Nat) {fin : Bool}, IntsAre vs ns → IntsAre ws ms → fin = decide (ns.length < ms.length) → PySem.W.KatLex prog w A true fin (fun r s' => s' = s ∧ r = HT.lexLt ns ms) (vs.zip ws) i s
  | _, _, _, _, i, fin, .nil, .nil, hf => by
    rw [List.zip_nil_left]
    refine PySem.W.kat_nil ⟨rfl, ?_⟩
    rw [hf, HT.lexLt_nil_nil]
    rfl
  | _, _, _, _, i, fin, .nil, .cons y u t, hf => by
    rw [List.zip_nil_left]
    refine PySem.W.kat_nil ⟨rfl, ?_⟩
    rw [hf, HT.lexLt_nil_cons]
    simp
  | _, _, _, _, i, fin, .cons x u t, .nil, hf => by
    rw [List.zip_nil_right]
    refine PySem.W.kat_nil ⟨rfl, ?_⟩
    rw [hf, HT.lexLt_cons_nil]
    simp
  | _, _, _, _, i, fin, .cons x u t, .cons y v t', hf => by
    rw [List.zip_cons_cons, HT.lexLt_cons]
    refine PySem.W.kat_cons (SeqAt.EqAt.int_int x u y v prog w _ _ ?_)
    refine PySem.W.kat_go (fun e1 => ?_) (fun e1 => ?_)
    · have ex : x = y := by simpa using e1
      rw [if_pos ex]
      refine PySem.W.kat_yes (kat_ints (i + 1) t t' ?_)
      rw [hf]
      simp
    · have ex : ¬ x = y := by simpa using e1
      rw [if_neg ex]
      refine PySem.W.kat_no ?_
      cases i with
      | zero => exact oneLt_int ⟨rfl, rfl⟩
      | succ i => exact PySem.W.kat_one _ _ (PyProof.Rows.lt_int ⟨rfl, rfl⟩)
theorem tups_cmp {vs : List Value} {k : Value → List Int} (hp : ∀ v ∈ vs, TS.TupInts s.heap v (k v)) : SrtO.Cmp prog w A s (tuples' true) (fun p => p.1 ∈ vs) (SrtO.lt2 fun v u => HT.lexLt (k v) (k u)) := by
  intro p q hm hm'
  have h1 := hp _ hm
  have h2 := hp _ hm'
  show wpAny (model prog w) A (keyLt' (tuples' true) p.1 q.1) (fun r s' => s' = s ∧ r = HT.lexLt (k p.1) (k q.1)) (fun _ _ => False) s
  generalize k p.1 = ns at h1 ⊢
  generalize k q.1 = ms at h2 ⊢
  obtain ⟨a, its, e, ⟨o, ho, hc, n, hd⟩, hi⟩ := h1
  obtain ⟨a', its', e', ⟨o', ho', hc', n', hd'⟩, hi'⟩ := h2
  rw [e, e']
  refine PySem.W.kat_lt ho hd ho' hd' (kat_ints 0 hi hi' ?_)
  rw [← hi.length, ← hi'.length]
  simp
theorem katTups_of : ∀ {vs : List Value} {k : Value → List Int}, (∀ v ∈ vs, TS.TupInts s.heap v (k v) ∧ k v ≠ []) → ∃ fs, PySem.W.KatTups s.heap vs fs ∧ fs.length = vs.length ∧ ∀ f ∈ fs, ∃ (x : Int) (t : Tok), f = Value.int x t
  | [], k, _ => ⟨[], PySem.W.KatTups.nil, rfl, fun f hf => absurd hf (by simp)⟩
  | v :: vs, k, h => by
    obtain ⟨fs, h1, h2, h3⟩ := katTups_of (vs := vs) fun u hu => h u (List.mem_cons_of_mem _ hu)
    obtain ⟨⟨a, its, e, ⟨o, ho, hc, n, hd⟩, hi⟩, hne⟩ := h v List.mem_cons_self
    subst e
    obtain ⟨x, t, hx⟩ : ∃ x t, its[0]? = some (Value.int x t) := by
      generalize hl : its.toList = l at hi
      generalize k (.ref a) = ns at hi hne
      cases hi with
      | nil => exact absurd rfl hne
      | cons x t _ =>
        refine ⟨x, t, ?_⟩
        rw [← Array.getElem?_toList, hl]
        rfl
    refine ⟨_ :: fs, PySem.W.KatTups.cons ho hc hd hx h1, by simp [h2], fun f hf => ?_⟩
    rcases List.mem_cons.mp hf with e | hf
    · exact ⟨x, t, e⟩
    · exact h3 f hf
theorem tups_sortableO {a : Addr} {vs : List Value} {k : Value → List Int} (h0 : 0 < vs.length) (hp : ∀ v ∈ vs, TS.TupInts s.heap v (k v) ∧ k v ≠ []) (ha : ∀ o, s.heap.get? a = some o → o.cls ≠ .type "tuple") : SrtO.SortableO prog w A s a vs fun v u => HT.lexLt (k v) (k u) := by
  intro h' keep
  have hp' : ∀ v ∈ vs, TS.TupInts h' v (k v) ∧ k v ≠ [] := fun v hm => ⟨(hp v hm).1.keeps fun b o e c => keep b o (fun z => by subst z; exact ha o e c) e, (hp v hm).2⟩
  obtain ⟨fs, h1, h2, h3⟩ := katTups_of (s := { s with heap := h' }) hp'
  refine ⟨tuples' true, fun Q E hq => ?_, tups_cmp (s := { s with heap := h' }) fun v hm => (hp' v hm).1⟩
  refine PySem.W.kat_kind (T := .type "int") h1 (by omega) (fun f hm => ?_) (by rfl) ?_
  · obtain ⟨x, t, rfl⟩ := h3 f hm
    exact PySem.W.Looks.now
  · have e : (Value.type "int" != Value.type "tuple") = true := by first | decide +kernel | rfl | decide
    rw [e]
    exact hq
theorem sorted_tupsO {l : Addr} {vs : List Value} {k : Value → List Int} {E : Value → Shared → Prop} {Q : Value → Shared → Prop} (hl : s.heap.IsList l vs.toArray) (hz : vs.length ≤ sizeLine) (hp : 2 ≤ vs.length → ∀ v ∈ vs, TS.TupInts s.heap v (k v) ∧ k v ≠ [])
    (h : ∀ out : List Value, SrtO.Srtd (fun v u => HT.lexLt (k v) (k u)) out → SrtO.Stb (fun v u => HT.lexLt (k v) (k u)) out vs → Q (.ref (s.heap.objs.size + 1)) { s with heap := sortedAll s.heap vs out.toArray }) :
    wpAny (model prog w) A (call (.builtin "sorted") [.ref l]) Q E s := by
  refine SrtO.sorted_ord (NtL.swo_lexL k) hl hz (fun h2 h₁ a ha kk => ?_) h
  refine tups_sortableO (s := { s with heap := h₁ }) (by omega) (fun v hm => ⟨(hp h2 v hm).1.keeps fun b o e _ => (kk b o e).2, (hp h2 v hm).2⟩) fun o e => ?_
  have e' : some o = some (seqObj "list" vs.toArray 0) := e.symm.trans ha
  cases e'
  intro c
  exact absurd (Value.type.inj c) (by decide)
end
/-! ### the data -/
def insX (x : List Int) : List (List Int) → List (List Int)
  | [] => [x]
  | y :: ys => if HT.lexLt y x = true then y :: insX x ys else x :: y :: ys
def sortX : List (List Int) → List (List Int)
  | [] => []
  | x :: xs => insX x (sortX xs)
theorem insX_perm (x : List Int) : ∀ ys, (insX x ys).Perm (x :: ys)
  | [] => .refl _
  | y :: ys => by
    unfold insX
    split
    · exact ((insX_perm x ys).cons y).trans (.swap x y ys)
    · exact .refl _
theorem sortX_perm : ∀ xs, (sortX xs).Perm xs
  | [] => .refl _
  | x :: xs => (insX_perm x (sortX xs)).trans ((sortX_perm xs).cons x)
def LeX (x y : List Int) : Prop := HT.lexLt y x = false
theorem LeX.trans {x y z : List Int} (a : LeX x y) (b : LeX y z) : LeX x z := NtL.lex_tr x y z a b
theorem lex_anti : ∀ {x y : List Int}, LeX x y → LeX y x → x = y
  | [], [], _, _ => rfl
  | [], y :: ys, h, h2 => by
    unfold LeX at h2
    rw [HT.lexLt_nil_cons] at h2
    cases h2
  | x :: xs, [], h, h2 => by
    unfold LeX at h
    rw [HT.lexLt_nil_cons] at h
    cases h
  | x :: xs, y :: ys, h, h2 => by
    unfold LeX at h h2
    rw [HT.lexLt_cons] at h h2
    by_cases e : x = y
    · subst e
      rw [if_pos rfl] at h h2
      rw [lex_anti (x := xs) (y := ys) h h2]
    · rw [if_neg e] at h2
      rw [if_neg (Ne.symm e)] at h
      have a := of_decide_eq_false h
      have b := of_decide_eq_false h2
      omega
theorem insX_sorted (x : List Int) : ∀ ys : List (List Int), ys.Pairwise LeX → (insX x ys).Pairwise LeX
  | [], _ => by simp [insX]
  | y :: ys, h => by
    unfold insX
    have h' := List.pairwise_cons.mp h
    split
    · rename_i hxy
      refine List.pairwise_cons.mpr ⟨fun z hz => ?_, insX_sorted x ys h'.2⟩
      rcases List.mem_cons.mp ((insX_perm x ys).mem_iff.mp hz) with e | hz
      · rw [e]
        exact NtL.lex_asym _ _ hxy
      · exact h'.1 z hz
    · rename_i hxy
      have hxy : LeX x y := by
        unfold LeX
        simpa using hxy
      refine List.pairwise_cons.mpr ⟨fun z hz => ?_, h⟩
      rcases List.mem_cons.mp hz with e | hz
      · rw [e]; exact hxy
      · exact hxy.trans (h'.1 z hz)
theorem sortX_sorted : ∀ xs : List (List Int), (sortX xs).Pairwise LeX
  | [] => .nil
  | x :: xs => insX_sorted x _ (sortX_sorted xs)
theorem sortedX_unique : ∀ {xs ys : List (List Int)}, xs.Perm ys → xs.Pairwise LeX → ys.Pairwise LeX → xs = ys
  | [], ys, h, _, _ => (List.Perm.nil_eq h)
  | x :: xs, [], h, _, _ => absurd h.length_eq (by simp)
  | x :: xs, y :: ys, h, h1, h2 => by
    have a1 := List.pairwise_cons.mp h1
    have a2 := List.pairwise_cons.mp h2
    have rf : ∀ z : List Int, LeX z z := fun z => by
      have := (NtL.swo_lexL (α := List Int) id).refl z
      exact this
    have e : x = y := by
      have m1 : x ∈ y :: ys := h.mem_iff.mp List.mem_cons_self
      have m2 : y ∈ x :: xs := h.mem_iff.mpr List.mem_cons_self
      have l1 : LeX y x := by
        rcases List.mem_cons.mp m1 with e | m
        · rw [e]; exact rf y
        · exact a2.1 x m
      have l2 : LeX x y := by
        rcases List.mem_cons.mp m2 with e | m
        · rw [e]; exact rf x
        · exact a1.1 y m
      exact lex_anti l2 l1
    subst e
    rw [sortedX_unique (List.Perm.cons_inv h) a1.2 a2.2]
theorem All2.memL {α β : Type} {R : α → β → Prop} : ∀ {as : List α} {bs : List β} {a : α}, All2 R as bs → a ∈ as → ∃ b, b ∈ bs ∧ R a b
  | a :: as, b :: bs, x, ⟨h, t⟩, m => by
    rcases List.mem_cons.mp m with e | m
    · exact ⟨b, List.mem_cons_self, e ▸ h⟩
    · obtain ⟨c, h1, h2⟩ := All2.memL t m
      exact ⟨c, List.mem_cons_of_mem _ h1, h2⟩
  | [], _, _, _, m => absurd m (by simp)
  | _ :: _, [], _, z, _ => z.elim
theorem All2.of_fn {α β : Type} {R : α → β → Prop} {f : α → β} : ∀ {as : List α}, (∀ a ∈ as, R a (f a)) → All2 R as (as.map f)
  | [], _ => True.intro
  | a :: as, h => ⟨h a List.mem_cons_self, All2.of_fn fun b hb => h b (List.mem_cons_of_mem _ hb)⟩
theorem All2.fn {α β : Type} {R : α → β → Prop} {f : α → β} (hf : ∀ a b, R a b → f a = b) : ∀ {as : List α} {bs : List β}, All2 R as bs → as.map f = bs
  | [], [], _ => rfl
  | a :: as, b :: bs, ⟨h, t⟩ => by rw [List.map_cons, hf a b h, All2.fn hf t]
  | [], _ :: _, z => z.elim
  | _ :: _, [], z => z.elim
def rSortTT (K : PySem.W.Frag) : List V → Hp → VK → Prop := fun vs H Q => ∃ (a : Addr) (xs : List V) (nss : List (List Int)) (R : V → List Int → Prop), vs = [V.ref a] ∧ SqL K H a xs ∧ All2 R xs nss ∧ (∀ x n, R x n → TupI K H x n) ∧ (2 ≤ nss.length → ∀ n ∈ nss, n ≠ []) ∧
  ∀ (ys : List V) (p : Addr), H p = none → All2 R ys (sortX nss) → Q (.ref p) (upd H p (.lst ys))
section
variable {X : Cx} {pins : List (Addr × Obj)} {σ : L2.St} {H : Hp} {s : Shared}
theorem bkv_back {t : Addr} : bkV (.ref t) = V.ref t := rfl
theorem cr_sortTT : CallR X (.builtin "sorted") (rSortTT X.K) := by
  intro pins s σ H vs us Q I r h
  obtain ⟨a, xs, nss, R, rfl, hs, hR, hT, hne, q⟩ := h
  obtain ⟨its, rv, hl, hz⟩ := I.list hs
  rw [Vals.ref1 r]
  obtain ⟨e1, e2⟩ := bkV_refs rv fun x m => by
    obtain ⟨n, _, h⟩ := hR.memL m
    obtain ⟨t, e, _⟩ := hT x n h
    exact ⟨t, e⟩
  -- what stands at an item
  have at_ : ∀ v ∈ its, ∃ n, n ∈ nss ∧ R (bkV v) n ∧ TS.TupInts s.heap v n := fun v hv => by
    obtain ⟨t, rfl⟩ := e2 v hv
    have hm : V.ref t ∈ xs := by
      rw [e1]
      exact List.mem_map.mpr ⟨_, hv, rfl⟩
    obtain ⟨n, hn, h⟩ := hR.memL hm
    obtain ⟨t', e, ht⟩ := hT _ n h
    cases e
    exact ⟨n, hn, h, tupI_raw I ht⟩
  have lens : its.length = nss.length := by rw [← rv.length, hR.length]
  have eN : its.map (TS.intsOf s.heap) = nss := by
    have e : xs.map (fun x => TS.intsOf s.heap (match x with | .ref t => .ref t | _ => .none)) = nss := All2.fn (fun x n h => by
      obtain ⟨t, rfl, ht⟩ := hT x n h
      exact (tupI_raw I ht).ints) hR
    rw [e1, List.map_map] at e
    rw [← e]
    refine List.map_congr_left fun v hv => ?_
    obtain ⟨t, rfl⟩ := e2 v hv
    rfl
  refine sorted_tupsO (k := TS.intsOf s.heap) hl.isList (by rw [← rv.length]; exact hz) (fun h2 v hv => ?_) fun out h1 h2 => ?_
  · obtain ⟨n, hn, _, ht⟩ := at_ v hv
    rw [ht.ints]
    exact ⟨ht, hne (by omega) n hn⟩
  · have hp := h2.perm
    have h3 : ∀ u ∈ out, ∃ a, u = Value.ref a := fun u hu => e2 u (hp.mem_iff.mp hu)
    obtain ⟨ep, he'⟩ := PyProof.Rows.sortedAll_at s.heap its out.toArray
    have eo : out.map (TS.intsOf s.heap) = sortX nss := by
      refine sortedX_unique ?_ (List.pairwise_map.mpr h1) (sortX_sorted _)
      have p1 := hp.map (TS.intsOf s.heap)
      rw [eN] at p1
      exact p1.trans (sortX_perm nss).symm
    have hlen : (out.map bkV).length ≤ sizeLine := by
      rw [List.length_map, hp.length_eq, ← rv.length]
      exact hz
    refine ⟨.ref _, upd H (s.heap.objs.size + 1) (.lst (out.map bkV)), I.laid (t' := s.toks) (fun _ _ => PyProof.Rows.sortedAll_old) (Nat.le_succ _) ⟨hlen, out, ep, bkV_vals h3, by simpa using he'⟩, rfl, q _ _ (I.hok.fresh (Nat.le_succ _)) ?_⟩
    rw [← eo]
    have key : ∀ l : List Value, (∀ u ∈ l, u ∈ its) → All2 R (l.map bkV) (l.map (TS.intsOf s.heap)) := by
      intro l
      induction l with
      | nil => intro _; exact True.intro
      | cons u l ih =>
        intro hu
        obtain ⟨n, _, hr, ht⟩ := at_ u (hu u List.mem_cons_self)
        refine ⟨?_, ih fun w hw => hu w (List.mem_cons_of_mem _ hw)⟩
        rw [ht.ints]
        exact hr
    exact key out fun u hu => hp.mem_iff.mp hu
end
def sortTT (xs : List (List Int)) : Option (List (List Int)) := if (xs.length < 2 || xs.all fun n => !n.isEmpty) = true then some (sortX xs) else none
section
variable {X : Cx} {C : Cs} {env : Gh → List Sl} {a : Expr} {pos p : Pos}
theorem tupI_of {K : PySem.W.Frag} {S H : Hp} {v : V} {n : List Int} (e : Ex S H) (h : (qT qI).p S v n) : TupI K H v n := by
  obtain ⟨t, vs, ev, hp, ha⟩ := h
  have : vs = n.map V.int := flat_ints ha
  subst this
  exact ⟨t, ev, TupAt.sq (TupAt.mono e hp)⟩
theorem xn_sortedTT {mx : W (List (List Int))} (hg : Gl X "sorted") (hm : X.mg "sorted" = none) (ha : PE X a (tQ C env true (qT qI) mx)) (hs : starEach [a] X.env = (false, eval a X.env) :: starEach [] X.env := by rfl) :
    PE X (.Call (.Name "sorted" p) [a] [] pos) (tN C env (qT qI) (mx.bind fun xs => ofO (sortTT xs))) :=
  pe_imp (pe_callB cr_sortTT hg hm (by decide +kernel) (pa_cons ha pa_nil hs) (by decide) (by decide) hs (by rfl)) fun σ H Q _ ⟨S, g0, P, F, em, kk⟩ => ⟨S, g0, _, F, em, fun xs g1 ⟨z, ez, pz⟩ p S1 H1 F1 x1 rd => by
    obtain ⟨vs, hp, h2⟩ := rd _ S1 H1 F1 (Ex.refl S1)
    unfold sortTT at ez
    split at ez
    · rename_i hc
      cases ez
      refine ⟨p, vs, xs, fun x n => (qT qI).p S1 x n, rfl, SqL.of hp, h2, fun x n h => tupI_of F1.e1 h, fun h n hn e => ?_, fun ys l hl hy _ => kk _ _ pz l ys S1 H1 F1 x1 hl hy⟩
      rw [Bool.or_eq_true] at hc
      rcases hc with hc | hc
      · have := of_decide_eq_true hc
        omega
      · have := List.all_eq_true.mp hc n hn
        rw [e] at this
        simp at this
    · cases ez⟩
end
end Rt

set_option maxRecDepth 100000
set_option maxHeartbeats 4000000
/-! RtM: lists by their places, ranges as lists, [x] * n, pop, t[::-1], sorted with reverse. -/
namespace HT
open PySem PyProof.Rows
section
variable {prog : Program} {w : World} {A : Around} {E : Value → Shared → Prop} {s : Shared}
theorem sliceApplied_rev {sl : Addr} {vl vu vs : Value} {n : Nat} {Q : Int × Int × Nat → Shared → Prop} (hs : s.heap.IsSliceOf sl vl vu vs) (pl : IsPart vl none) (pu : IsPart vu none) (ps : IsPart vs (some (-1)))
    (h : Q ((n : Int) - 1, -1, n) s) : wpAny (model prog w) A (Builtin.Slice.sliceApplied (.ref sl) (pure (n : Int))) Q E s := by
  obtain ⟨os, hos, hcs, hds⟩ := id hs
  unfold Builtin.Slice.sliceApplied Builtin.Slice.sliceFields
  refine wpAny_bind (wpAny_bind (wpAny_field hos hds (x := vl) rfl (wpAny_bind (wpAny_field hos hds (x := vu) rfl (wpAny_bind (wpAny_field hos hds (x := vs) rfl (wpAny_pure ?_)))))))
  refine wpAny_bind (slicePart_ ps ?_)
  show wpAny _ _ (if ((-1 : Int) == 0) = true then _ else _) _ _ s
  rw [if_neg (by decide)]
  refine wpAny_bind (slicePart_ pl (wpAny_bind (slicePart_ pu (wpAny_bind (wpAny_pure ?_)))))
  show wpAny _ _ (match Builtin.Slice.sliceAdjust none none (-1) (n : Int) with | (lo, hi) => pure (lo, (-1 : Int), Builtin.Slice.slicePlaces lo hi (-1))) _ _ s
  have e : Builtin.Slice.sliceAdjust none none (-1) (n : Int) = ((n : Int) - 1, -1) := by
    simp [Builtin.Slice.sliceAdjust]
  rw [e]
  show wpAny _ _ (pure ((n : Int) - 1, (-1 : Int), Builtin.Slice.slicePlaces ((n : Int) - 1) (-1) (-1))) _ _ s
  have e2 : Builtin.Slice.slicePlaces ((n : Int) - 1) (-1) (-1) = n := by
    unfold Builtin.Slice.slicePlaces
    simp
    try omega
  rw [e2]
  exact wpAny_pure h
end
end HT
namespace HT
open PySem PyProof.Rows
section
variable {prog : Program} {w : World} {A : Around} {E : Value → Shared → Prop} {s : Shared}
theorem filterMap_some {α β : Type} {f : α → Option β} {g : α → β} : ∀ {l : List α}, (∀ x ∈ l, f x = some (g x)) → l.filterMap f = l.map g
  | [], _ => rfl
  | x :: l, h => by
    rw [List.filterMap_cons, h x List.mem_cons_self, List.map_cons]
    exact congrArg _ (filterMap_some fun y hy => h y (List.mem_cons_of_mem _ hy))
theorem pick_rev (xs : Array Value) : ((List.range xs.size).filterMap fun (m : Nat) => xs[(((xs.size : Int) - 1) + (m : Int) * (-1)).toNat]?).toArray = xs.toList.reverse.toArray := by
  congr 1
  refine List.ext_getElem? fun i => ?_
  have e : (List.range xs.size).filterMap (fun (m : Nat) => xs[(((xs.size : Int) - 1) + (m : Int) * (-1)).toNat]?) = (List.range xs.size).map fun m => xs.toList.reverse.getD m .none := by
    refine filterMap_some fun m hm => ?_
    have hm := List.mem_range.mp hm
    have h1 : (((xs.size : Int) - 1) + (m : Int) * (-1)).toNat = xs.size - 1 - m := by omega
    have h2 : xs.size - 1 - m < xs.size := by omega
    rw [h1, Array.getElem?_eq_getElem h2]
    simp [List.getElem?_reverse, hm, h2]
  rw [e, List.getElem?_map]
  by_cases hi : i < xs.size
  · rw [List.getElem?_range hi]
    simp [hi]
  · have h1 : (List.range xs.size)[i]? = none := by simp; omega
    have h2 : xs.toList.reverse[i]? = none := by simp; omega
    rw [h1, h2]
    rfl
theorem getItem_tuple_rev {t sl : Addr} {items : Array Value} {vl vu vs : Value} {Q : Value → Shared → Prop} (ht : IsTup s.heap t items) (hs : s.heap.IsSliceOf sl vl vu vs) (pl : IsPart vl none) (pu : IsPart vu none) (ps : IsPart vs (some (-1)))
    (h : Q (.ref s.heap.objs.size) { s with heap := s.heap.push { cls := .type "tuple", data := .seq items.toList.reverse.toArray } })
    (hsz : items.size ≤ sizeLine) : wpAny (model prog w) A (getItem (.ref t) (.ref sl)) Q E s := by
  have htake : sizeOk (.seq items.toList.reverse.toArray) := by
    show items.toList.reverse.toArray.size ≤ sizeLine
    simpa using hsz
  obtain ⟨os, hos, hcs, hds⟩ := id hs
  have hTs : s.TypeIs (.ref sl) "slice" := ⟨os, hos, hcs⟩
  unfold getItem
  try with_reducible refine wpAny_holding ?_
  first | refine wpAny_bind (wpAny_pure ?_) | skip
  refine wpAny_bind (wpAny_sequenceKey ht.typeIs (by decide) ?_)
  refine wpAny_bind (wpAny_callSpecial?_slot (name := Str.ofString "__getitem__") ht.typeIs PyProof.Rows.slot_tuple_getitem
    (wpAny_call_entry PyProof.Rows.slot_tuple_getitem ht.typeIs entry_tuple_getitem ?_ (args_tuple_getitem _ _)))
  show wpAny _ _ (Builtin.Tuple.tupleItemsOf (.ref t) >>= _) _ _ s
  refine wpAny_bind (tupleItemsOf_ ht ?_)
  refine wpAny_bind (wpAny_typeOf hTs ?_)
  rw [if_pos (by decide)]
  refine wpAny_bind (sliceApplied_rev hs pl pu ps ?_)
  have hno : ¬ (((((items.size : Int) - 1) == 0) && (-1 : Int) == 1 && items.size == items.size) = true) := by simp
  show wpAny _ _ (if ((((items.size : Int) - 1) == 0) && (-1 : Int) == 1 && items.size == items.size) = true then _ else _) _ _ s
  rw [if_neg hno, pick_rev]
  first
    | exact wpAny_bind (m := Builtin.Tuple.tupleExact _) (wpAny_newObj_type (wpAny_pure ⟨_, rfl, wpAny_pure h⟩) htake)
    | exact wpAny_bind (m := Builtin.Tuple.tupleExact _) (wpAny_newObj_type (wpAny_bind (wpAny_pure (wpAny_pure ⟨_, rfl, wpAny_pure h⟩))) htake)
    | exact wpAny_bind (wpAny_bind (m := Builtin.Tuple.tupleExact _) (wpAny_newObj_type (wpAny_pure (wpAny_pure ⟨_, rfl, wpAny_pure h⟩)) htake))
    | exact wpAny_bind (wpAny_bind (m := Builtin.Tuple.tupleExact _) (wpAny_newObj_type (wpAny_pure ⟨_, rfl, wpAny_pure h⟩) htake))
end
end HT
namespace L2
open PySem PySem.Spec PyProof.Rows
section
variable {X : Cx}
def tRevT (K : PySem.W.Frag) (te : TE) : TE := fun σ H Q => te σ H fun x H1 => ∃ a xs, x = .ref a ∧ SqT K H1 a xs ∧ RtU.NewT Q H1 xs.reverse
theorem pe_revT {e : Expr} {te : TE} {k : Nat} {p1 p2 p3 pos : Pos} (he : PE X e te) : PE X (.Subscript e (.Slice none none (some (.UnaryOp .USub (.Constant (.int 1) k p1) p2)) p3) pos) (tRevT X.K te) := by
  refine ⟨fun pins s σ H Q I h => ?_⟩
  refine Subscript_ (thn (he.run pins s σ H _ I h) fun v s1 ⟨x, H1, I1, r1, q1⟩ => ?_)
  obtain ⟨a, xs, ex, hx, q⟩ := q1
  subst ex
  cases r1
  have hst : PO X (some (.UnaryOp .USub (.Constant (.int 1) k p1) p2)) (tPart (tUn (rU fun i => .int (-i)) (tC (.int 1)))) := po_some (pe_un un_neg pe_int)
  refine wpAny_Slice (thn (po_none.run pins s1 σ H1 (fun o H2 => o = none ∧ H2 = H1) I1 ⟨rfl, rfl⟩) fun vl s2 ⟨l, H2, I2, pl, el, e2⟩ => ?_)
  subst el e2
  refine thn (po_none.run pins s2 σ H2 (fun o H3 => o = none ∧ H3 = H2) I2 ⟨rfl, rfl⟩) fun vu s3 ⟨u, H3, I3, pu, eu, e3⟩ => ?_
  subst eu e3
  refine thn (hst.run pins s3 σ H3 (fun o H4 => o = some (-1) ∧ H4 = H3) I3 ⟨1, rfl, -1, rfl, rfl, rfl⟩) fun vs s4 ⟨o, H4, I4, ps, eo, e4⟩ => ?_
  subst eo e4
  have I5 : Inv X pins σ H4 { s4 with heap := s4.heap.push { cls := .type "slice", data := .fields #[vl, vu, vs] } } := I4.kept (t' := s4.toks) fun b ob q => Heap.get?_push_of_some _ q
  obtain ⟨its, r, ht, hz⟩ := I5.tuple hx
  have hlen := r.length
  show wpAny (model X.prog X.w) X.A (subscriptTail e (.Slice none none (some (.UnaryOp .USub (.Constant (.int 1) k p1) p2)) p3) (.ref a) (.ref s4.heap.objs.size)) (EP X pins σ Q) X.xe { s4 with heap := s4.heap.push { cls := .type "slice", data := .fields #[vl, vu, vs] } }
  refine tail_any (ops := [.ref a, .ref s4.heap.objs.size]) ht.typeIs (PyProof.Rows.slot_tuple_getitem.lookup) ?_ (by with_unfolding_all rfl)
  refine HT.getItem_tuple_rev ht (Heap.IsSliceOf.new _ vl vu vs) pl pu ps ?_ (by rw [List.size_toArray]; omega)
  have key : ∀ {xs : List V} {us : List Value}, Vals xs us → Vals xs.reverse us.reverse := by
    intro xs
    induction xs with
    | nil => intro us h; cases h; exact .nil
    | cons x xs ih => intro us h; cases h with | cons a b => rw [List.reverse_cons, List.reverse_cons]; exact (ih b).append (.cons a .nil)
  obtain ⟨I6, hf⟩ := RtU.laidU (s := s4) (n := 0) (h' := s4.heap.push { cls := .type "slice", data := .fields #[vl, vu, vs] }) (tk := s4.toks) I5 (key r) (by rw [List.length_reverse]; exact hz)
  exact ⟨.ref _, _, I6, rfl, q _ _ rfl hf⟩
end
end L2

set_option maxRecDepth 100000
set_option maxHeartbeats 4000000
/-! RtN: the same, as data. -/
namespace Rt
open PySem L2
section
variable {X : Cx} {C : Cs} {env kp : Gh → List Sl} {e a b c a2 b2 : Expr} {es : List Expr} {A B rest : List Stmt} {pos p px : Pos} {α β γ δ ρ : Type} {r : Rp ρ} {ra re : Rp α} {rb : Rp δ} {mi mj : W Int} {pn : β → Gh → List Sl} {pl : γ → Gh → List Sl} {i j : Nat}
/-- t[::-1] -/
theorem xe_revT {k : Nat} {p1 p2 p3 : Pos} {mx : W (List α)} (ha : PE X a (tE C env (qT ra) mx)) : PE X (.Subscript a (.Slice none none (some (.UnaryOp .USub (.Constant (.int 1) k p1) p2)) p3) pos) (tE C env (qT ra) (mx.bind fun xs => .ret xs.reverse)) :=
  pe_imp (pe_revT ha) fun σ H Q _ ⟨S, g0, P, F, em, kk⟩ => ⟨S, g0, _, F, em, fun xs g1 px v S1 H1 F1 x1 ⟨p, vs, ev, hp, h2⟩ => ⟨p, vs, ev, TupAt.sq (TupAt.mono F1.e1 hp), fun t o ho ht _ => by
    have ex := Ex.new (o := .frz o (.tup vs.reverse)) (F1.e1.back ht)
    exact kk _ _ px _ _ _ (F1.new ht) (x1.trans ex) ⟨t, _, rfl, TupAt.new ho, (h2.mono fun _ _ z => ra.mono ex z).reverse⟩⟩⟩
/-- list(range(..)), tuple(range(..)) -/
theorem rgV_ints (a b : Int) : rgV a b = (irange a b).map V.int := by
  unfold rgV irange
  rw [List.map_map]
  rfl
theorem rgOk_of {i j : Int} {xs : List Int} (h : rngC i j = some xs) : RgOk i j ∧ rgV i j = xs.map V.int := by
  obtain ⟨rfl, h1, h2, h3, h4⟩ := rngC_some h
  exact ⟨⟨by omega, by omega, by omega, by omega, by omega⟩, rgV_ints i j⟩
theorem xn_listRg1 {p1 p2 : Pos} (hc : X.calm = true) (hg : Gl X "list") (hm : X.mg "list" = none) (hg2 : Gl X "range") (hm2 : X.mg "range" = none) (ha : PE X a (tE C env qI mi)) (na : starEach [a] X.env = (false, eval a X.env) :: starEach [] X.env := by rfl)
    (nb : starEach [.Call (.Name "range" p2) [a] [] p1] X.env = (false, eval (.Call (.Name "range" p2) [a] [] p1) X.env) :: starEach [] X.env := by rfl) : PE X (.Call (.Name "list" p) [.Call (.Name "range" p2) [a] [] p1] [] pos) (tN C env qI (mi.bind fun i => ofO (rngC 0 i))) :=
  pe_imp (pe_listRg hc hg hm (prg_1 hg2 hm2 ha na) nb) fun σ H Q _ ⟨S, g0, P, F, em, kk⟩ => ⟨S, g0, _, F, em, fun i g1 ⟨z, ez, pz⟩ v S1 H1 F1 x1 hv => by
    obtain ⟨h1, h2⟩ := rgOk_of ez
    exact ⟨i, hv, h1, fun q hq _ => kk _ _ pz q _ S1 H1 F1 x1 hq (by rw [h2]; exact All2.of_map _)⟩⟩
theorem xn_listRg2 {p1 p2 : Pos} (hc : X.calm = true) (hg : Gl X "list") (hm : X.mg "list" = none) (hg2 : Gl X "range") (hm2 : X.mg "range" = none) (ha : PE X a (tE C env qI mi)) (hb : PE X b (tE C env qI mj)) (na : starEach [a, b] X.env = (false, eval a X.env) :: starEach [b] X.env := by rfl) (nb0 : starEach [b] X.env = (false, eval b X.env) :: starEach [] X.env := by rfl) (nbp : (backTo p1 (starEach [b] X.env)).any (fun x => x.1) = false := by rfl)
    (nb : starEach [.Call (.Name "range" p2) [a, b] [] p1] X.env = (false, eval (.Call (.Name "range" p2) [a, b] [] p1) X.env) :: starEach [] X.env := by rfl) : PE X (.Call (.Name "list" p) [.Call (.Name "range" p2) [a, b] [] p1] [] pos) (tN C env qI (mi.bind fun i => mj.bind fun j => ofO (rngC i j))) :=
  pe_imp (pe_listRg hc hg hm (prg_2 hg2 hm2 ha hb na nb0 nbp) nb) fun σ H Q _ ⟨S, g0, P, F, em, kk⟩ => ⟨S, g0, _, F, em, fun i g1 hi v S1 H1 F1 x1 hv => ⟨S1, g1, _, F1, hi, fun j g2 ⟨z, ez, pz⟩ w S2 H2 F2 x2 hw => by
    obtain ⟨h1, h2⟩ := rgOk_of ez
    exact ⟨i, j, hv, hw, h1, fun q hq _ => kk _ _ pz q _ S2 H2 F2 (x1.trans x2) hq (by rw [h2]; exact All2.of_map _)⟩⟩⟩
theorem xe_tupRg1 {p1 p2 : Pos} (hc : X.calm = true) (hg : Gl X "tuple") (hm : X.mg "tuple" = none) (hg2 : Gl X "range") (hm2 : X.mg "range" = none) (ha : PE X a (tE C env qI mi)) (na : starEach [a] X.env = (false, eval a X.env) :: starEach [] X.env := by rfl)
    (nb : starEach [.Call (.Name "range" p2) [a] [] p1] X.env = (false, eval (.Call (.Name "range" p2) [a] [] p1) X.env) :: starEach [] X.env := by rfl) : PE X (.Call (.Name "tuple" p) [.Call (.Name "range" p2) [a] [] p1] [] pos) (tE C env (qT qI) (mi.bind fun i => ofO (rngC 0 i))) :=
  pe_imp (RtU.pe_tupRgU hc hg hm (prg_1 hg2 hm2 ha na) nb) fun σ H Q _ ⟨S, g0, P, F, em, kk⟩ => ⟨S, g0, _, F, em, fun i g1 ⟨z, ez, pz⟩ v S1 H1 F1 x1 hv => by
    obtain ⟨h1, h2⟩ := rgOk_of ez
    exact ⟨i, hv, h1, fun q o ho hq _ => kk _ _ pz _ _ _ (F1.new (o := .frz o (.tup (rgV 0 i))) hq) (x1.trans (Ex.new (F1.e1.back hq))) ⟨q, _, rfl, TupAt.new ho, by rw [h2]; exact All2.of_map _⟩⟩⟩
/-- [x] * n -/
def repC {α : Type} (xs : List α) (k : Int) : Option (List α) := if k ≤ 1000000 ∧ xs.length ≤ 1 ∧ -1000000 ≤ k then some (List.replicate k.toNat xs).flatten else none
theorem All2.rep {R : V → α → Prop} {vs : List V} {xs : List α} (h : All2 R vs xs) : ∀ n : Nat, All2 R (List.replicate n vs).flatten (List.replicate n xs).flatten
  | 0 => True.intro
  | n + 1 => by
    rw [List.replicate_succ, List.replicate_succ, List.flatten_cons, List.flatten_cons]
    exact h.append (All2.rep h n)
theorem xn_rep {mx : W (List α)} (ha : PE X a (tN C env ra mx)) (hb : ∀ C', PE X b (tE C' env qI mi)) (hE : ∀ g g', Gs (env g) (env g') := by intro _ _; repeat (first | exact Gs.nil | apply Gs.keep | apply Gs.gh)) :
    PE X (.BinOp a .Mult b pos) (tN C env ra (mx.bind fun xs => mi.bind fun k => ofO (repC xs k))) :=
  pe_imp (pe_op op_rep ha (pe_ex hb)) fun σ H Q _ ⟨S, g0, P, F, em, kk⟩ => ⟨S, g0, _, F, em, fun xs g1 px p vs S1 H1 F1 x1 hp hv => by
    have G0 := F1.add hp (o := .lst vs)
    have np : ∀ g, p ∉ owns σ (env g) := fun g z => by
      obtain ⟨_, o, e⟩ := F1.sl.own ((hE g g1).owns σ ▸ z)
      rw [hp] at e
      cases e
    refine ⟨_, S1, g1, _, G0.here, px, fun k g2 ⟨z, ez, pz⟩ y S2 H2 F2 x2 hy => ?_⟩
    have hp2 : H2 p = some (.lst vs) := F2.e2 p _ upd_same (np g1)
    have G2 : Fr C S2 H2 σ (env g2) := G0.backG ((hE g2 g1).owns σ) F2
    unfold repC at ez
    split at ez
    · rename_i h
      cases ez
      have hl := All2.length hv
      have hk : k.toNat ≤ 1000000 := by omega
      have hlen : vs.length * k.toNat ≤ 1 * 1000000 := Nat.mul_le_mul (by omega) hk
      refine ⟨p, k, vs, rfl, hy, hp2, by omega, by omega, by rw [sizeLine_eq]; omega, fun q hq _ => ?_⟩
      exact kk _ _ pz q _ S2 H2 G2 (x1.trans x2) hq ((hv.mono fun _ _ z => ra.mono x2 z).rep _)
    · cases ez⟩
/-- xs[j] = e, xs a list of the def's own -/
def setC {α : Type} (xs : List α) (j : Int) (v : α) : Option (List α) := (ixN xs.length j).map fun n => xs.set n v
theorem xs_oset {x : Str} {ps : Pos} {xs : List α} {mv : W α} {K : List α → W (Fl ρ β γ)} (hv : PE X e (tE C env re mv)) (hd : PE X (.Name x px) (tVar i)) (hb : PE X b (tE C env qI mi)) (hr : ∀ ys, PSs X rest (tF C (fun g => (env g).set i (.ow re ys)) (K ys) pn pl kp r)) (hi : ∀ g, (env g)[i]? = some (.ow re xs) := by intro _; rfl)
    (ha : ∀ v, assign (.Subscript (.Name x px) b ps) X.env v = (do
      let ov ← holding [v] (eval (.Name x px) X.env)
      let iv ← holding [v, ov] (eval b X.env)
      standAt ps
      holding [v, ov, iv] (setItem ov iv v)
      release [v, ov, iv] []) := by intro _; rfl)
    (hs : swapsWithSole [.Subscript (.Name x px) b ps] e pos.line X.env = pure false := by rfl) (hw : swappedStores [.Subscript (.Name x px) b ps] e X.env = pure none := by rfl) (h1 : (assignEach [.Subscript (.Name x px) b ps] X.env).map (·.2) = [assign (.Subscript (.Name x px) b ps) X.env] := by rfl) :
    PSs X (.Assign [.Subscript (.Name x px) b ps] e pos :: rest) (tF C env (mv.bind fun v => mi.bind fun j => (ofO (setC xs j v)).bind K) pn pl kp r) :=
  pss_imp (pss_cons (ps_asg hv (pg_sub hd hb set_list ha) hs hw h1) (pss_ex hr)) fun D σ H _ ⟨S, g0, P, F, em, q⟩ => ⟨S, g0, _, F, em, fun v g1 pv u S1 H1 F1 x1 hu => by
    obtain ⟨w1, ew1, p1, vs1, e1, sp1, hp1, ha1⟩ := F1.sl.get i (hi _)
    subst e1
    refine ⟨.ref p1, ew1, S1, g1, _, F1, pv, fun j g2 ⟨ys, ey, py⟩ y S2 H2 F2 x2 hy => ?_⟩
    obtain ⟨w2, ew2, p2, vs2, e2, sp2, hp2, ha2⟩ := F2.sl.get i (hi _)
    subst e2
    rw [ew1] at ew2
    cases ew2
    unfold setC at ey
    obtain ⟨n, en, rfl⟩ := Option.map_eq_some_iff.mp ey
    refine ⟨p1, vs2, j, n, rfl, hy, hp2, by rw [All2.length ha2]; exact en, xs.set n v, S2, g2, P, ?_, py, fun o g9 po => (q o g9 po).mono (x1.trans x2)⟩
    exact F2.write (hi _) ew1 (ha2.set n (re.mono x2 hu))⟩
/-- xs[a], xs[b] = e -/
theorem xs_set2 {x : Str} {ps ps2 pt : Pos} {px2 : Pos} {kt : Nat} {xs : List α} {mv : W (α × α)} {K : List α → W (Fl ρ β γ)} (hv : PE X e (tE C env (qP re re) mv)) (hc : X.calm = true) (hd : PE X (.Name x px) (tVar i)) (hd2 : PE X (.Name x px2) (tVar i)) (hb : PE X b (tE C env qI mi)) (hb2 : ∀ ys, PE X b2 (tE C (fun g => (env g).set i (.ow re ys)) qI mj))
    (hr : ∀ ys, PSs X rest (tF C (fun g => (env g).set i (.ow re ys)) (K ys) pn pl kp r)) (hi : ∀ g, (env g)[i]? = some (.ow re xs) := by intro _; rfl) (hi2 : ∀ g ys, ((env g).set i (.ow re ys))[i]? = some (.ow re ys) := by intro _ _; rfl)
    (ha : ∀ v, assign (.Subscript (.Name x px) b ps) X.env v = (do
      let ov ← holding [v] (eval (.Name x px) X.env)
      let iv ← holding [v, ov] (eval b X.env)
      standAt ps
      holding [v, ov, iv] (setItem ov iv v)
      release [v, ov, iv] []) := by intro _; rfl)
    (ha2 : ∀ v, assign (.Subscript (.Name x px2) b2 ps2) X.env v = (do
      let ov ← holding [v] (eval (.Name x px2) X.env)
      let iv ← holding [v, ov] (eval b2 X.env)
      standAt ps2
      holding [v, ov, iv] (setItem ov iv v)
      release [v, ov, iv] []) := by intro _; rfl)
    (n1 : (assignEach [.Subscript (.Name x px) b ps, .Subscript (.Name x px2) b2 ps2] X.env).map (·.2) = assign (.Subscript (.Name x px) b ps) X.env :: (assignEach [.Subscript (.Name x px2) b2 ps2] X.env).map (·.2) := by rfl) (n2 : (assignEach [.Subscript (.Name x px2) b2 ps2] X.env).map (·.2) = assign (.Subscript (.Name x px2) b2 ps2) X.env :: (assignEach [] X.env).map (·.2) := by rfl)
    (hn : (assignEach [.Subscript (.Name x px) b ps, .Subscript (.Name x px2) b2 ps2] X.env).length = 2 := by rfl) (hst : (assignEach [.Subscript (.Name x px) b ps, .Subscript (.Name x px2) b2 ps2] X.env).findIdx? (·.1) = none := by rfl)
    (hs : swapsWithSole [.Tuple [.Subscript (.Name x px) b ps, .Subscript (.Name x px2) b2 ps2] kt pt] e pos.line X.env = pure false := by rfl) (hw : swappedStores [.Tuple [.Subscript (.Name x px) b ps, .Subscript (.Name x px2) b2 ps2] kt pt] e X.env = pure none := by rfl)
    (h1 : (assignEach [.Tuple [.Subscript (.Name x px) b ps, .Subscript (.Name x px2) b2 ps2] kt pt] X.env).map (·.2) = [assign (.Tuple [.Subscript (.Name x px) b ps, .Subscript (.Name x px2) b2 ps2] kt pt) X.env] := by rfl) :
    PSs X (.Assign [.Tuple [.Subscript (.Name x px) b ps, .Subscript (.Name x px2) b2 ps2] kt pt] e pos :: rest) (tF C env (mv.bind fun v => mi.bind fun j => (ofO (setC xs j v.1)).bind fun ys => mj.bind fun k => (ofO (setC ys k v.2)).bind K) pn pl kp r) :=
  pss_imp (pss_cons (ps_asg hv (pg_tup hc (pgs_cons (pg_sub hd hb set_list ha) (pgs_cons (pg_sub hd2 (pe_ex hb2) set_list ha2) pgs_nil n2) n1) hn hst) hs hw h1) (pss_ex hr)) fun D σ H _ ⟨S, g0, P, F, em, q⟩ => ⟨S, g0, _, F, em, fun v g1 pv u S1 H1 F1 x1 ⟨pt, y1, y2, eu, hpt, hy1, hy2⟩ => by
    subst eu
    obtain ⟨w1, ew1, p1, vs1, e1, sp1, hp1, ha1⟩ := F1.sl.get i (hi _)
    subst e1
    refine ⟨pt, [y1, y2], rfl, TupAt.sq (TupAt.mono F1.e1 hpt), rfl, y1, [y2], rfl, .ref p1, ew1, S1, g1, _, F1, pv, fun j g2 ⟨ys, ey, py⟩ y S2 H2 F2 x2 hy => ?_⟩
    obtain ⟨w2, ew2, p2, vs2, e2, sp2, hp2, ha2⟩ := F2.sl.get i (hi _)
    subst e2
    rw [ew1] at ew2
    cases ew2
    unfold setC at ey
    obtain ⟨n, en, rfl⟩ := Option.map_eq_some_iff.mp ey
    have F3 := F2.write (ys := xs.set n v.1) (vs := vs2.set n y1) (hi _) ew1 (ha2.set n (re.mono x2 hy1))
    refine ⟨p1, vs2, j, n, rfl, hy, hp2, by rw [All2.length ha2]; exact en, y2, [], rfl, .ref p1, ew1, xs.set n v.1, S2, g2, _, F3, py, fun k g4 ⟨zs, ez, pz⟩ yk S4 H4 F4 x4 hk => ?_⟩
    obtain ⟨w4, ew4, p4, vs4, e4, sp4, hp4, ha4⟩ := F4.sl.get i (hi2 _ _)
    subst e4
    rw [ew1] at ew4
    cases ew4
    unfold setC at ez
    obtain ⟨n4, en4, rfl⟩ := Option.map_eq_some_iff.mp ez
    have F5 := F4.write (ys := (xs.set n v.1).set n4 v.2) (vs := vs4.set n4 y2) (hi2 _ _) ew1 (ha4.set n4 (re.mono (x2.trans x4) hy2))
    rw [List.set_set] at F5
    exact ⟨p1, vs4, k, n4, rfl, hk, hp4, by rw [All2.length ha4]; exact en4, rfl, (xs.set n v.1).set n4 v.2, S4, g4, P, F5, pz, fun o g9 po => (q o g9 po).mono (x1.trans (x2.trans x4))⟩⟩
/-- found.append(left.pop(e)) -/
def popC {α : Type} (xs : List α) (k : Int) : Option (α × List α) := if -1000000 ≤ k ∧ k ≤ 1000000 then (seqIndex? k xs.length).bind fun n => (xs[n]?).map fun v => (v, xs.eraseIdx n) else none
theorem All2.erase {R : V → α → Prop} : ∀ (n : Nat) {vs : List V} {xs : List α}, All2 R vs xs → All2 R (vs.eraseIdx n) (xs.eraseIdx n)
  | _, [], [], _ => True.intro
  | 0, v :: vs, x :: xs, ⟨a, b⟩ => b
  | n + 1, v :: vs, x :: xs, ⟨a, b⟩ => ⟨a, All2.erase n b⟩
  | _, [], _ :: _, z => z.elim
  | _, _ :: _, [], z => z.elim
theorem xs_appPop {x y : Str} {pa pe pa2 pe2 px2 : Pos} {xs ys : List α} {mk : W Int} {K : α × List α → List α → W (Fl ρ β γ)} (he : PE X e (tE C env qI mk)) (hr : ∀ (v : α × List α) (xs : List α), PSs X rest (tF C (fun g => ((env g).set j (.ow re v.2)).set i (.ow re xs)) (K v xs) pn pl kp r)) (hi : ∀ g, (env g)[i]? = some (.ow re xs) := by intro _; rfl) (hj : ∀ g, (env g)[j]? = some (.ow re ys) := by intro _; rfl) (hi2 : ∀ g zs, ((env g).set j (.ow re zs))[i]? = some (.ow re xs) := by intro _ _; rfl) (hij : i ≠ j := by decide)
    (hb : PE X (.Call (.Attribute (.Name x px) "append" pa) [.Call (.Attribute (.Name y px2) "pop" pa2) [e] [] pe2] [] pe) (tBM X.K "list" rAppend (tVar i) (tCons (tBM X.K "list" rPopAt (tVar j) (tCons (tE C env qI mk) tNil)) tNil)))
    (hs : swapsWith (.Call (.Attribute (.Name x px) "append" pa) [.Call (.Attribute (.Name y px2) "pop" pa2) [e] [] pe2] [] pe) none pos.line X.env = pure false := by rfl) :
    PSs X (.Expr (.Call (.Attribute (.Name x px) "append" pa) [.Call (.Attribute (.Name y px2) "pop" pa2) [e] [] pe2] [] pe) pos :: rest) (tF C env (mk.bind fun k => (ofO (popC ys k)).bind fun v => (ofO (addO xs v.1)).bind fun zs => K v zs) pn pl kp r) :=
  pss_imp (pss_cons (ps_expr hb hs) (pss_ex fun q : (α × List α) × List α => hr q.1 q.2)) fun D σ H _ ⟨S, g0, P, F, em, q⟩ => by
    obtain ⟨wx, ewx, p, vs, e2, sp, hp, ha⟩ := F.sl.get i (hi _)
    subst e2
    obtain ⟨wy, ewy, py, us, e3, spy, hpy, hay⟩ := F.sl.get j (hj _)
    subst e3
    refine ⟨.ref p, ewx, .inl ⟨rfl, vs, SqL.of hp⟩, .ref py, ewy, .inl ⟨rfl, us, SqL.of hpy⟩, S, g0, _, F, em, fun k g1 ⟨v, ev, zs, ez, pz⟩ u S1 H1 F1 x1 hu => ?_⟩
    obtain ⟨wx1, ewx1, p1, vs1, e21, sp1, hp1, ha1⟩ := F1.sl.get i (hi _)
    subst e21
    rw [ewx] at ewx1
    cases ewx1
    obtain ⟨wy1, ewy1, py1, us1, e31, spy1, hpy1, hay1⟩ := F1.sl.get j (hj _)
    subst e31
    rw [ewy] at ewy1
    cases ewy1
    unfold popC at ev
    split at ev
    · rename_i hk
      obtain ⟨n, en, ev⟩ := Option.bind_eq_some_iff.mp ev
      obtain ⟨v0, ev0, rfl⟩ := Option.map_eq_some_iff.mp ev
      obtain ⟨w0, ew0, hw0⟩ := hay1.get n ev0
      have F2 := F1.write (ys := ys.eraseIdx n) (vs := us1.eraseIdx n) (hj _) ewy (hay1.erase n)
      have np : p ≠ py := fun z => by
        subst z
        exact hij (owns_inj F1.nd (hi _) ewx rfl (hj _) ewy rfl)
      refine ⟨py, us1, k, n, w0, rfl, by rw [show u = V.int k from hu], hpy1, by omega, by omega, by rw [All2.length hay1]; exact en, ew0, ?_⟩
      have hp2 : upd H1 py (.lst (us1.eraseIdx n)) p = some (.lst vs1) := by
        rw [upd_ne np]
        exact hp1
      unfold addO at ez
      split at ez
      case isFalse => cases ez
      rename_i hl
      cases ez
      refine ⟨p, vs1, w0, rfl, rfl, hp2, by rw [All2.length ha1, sizeLine_eq]; omega, ((v0, ys.eraseIdx n), xs ++ [v0]), S1, _, P, ?_, pz, fun o g9 po => (q o g9 po).mono x1⟩
      exact F2.write (hi2 _ _) ewx (ha1.snoc hw0)
    · cases ev
/-- xs.extend(ys), ys a list that nobody changes -/
theorem xs_extQ {x : Str} {pa pe : Pos} {xs : List α} {m : W (List α)} {K : List α → W (Fl ρ β γ)} (hb : PE X (.Call (.Attribute (.Name x px) "extend" pa) [e] [] pe) (tBM X.K "list" rExtend (tVar i) (tCons (tE C env (qL re) m) tNil))) (hr : ∀ ys, PSs X rest (tF C (fun g => (env g).set i (.ow re ys)) (K ys) pn pl kp r))
    (hi : ∀ g, (env g)[i]? = some (.ow re xs) := by intro _; rfl) (hs : swapsWith (.Call (.Attribute (.Name x px) "extend" pa) [e] [] pe) none pos.line X.env = pure false := by rfl) :
    PSs X (.Expr (.Call (.Attribute (.Name x px) "extend" pa) [e] [] pe) pos :: rest) (tF C env (m.bind fun zs => (ofO (catC xs zs)).bind K) pn pl kp r) :=
  pss_imp (pss_cons (ps_expr hb hs) (pss_ex hr)) fun D σ H _ ⟨S, g0, P, F, em, q⟩ => by
    obtain ⟨w, ew, p, vs, e2, sp, hp, ha⟩ := F.sl.get i (hi _)
    subst e2
    refine ⟨.ref p, ew, .inl ⟨rfl, vs, SqL.of hp⟩, S, g0, _, F, em, fun zs g1 ⟨out, eo, po⟩ y S1 H1 F1 x1 ⟨b, ws, ey, hb, hw⟩ => ?_⟩
    subst ey
    obtain ⟨w1, ew1, p1, vs1, e21, sp1, hp1, ha1⟩ := F1.sl.get i (hi _)
    subst e21
    rw [ew] at ew1
    cases ew1
    unfold catC at eo
    split at eo
    · rename_i hl
      cases eo
      exact ⟨p, b, vs1, ws, rfl, rfl, hp1, F1.e1 _ _ hb, by rw [All2.length ha1, All2.length hw, sizeLine_eq]; omega, xs ++ zs, S1, g1, P, F1.write (hi _) ew (ha1.append hw), po, fun o g9 po => (q o g9 po).mono x1⟩
    · cases eo
/-- sorted(xs, reverse=True) -/
theorem cr_sortRev : CallRK X (.builtin "sorted") [Str.ofString "reverse"] (fun vs zs H Q => ∃ (a : Addr) (ns : List Int), vs = [V.ref a] ∧ zs = [.bl true] ∧ SqL X.K H a (ns.map V.int) ∧ ∀ (p : Addr), H p = none → Q (.ref p) (upd H p (.lst ((sortI ns).reverse.map V.int)))) := by
  intro pins s σ H vs zs us ws Q I r rz h
  obtain ⟨a, ns, rfl, rfl, hs, q⟩ := h
  refine cr_sortedRev (b := true) pins s σ H _ _ us ws Q I r rz ⟨a, ns, rfl, rfl, hs, fun ns' p h1 h2 hp => ?_⟩
  have h2 : ns'.Pairwise (· ≥ ·) := h2
  have e : ns'.reverse = sortI ns := sorted_unique ((List.reverse_perm _).trans (h1.trans (sortI_perm ns).symm)) (List.pairwise_reverse.mpr (h2.imp fun h => h)) (sortI_sorted ns)
  rw [← e, List.reverse_reverse] at q
  exact q p hp
theorem xn_sortRev {mx : W (List Int)} {kws : List Keyword} (hg : Gl X "sorted") (hm : X.mg "sorted" = none) (ha : PE X a (tQ C env true qI mx)) (hk : PK X kws (tCons (tC (.bl true)) tNil)) (hs : starEach [a] X.env = (false, eval a X.env) :: starEach [] X.env := by rfl)
    (he : backTo pos (starEach [a] X.env) = (false, eval a X.env) :: backTo pos (starEach [] X.env) := by rfl) (hpl : (backTo pos (starEach [a] X.env)).any (·.1) = false := by rfl)
    (hall : (backToKw pos (keywordEach kws X.env)).all (·.1.isSome) = true := by rfl) (hnone : (backToKw pos (keywordEach kws X.env)).any (·.1.isNone) = false := by rfl) (hks : (backToKw pos (keywordEach kws X.env)).filterMap (·.1) = [Str.ofString "reverse"] := by rfl) :
    PE X (.Call (.Name "sorted" p) [a] kws pos) (tN C env qI (mx.bind fun xs => .ret (sortI xs).reverse)) :=
  pe_imp (pe_callBK cr_sortRev hg hm (by decide +kernel) (pa_cons ha pa_nil hs) hk (by decide) (by decide) he hpl hall hnone hks) fun σ H Q _ ⟨S, g0, P, F, em, kk⟩ => ⟨S, g0, _, F, em, fun xs g1 px p S1 H1 F1 x1 rd => by
    obtain ⟨vs, hp, h2⟩ := rd _ S1 H1 F1 (Ex.refl S1)
    exact ⟨p, xs, rfl, rfl, by rw [← flat_ints h2]; exact SqL.of hp, fun l hl _ => kk _ _ px l _ S1 H1 F1 x1 hl (All2.of_map _)⟩⟩
/-- a, b = a list of two -/
theorem xg_pairL {up1 : Up α} {up2 : Up α} {kk : Nat} (hc : X.calm = true) (h1 : PG X a (tG ra up1)) (h2 : PG X b (tG ra up2))
    (hs : (assignEach [a, b] X.env).map (·.2) = assign a X.env :: (assignEach [b] X.env).map (·.2) := by rfl) (hs2 : (assignEach [b] X.env).map (·.2) = assign b X.env :: (assignEach [] X.env).map (·.2) := by rfl)
    (hn : (assignEach [a, b] X.env).length = 2 := by rfl) (hst : (assignEach [a, b] X.env).findIdx? (·.1) = none := by rfl) :
    PG X (.Tuple [a, b] kk pos) (tG (⟨fun H v (x : α × α) => (qL ra).p H v [x.1, x.2], fun e h => (qL ra).mono e h⟩ : Rp (α × α)) (uP up1 up2)) :=
  pg_imp (pg_lst hc (pgs_cons h1 (pgs_cons h2 pgs_nil hs2) hs) hn hst) fun v σ H Q ⟨C, S, env, x, F, ⟨p, vs, ev, hp, hall⟩, q⟩ => by
    match vs, hall with
    | [v1, v2], ⟨r1, r2, _⟩ =>
      exact ⟨p, [v1, v2], ev, SqL.of (F.e1 _ _ hp), rfl, v1, [v2], rfl, C, S, env, x.1, F, r1, fun σ1 l1 n1 F1 => ⟨v2, [], rfl, C, S, _, x.2, F1, r2, fun σ2 l2 n2 F2 => ⟨rfl, q σ2 (l2.trans l1) (fun i hi => by
        have hi : i ∉ up1.js ++ up2.js := hi
        simp at hi
        rw [n2 i hi.2, n1 i hi.1]) F2⟩⟩⟩
theorem xe_unL2 {m : W (List α)} (h : PE X e (tE C env (qL ra) m)) : PE X e (tE C env (⟨fun H v (x : α × α) => (qL ra).p H v [x.1, x.2], fun e h => (qL ra).mono e h⟩ : Rp (α × α)) (m.bind fun x => ofO (two x))) :=
  xe_asO (ra := qL ra) (rb := (⟨fun H v (x : α × α) => (qL ra).p H v [x.1, x.2], fun e h => (qL ra).mono e h⟩ : Rp (α × α))) (fun H v a b h e => by
    match a, e with
    | [x, y], e =>
      cases e
      exact h) h
/-- a, b = two new lists -/
theorem xs_parNN {i j : Nat} {x y : Str} {px py pt0 : Pos} {kt k2 : Nat} {pt2 : Pos} {α1 α2 : Type} {r1 : Rp α1} {r2 : Rp α2} {m1 : W (List α1)} {m2 : W (List α2)} {K : List α1 → List α2 → W (Fl ρ β γ)} (ha : PE X a (tN C env r1 m1)) (hb : ∀ C', PE X b (tN C' env r2 m2)) (hr : ∀ a b, PSs X rest (tF C (fun g => ((env g).set i (.ow r1 a)).set j (.ow r2 b)) (K a b) pn pl kp r))
    (hc : X.calm = true) (hN : X.N.Nodup) (hi : X.N[i]? = some x) (hj : X.N[j]? = some y) (hij : i ≠ j) (hx : X.env.scope.names.lookup x = some .local) (hy : X.env.scope.names.lookup y = some .local)
    (hw : swappedStores [.Tuple [.Name x px, .Name y py] kt pt0] (.Tuple [a, b] k2 pt2) X.env = pure (some [x, y])) (hs : swapsWithSole [.Tuple [.Name x px, .Name y py] kt pt0] (.Tuple [a, b] k2 pt2) pos.line X.env = pure false := by rfl)
    (h1 : starEach [a, b] X.env = (false, eval a X.env) :: starEach [b] X.env := by rfl) (h2 : starEach [b] X.env = (false, eval b X.env) :: starEach [] X.env := by rfl) (hE : ∀ g g', Gs (env g) (env g') := by intro _ _; repeat (first | exact Gs.nil | apply Gs.keep | apply Gs.gh)) :
    PSs X (.Assign [.Tuple [.Name x px, .Name y py] kt pt0] (.Tuple [a, b] k2 pt2) pos :: rest) (tF C env (m1.bind fun a => m2.bind fun b => K a b) pn pl kp r) :=
  pss_imp (pss_cons (ps_par hc hN hi hj hij hx hy (pa_cons ha (pa_cons (pe_ex hb) pa_nil h2) h1) hw hs) (pss_ex fun p : List α1 × List α2 => hr p.1 p.2)) fun D σ H _ ⟨S, g0, P, F, em, q⟩ => ⟨S, g0, _, F, em, fun xs g1 px p vs S1 H1 F1 x1 hp hv => by
    have G0 := F1.add hp (o := .lst vs)
    have np : ∀ g, p ∉ owns σ (env g) := fun g z => by
      obtain ⟨_, o, e⟩ := F1.sl.own ((hE g g1).owns σ ▸ z)
      rw [hp] at e
      cases e
    refine ⟨_, S1, g1, _, G0.here, px, fun zs g2 pw p2 us S2 H2 F2 x2 hq hu => ⟨.ref p, .ref p2, rfl, (xs, zs), S2, g2, P, ?_, pw, fun o g9 po => (q o g9 po).mono (x1.trans x2)⟩⟩
    have hp2 : H2 p = some (.lst vs) := F2.e2 p _ upd_same (np g1)
    have sp2 : S2 p = none := F2.nw p (F1.e1.back hp) (by show upd H1 p (.lst vs) p ≠ none; rw [upd_same]; exact fun z => nomatch z)
    have G2 : Fr C S2 H2 σ (env g2) := G0.backG ((hE g2 g1).owns σ) F2
    have G3 := (G2.del sp2 (F1.H0none hp) (np g2)).setOw i (r := r1) (p := p) (vs := vs) (xs := xs) (by unfold Rt.del; simp) (hv.mono fun _ _ z => r1.mono x2 z)
    rw [upd_del hp2] at G3
    exact G3.setOw j hq hu⟩
/-- comparisons as tests -/
theorem ct_in {k : Bool} {op : CmpOp} {neg : Bool} {mx : W (List Int)} (ho : OpR X (compareOp op) (rIn X.K neg)) (ha : PE X a (tE C env qI mi)) (hb : PE X b (tQ C env k qI mx)) (hm : behindInMarks op b = false) :
    PT X (.Compare a [op] [b] pos) (tT C env (mi.bind fun i => mx.bind fun xs => .ret (if neg then !(xs.any fun y => decide (y = i)) else xs.any fun y => decide (y = i)))) :=
  pt_imp (pt_cmpR ho ha hb hm) fun σ H Q _ ⟨S, g0, P, F, em, kk⟩ => ⟨S, g0, _, F, em, fun i g1 hi v S1 H1 F1 x1 hv => ⟨S1, g1, _, F1, hi, fun xs g2 px p S2 H2 F2 x2 rd => by
    obtain ⟨vs, hp, h2⟩ := rd _ S2 H2 F2 (Ex.refl S2)
    have ev : vs = xs.map V.int := flat_ints h2
    have hv : v = .int i := hv
    subst ev hv
    exact ⟨p, _, rfl, sq_seq hp, rfl, all_flat xs, _, rfl, fun _ => by
      rw [inV_int]
      exact kk _ _ px S2 H2 F2 (x1.trans x2)⟩⟩⟩
theorem xt_in {k : Bool} {mx : W (List Int)} (ha : PE X a (tE C env qI mi)) (hb : PE X b (tQ C env k qI mx)) (hm : behindInMarks .In b = false := by with_unfolding_all rfl) : PT X (.Compare a [.In] [b] pos) (tT C env (mi.bind fun i => mx.bind fun xs => .ret (xs.any fun y => decide (y = i)))) := ct_in op_in_seq ha hb hm
theorem xt_nin {k : Bool} {mx : W (List Int)} (ha : PE X a (tE C env qI mi)) (hb : PE X b (tQ C env k qI mx)) (hm : behindInMarks .NotIn b = false := by with_unfolding_all rfl) : PT X (.Compare a [.NotIn] [b] pos) (tT C env (mi.bind fun i => mx.bind fun xs => .ret !(xs.any fun y => decide (y = i)))) := ct_in op_notIn_seq ha hb hm
theorem ct_inD {k : Bool} {ma : W α} {op : CmpOp} {neg : Bool} {mx : W (List δ)} (D : Dt ra) (E : Dt rb) (ho : OpR X (compareOp op) (rInT X.K neg)) (ha : PE X a (tE C env ra ma)) (hb : PE X b (tQ C env k rb mx)) (hm : behindInMarks op b = false) (h1 : D.dep ≤ 64 := by decide) (h2 : E.dep < 64 := by decide) :
    PT X (.Compare a [op] [b] pos) (tT C env (ma.bind fun i => mx.bind fun xs => .ret (if neg then !(xs.any fun y => PyData.eqv (E.d y) (D.d i)) else xs.any fun y => PyData.eqv (E.d y) (D.d i)))) :=
  pt_imp (pt_cmpR ho ha hb hm) fun σ H Q _ ⟨S, g0, P, F, em, kk⟩ => ⟨S, g0, _, F, em, fun i g1 hi v S1 H1 F1 x1 hv => ⟨S1, g1, _, F1, hi, fun xs g2 px p S2 H2 F2 x2 rd => by
    obtain ⟨vs, hp, h3⟩ := rd _ S2 H2 F2 (Ex.refl S2)
    refine ⟨D.d i, xs.map E.d, Dp.up (x2.trans F2.e1) (D.rep hv), ?_, D.shaped h1 i, _, rfl, fun _ => by
      rw [List.any_map]
      exact kk _ _ px S2 H2 F2 (x1.trans x2)⟩
    have hall : DpAll X.K H2 vs (xs.map E.d) := dpAll (r := rb) (f := E.d) (fun h => E.rep h) (h3.mono fun _ _ z => rb.mono F2.e1 z)
    cases k with
    | true => exact .inl ⟨.lst (SqL.of hp) hall, (dL E).shaped (by show E.dep + 1 ≤ 64; omega) xs⟩
    | false => exact .inr ⟨.tup (TupAt.sq hp) hall, (dT E).shaped (by show E.dep + 1 ≤ 64; omega) xs⟩⟩⟩
theorem xt_inD {k : Bool} {ma : W α} {mx : W (List δ)} (D : Dt ra) (E : Dt rb) (hu : X.A.units + 65 < cLine) (ha : PE X a (tE C env ra ma)) (hb : PE X b (tQ C env k rb mx)) (hm : behindInMarks .In b = false := by with_unfolding_all rfl) (h1 : D.dep ≤ 64 := by decide) (h2 : E.dep < 64 := by decide) :
    PT X (.Compare a [.In] [b] pos) (tT C env (ma.bind fun i => mx.bind fun xs => .ret (xs.any fun y => PyData.eqv (E.d y) (D.d i)))) := ct_inD D E (op_inT hu) ha hb hm h1 h2
theorem xt_ninD {k : Bool} {ma : W α} {mx : W (List δ)} (D : Dt ra) (E : Dt rb) (hu : X.A.units + 65 < cLine) (ha : PE X a (tE C env ra ma)) (hb : PE X b (tQ C env k rb mx)) (hm : behindInMarks .NotIn b = false := by with_unfolding_all rfl) (h1 : D.dep ≤ 64 := by decide) (h2 : E.dep < 64 := by decide) :
    PT X (.Compare a [.NotIn] [b] pos) (tT C env (ma.bind fun i => mx.bind fun xs => .ret !(xs.any fun y => PyData.eqv (E.d y) (D.d i)))) := ct_inD D E (op_ninT hu) ha hb hm h1 h2
theorem xt_chainD {c : Expr} {rc : Rp γ} {rb : Rp β} {ma : W α} {mb : W β} {op op' : CmpOp} {f : α → β → Option Bool} {g : β → γ → Option Bool} {mc : W γ} (d1 : CmpD X C op ra rb f) (d2 : CmpD X C op' rb rc g) (ha : PE X a (tE C env ra ma)) (hb : PE X b (tE C env rb mb)) (hc : PE X c (tE C env rc mc))
    (hm : lastMarks [op, op'] [b, c] = false := by with_unfolding_all rfl) : PT X (.Compare a [op, op'] [b, c] pos) (tT C env (ma.bind fun p => mb.bind fun q => (ofO (f p q)).bind fun t => if t = true then mc.bind fun w => ofO (g q w) else .ret false)) := by
  obtain ⟨R, h1, hr⟩ := d1
  obtain ⟨R', h2, hr'⟩ := d2
  refine pt_imp (pt_chain h1 h2 ha (tE_len hb) (tE_len hc) hm) fun σ H Q _ ⟨S, g0, P, F, em, q⟩ => ?_
  refine ⟨S, g0, _, F, em, fun p g1 hp x S1 H1 F1 e1 hx => ⟨S1, g1, _, F1, hp, fun w g2 ⟨t, et, ht⟩ y S2 H2 F2 e2 hy l2 => ?_⟩⟩
  refine hr _ S2 H2 σ x y p w t _ F2 l2 (ra.mono e2 hx) hy et fun S3 H3 F3 e3 => ⟨t, rfl, ?_⟩
  cases t with
  | false => exact ⟨_, rfl, fun _ => q _ _ ht S3 H3 F3 (e1.trans (e2.trans e3))⟩
  | true =>
    refine ⟨S3, _, _, F3, ht, fun u g4 ⟨z, ez, pz⟩ y' S4 H4 F4 e4 hy' l4 => ?_⟩
    exact hr' _ S4 H4 σ y y' w u z _ F4 l4 (rb.mono (e3.trans e4) hy) hy' ez fun S5 H5 F5 e5 => ⟨_, rfl, fun _ => q z _ pz S5 H5 F5 (e1.trans (e2.trans (e3.trans (e4.trans e5))))⟩
end
end Rt

set_option maxRecDepth 100000
set_option maxHeartbeats 4000000
/-! RtF: dicts, further: displays, walks, lengths; zip; texts of truth values; defs that call themselves. -/
namespace Rt
open PySem L2 Rt PyProof.Rows
section
variable {X : Cx} {C : Cs} {env kp : Gh → List Sl} {e a b c : Expr} {A rest : List Stmt} {pos p px : Pos} {α β γ ρ : Type} {r : Rp ρ} {pn : β → Gh → List Sl} {pl : γ → Gh → List Sl} {i j : Nat} {ra re : Rp α} {rb : Rp β}
/-! ### zip -/
theorem zip_get {xs : List α} {ys : List β} {i : Nat} {y : α × β} (h : (xs.zip ys)[i]? = some y) : xs[i]? = some y.1 ∧ ys[i]? = some y.2 := by
  rw [List.getElem?_zip_eq_some] at h
  exact h
theorem xi_zipT {elts : List Expr} {kk : Nat} {tpos p : Pos} {mx : W (List α)} {my : W (List β)} (hg : Gl X "zip") (hm : X.mg "zip" = none) (ha : PE X a (tE C env (qT ra) mx)) (hb : PE X b (tE C env (qT rb) my)) (hs : starEach [a, b] X.env = (false, eval a X.env) :: starEach [b] X.env := by rfl) (hs2 : starEach [b] X.env = (false, eval b X.env) :: starEach [] X.env := by rfl) (hpl : (backTo pos (starEach [b] X.env)).any (·.1) = false := by rfl) :
    PI X (.Tuple elts kk tpos) (.Call (.Name "zip" p) [a, b] [] pos) (tS C env (qW ra rb) (mx.bind fun xs => my.bind fun ys => .ret (xs.zip ys))) := by
  refine pi_imp (RZ.pi_zipA hg hm (pa_cons (tE_len ha) (pa_cons hb pa_nil hs2) hs) (hs := hs) (hpl := hpl)) fun σ H R _ ⟨S, g0, P, F, em, q⟩ => ⟨S, g0, _, F, em, fun xs g1 px v S1 H1 F1 x1 ⟨p1, vs, ev, hp, h2⟩ l => ⟨S1, g1, _, F1, px, fun ys g2 py w S2 H2 F2 x2 ⟨p2, ws, ew, hq, h3⟩ => ?_⟩⟩
  subst ev ew
  have hp2 : TupAt S2 p1 vs := TupAt.mono x2 hp
  have h2' := h2.mono fun _ _ z => ra.mono x2 z
  have lx := All2.length h2
  have ly := All2.length h3
  have hz : (xs.zip ys).length = min xs.length ys.length := List.length_zip
  have lm : vs.length ≤ sizeLine := l p1 false vs (TupAt.mono F1.e1 hp)
  refine ⟨p1, p2, vs, ws, rfl, .inr ⟨TupAt.sq (TupAt.mono F2.e1 hp2), TupAt.sq (TupAt.mono F2.e1 hq), q _ _ py _ S2 H2 F2 (x1.trans x2) (wk_new (by rw [hz]; omega) (fun {C S H σ env} i hi F e => ?_) (fun {C S H σ env} i hi F e => ?_) fun {C S H σ env} i x H' y F e hy ha => ?_)⟩⟩
  · rw [hz] at hi
    have h1 : i < vs.length := by omega
    have h4 : i < ws.length := by omega
    exact ⟨vs, ws, vs[i], ws[i], TupAt.sq (TupAt.mono F.e1 (TupAt.mono e hp2)), TupAt.sq (TupAt.mono F.e1 (TupAt.mono e hq)), by simp [h1], by simp [h4]⟩
  · rw [hz] at hi
    exact ⟨vs, ws, TupAt.sq (TupAt.mono F.e1 (TupAt.mono e hp2)), TupAt.sq (TupAt.mono F.e1 (TupAt.mono e hq)), by omega⟩
  · obtain ⟨T, u, w, ev, hT, eH, hq1, hq2⟩ := hy
    obtain ⟨y1, y2⟩ := zip_get ha
    obtain ⟨u', hu', ru⟩ := All2.get i h2' y1
    obtain ⟨w', hw', rw'⟩ := All2.get i h3 y2
    have z1 := hq1 vs (TupAt.sq (TupAt.mono F.e1 (TupAt.mono e hp2)))
    have z2 := hq2 ws (TupAt.sq (TupAt.mono F.e1 (TupAt.mono e hq)))
    rw [hu'] at z1
    rw [hw'] at z2
    cases z1
    cases z2
    have ex := e.trans (Ex.new (o := .tup [u, w]) (F.e1.back hT))
    exact ⟨T, _, ev, hT, eH, T, u, w, ev, .inl upd_same, ra.mono ex ru, rb.mono ex rw'⟩
/-! ### texts of truth values -/
def reprB (b : Bool) : Str := if b then "True" else "False"
theorem call_repr_bl : CallR X (.builtin "repr") (fun xs H Q => ∃ b, xs = [.bl b] ∧ Q (.str (reprB b)) H) := by
  intro pins s σ H xs us Q I r h
  obtain ⟨b, rfl, q⟩ := h
  obtain ⟨u, rfl, rx⟩ := vals1 r
  obtain rfl : u = .bool b := rx
  exact PySem.P.repr_of_bool ⟨.str _, H, I.tok _, ⟨_, rfl⟩, q⟩
theorem xe_reprB {mb : W Bool} (hg : Gl X "repr") (hm : X.mg "repr" = none) (ha : PE X a (tE C env qB mb)) (hs : starEach [a] X.env = (false, eval a X.env) :: starEach [] X.env := by rfl) :
    PE X (.Call (.Name "repr" p) [a] [] pos) (tE C env qS (mb.bind fun b => .ret (reprB b))) :=
  pe_imp (pe_callB call_repr_bl hg hm (by decide +kernel) (pa_cons ha pa_nil hs) (by decide) (by decide) hs (by rfl)) fun σ H Q _ ⟨S, g0, P, F, em, k⟩ => ⟨S, g0, _, F, em, fun b g1 pb v S1 H1 F1 x1 hv => ⟨b, by rw [show v = .bl b from hv], fun _ => k _ _ pb _ S1 H1 F1 x1 rfl⟩⟩
theorem cd_eqS : CmpD X C .Eq qS qS fun i j => some (decide (i = j)) := ⟨_, op_eq, fun _ S H σ x y p q z Q F _ hx hy ez k => by
  rw [show x = V.str p from hx, show y = V.str q from hy]
  refine ⟨rfl, ?_⟩
  cases ez
  have e : decide (V.str p = V.str q) = decide (p = q) := by
    rw [Bool.eq_iff_iff]
    simp
  rw [e]
  exact k S H F (Ex.refl S)⟩
theorem cd_neS : CmpD X C .NotEq qS qS fun i j => some (!decide (i = j)) := ⟨_, op_ne, fun _ S H σ x y p q z Q F _ hx hy ez k => by
  rw [show x = V.str p from hx, show y = V.str q from hy]
  refine ⟨rfl, ?_⟩
  cases ez
  have e : decide (V.str p = V.str q) = decide (p = q) := by
    rw [Bool.eq_iff_iff]
    simp
  rw [e]
  exact k S H F (Ex.refl S)⟩
/-! ### defs that call themselves -/
theorem has_none {π : Around → Prop} {P : Program} {w : World} {K : PySem.W.Frag} {mg : Str → Option Value} {base : Heap} {x : Str} {k : Nat} {ps : List Str} {rA : Ra α} {fa : Addr} {fd : FuncData} (hm : mg x = some (.ref fa)) (hk : PySem.W.keepIn K (.ref fa) = true) (hb : Binds K fd ps []) : Has P w K mg base π x k ps (SpN rA re fun _ => none) :=
  ⟨fa, fd, ⟨fun vs H Q E ⟨_, _, _, _, _, _, z, _⟩ => (nomatch z), fun A outer s H args us vs Q E _ _ _ _ _ ⟨_, _, _, _, _, _, z, _⟩ => (nomatch z)⟩, hm, hk, hb⟩
theorem has_noneF {π : Around → Prop} {P : Program} {w : World} {K : PySem.W.Frag} {mg : Str → Option Value} {base : Heap} {x : Str} {k : Nat} {ps : List Str} {rA : Ra α} {fa : Addr} {fd : FuncData} (hm : mg x = some (.ref fa)) (hk : PySem.W.keepIn K (.ref fa) = true) (hb : Binds K fd ps []) : Has P w K mg base π x k ps (SpF rA r fun _ => none) :=
  ⟨fa, fd, ⟨fun vs H Q E ⟨_, _, _, _, _, _, z, _⟩ => (nomatch z), fun A outer s H args us vs Q E _ _ _ _ _ ⟨_, _, _, _, _, _, z, _⟩ => (nomatch z)⟩, hm, hk, hb⟩
end
theorem units1 {k : Nat} {A : Around} (r : Room k A) : A.units + 1 < cLine := by
  have := units65 r
  omega
end Rt



set_option maxRecDepth 100000
set_option maxHeartbeats 4000000
/-! RtG: ranges that go down, the place of an int in a list, sums of lists, dicts of pairs, sorted dicts. -/
namespace Rt
open PySem L2 Rt PyProof.Rows
section
variable {X : Cx} {C : Cs} {env kp : Gh → List Sl} {e a b c tg : Expr} {A rest : List Stmt} {pos p px : Pos} {α β γ δ ρ : Type}  {r : Rp ρ}  {rv : Rp δ}  {mv : W δ}  {mi mj : W Int} {pn : β → Gh → List Sl} {pl : γ → Gh → List Sl} {i j : Nat} {ra re : Rp α} {rb : Rp β}
/-! ### range(a, b, -1) -/
def idown (a b : Int) : List Int := (List.range (a - b).toNat).map fun i => a + (i : Nat) * (-1)
def rngD (a b : Int) : Option (List Int) := if -1000000 ≤ a ∧ a ≤ 1000000 ∧ -1000000 ≤ b ∧ b ≤ 1000000 then some (idown a b) else none
theorem wk_rngD {lo hi : Int} {S0 : Hp} (hl : (lo - hi).toNat ≤ sizeLine) : Wk (Itc lo (-1) (lo - hi).toNat) qI (idown lo hi) S0 := by
  have l : (idown lo hi).length = (lo - hi).toNat := by unfold idown; rw [List.length_map, List.length_range]
  refine ⟨by rw [l]; exact hl, fun {C S H σ env} i hi' F e => ?_, fun {C S H σ env} i x H' y F e hy ha => ?_, fun {C S H σ env} i hi' F e => ?_⟩
  · show i < _
    omega
  · obtain ⟨eH, ex⟩ := hy
    subst eH
    refine ⟨S, F, Ex.refl S, Ex.refl _, fun _ z _ => z, ?_⟩
    show x = V.int y
    unfold idown at ha
    rw [List.getElem?_map] at ha
    cases q : (List.range (lo - hi).toNat)[i]? with
    | none => rw [q] at ha; cases ha
    | some j =>
      rw [q] at ha
      have : j = i := by
        obtain ⟨h1, h2⟩ := List.getElem?_eq_some_iff.mp q
        simpa using h2.symm
      subst this
      rw [ex, ← Option.some.inj ha]
  · show _ ≤ i
    omega
theorem xi_rngD {p : Pos} (hg : Gl X "range") (hm : X.mg "range" = none) (ha : PE X a (tE C env qI mi)) (hb : PE X b (tE C env qI mj)) (hc : PE X c (tE C env qI (.ret (-1)))) (hs : starEach [a, b, c] X.env = (false, eval a X.env) :: starEach [b, c] X.env := by rfl) (hsb : starEach [b, c] X.env = (false, eval b X.env) :: starEach [c] X.env := by rfl) (hsc : starEach [c] X.env = (false, eval c X.env) :: starEach [] X.env := by rfl)
    (hpl : (backTo pos (starEach [b, c] X.env)).any (·.1) = false := by rfl) :
    PI X tg (.Call (.Name "range" p) [a, b, c] [] pos) (tS C env qI (mi.bind fun i => mj.bind fun j => ofO (rngD i j))) :=
  pi_imp (pi_range3 hg hm (pa_cons ha (pa_cons hb (pa_cons hc pa_nil hsc) hsb) hs) (hs := hs) (hpl := hpl)) fun σ H R _ ⟨S, g0, P, F, em, q⟩ => ⟨S, g0, _, F, em, fun i g1 hi v S1 H1 F1 x1 hv => ⟨S1, g1, _, F1, hi, fun j g2 ⟨z, ez, pz⟩ w S2 H2 F2 x2 hw => ⟨S2, g2, fun m g3 => m = -1 ∧ P z g3, F2, ⟨rfl, pz⟩, fun m g3 ⟨em, pm⟩ u S3 H3 F3 x3 hu => by
    subst em
    unfold rngD at ez
    split at ez
    case isFalse => cases ez
    rename_i hl
    cases ez
    have hv : v = .int i := hv
    have hw : w = .int j := hw
    have hu : u = .int (-1) := hu
    subst hv hw hu
    exact ⟨i, j, -1, (i - j).toNat, rfl, RgC.neg (by omega) (by omega) (by omega) (by omega), q _ _ pm _ S3 H3 F3 (x1.trans (x2.trans x3)) (wk_rngD (by rw [sizeLine_eq]; omega))⟩⟩⟩⟩
/-! ### xs.index(e), xs a list of the def's own -/
def idxC (xs : List Int) (v : Int) : Option Int := Option.map (fun n : Nat => Int.ofNat n) (xs.findIdx? fun y => decide (y = v))
theorem idx_at {xs : List Int} {v : Int} {n : Nat} (h : (xs.findIdx? fun y => decide (y = v)) = some n) : (xs.map V.int)[n]? = some (.int v) ∧ ∀ (m : Nat) (z' : V), m < n → (xs.map V.int)[m]? = some z' → eqV z' (.int v) = false := by
  obtain ⟨h1, h2, h3⟩ := List.findIdx?_eq_some_iff_getElem.mp h
  refine ⟨by simp [h1, of_decide_eq_true h2], fun m z' hm hz => ?_⟩
  have := h3 m hm
  rw [List.getElem?_map, List.getElem?_eq_getElem (Nat.lt_trans hm h1)] at hz
  cases Option.some.inj hz
  show (xs[m]'_ == v) = false
  simpa using this
theorem xe_index {x : Str} {pa pe : Pos} {xs : List Int} (hb : PE X (.Call (.Attribute (.Name x px) "index" pa) [e] [] pe) (tBM X.K "list" (rIndex X.K) (tVar i) (tCons (tE C env qI mi) tNil))) (hi : ∀ g, (env g)[i]? = some (.ow qI xs) := by intro _; rfl) :
    PE X (.Call (.Attribute (.Name x px) "index" pa) [e] [] pe) (tE C env qI (mi.bind fun v => ofO (idxC xs v))) :=
  pe_imp hb fun σ H Q _ ⟨S, g0, P, F, em, k⟩ => by
    obtain ⟨w, ew, p, vs, e2, sp, hp, ha⟩ := F.sl.get i (hi _)
    subst e2
    refine ⟨.ref p, ew, .inl ⟨rfl, vs, SqL.of hp⟩, S, g0, _, F, em, fun v g1 ⟨z, ez, pz⟩ u S1 H1 F1 x1 hu => ?_⟩
    obtain ⟨w1, ew1, p1, vs1, e21, sp1, hp1, ha1⟩ := F1.sl.get i (hi _)
    subst e21
    rw [ew] at ew1
    cases ew1
    have e3 : vs1 = xs.map V.int := flat_ints ha1
    subst e3
    unfold idxC at ez
    obtain ⟨n, en, rfl⟩ := Option.map_eq_some_iff.mp ez
    obtain ⟨q1, q2⟩ := idx_at en
    rw [show u = V.int v from hu]
    exact ⟨p, _, .int v, n, .int v, rfl, rfl, SqL.of hp1, rfl, all_flat xs, q1, by show (v == v) = true; simp, q2, fun _ => k _ _ pz _ S1 H1 F1 x1 rfl⟩
/-! ### xs + ys of lists -/
theorem xn_catL {mx my : W (List α)} (ha : PE X a (tE C env (qL re) mx)) (hb : PE X b (tE C env (qL re) my)) : PE X (.BinOp a .Add b pos) (tN C env re (mx.bind fun xs => my.bind fun ys => ofO (catC xs ys))) :=
  pe_imp (pe_op op_cat ha hb) fun σ H Q _ ⟨S, g0, P, F, em, k⟩ => ⟨S, g0, _, F, em, fun xs g1 px v S1 H1 F1 x1 ⟨p1, vs, ev, hp, h2⟩ => ⟨S1, g1, _, F1, px, fun ys g2 ⟨z, ez, pz⟩ w S2 H2 F2 x2 ⟨p2, ws, ew, hq, h3⟩ => by
    subst ev ew
    unfold catC at ez
    split at ez
    case isFalse => cases ez
    rename_i hl
    cases ez
    have h2' := h2.mono fun _ _ z => re.mono x2 z
    exact ⟨p1, p2, vs, ws, rfl, rfl, F2.e1 _ _ (x2 _ _ hp), F2.e1 _ _ hq, by rw [All2.length h2, All2.length h3, sizeLine_eq]; omega, fun q hq' _ => k _ _ pz q _ S2 H2 F2 (x1.trans x2) hq' (h2'.append h3)⟩⟩⟩
end
end Rt

set_option maxRecDepth 100000
set_option maxHeartbeats 4000000
/-! RtI: a chain of three comparisons. -/
namespace Rt
open PySem L2 Rt PyProof.Rows
section
variable {X : Cx} {C : Cs} {env kp : Gh → List Sl} {a b c d : Expr} {pos : Pos} {α β γ δ : Type} {ra : Rp α} {rb : Rp β} {rc : Rp γ} {rd : Rp δ} {ma : W α} {mb : W β} {mc : W γ} {md : W δ} {ta tb tc td : TE}
def tChain3 (r r' r2 : R2) (ta tb tc td : TE) : TE := fun σ H Q => ta σ H fun x H1 => tb σ H1 fun y H2 => r x y H2 fun z H3 => ∃ k, z = .bl k ∧
  (if k = true then tc σ H3 fun w' H4 => r' y w' H4 fun z2 H5 => ∃ k2, z2 = .bl k2 ∧ (if k2 = true then td σ H5 fun u' H6 => r2 w' u' H6 Q else Q (.bl false) H5) else Q (.bl false) H3)
theorem pe_chain3 {op op' op2 : CmpOp} {r r' r2 : R2} (ho : OpR X (compareOp op) r) (ho' : OpR X (compareOp op') r') (ho2 : OpR X (compareOp op2) r2) (ha : PE X a ta) (hb : PE X b tb) (hc : PE X c tc) (hd : PE X d td)
    (hm : lastMarks [op, op', op2] [b, c, d] = false := by with_unfolding_all rfl) : PE X (.Compare a [op, op', op2] [b, c, d] pos) (tChain3 r r' r2 ta tb tc td) := by
  refine ⟨fun pins s σ H Q I h => ?_⟩
  refine Compare_chain (thn (ha.run pins s σ H _ I h) fun v s1 ⟨x, H1, I1, r1, q1⟩ => chain_link (thn (hb.run pins s1 σ H1 _ I1 q1) fun u s2 ⟨y, H2, I2, rr2, q2⟩ =>
    thn (ho pins s2 σ H2 x y v u _ I2 r1 rr2 q2) fun e s3 ⟨z, H3, I3, r3, k, ek, q3⟩ => ?_)) hm
  subst ek
  cases r3
  refine wpAny_truthy_bool ?_
  cases k with
  | false => exact ite_ff ⟨.bl false, H3, I3, rfl, q3⟩
  | true =>
    refine ite_tt (chain_link (thn (hc.run pins s3 σ H3 _ I3 q3) fun w' s4 ⟨z', H4, I4, r4, q4⟩ => thn (ho' pins s4 σ H4 y z' u w' _ I4 rr2 r4 q4) fun d' s5 ⟨z2, H5, I5, r5, k2, e2, q5⟩ => ?_))
    subst e2
    cases r5
    refine wpAny_truthy_bool ?_
    cases k2 with
    | false => exact ite_ff ⟨.bl false, H5, I5, rfl, q5⟩
    | true => exact ite_tt (chain_last (thn (hd.run pins s5 σ H5 _ I5 q5) fun u' s6 ⟨z3, H6, I6, r6, q6⟩ => ho2 pins s6 σ H6 z' z3 w' u' Q I6 r4 r6 q6))
theorem pt_chain3 {op op' op2 : CmpOp} {r r' r2 : R2} (ho : OpR X (compareOp op) r) (ho' : OpR X (compareOp op') r') (ho2 : OpR X (compareOp op2) r2) (ha : PE X a ta) (hb : PE X b tb) (hc : PE X c tc) (hd : PE X d td)
    (hm : lastMarks [op, op', op2] [b, c, d] = false := by with_unfolding_all rfl) : PT X (.Compare a [op, op', op2] [b, c, d] pos) (tTest (tChain3 r r' r2 ta tb tc td)) := by
  refine ⟨fun pins s σ H Q I h => ?_⟩
  refine isTrue_chain (thn (ha.run pins s σ H _ I h) fun v s1 ⟨x, H1, I1, r1, q1⟩ => test_link (thn (hb.run pins s1 σ H1 _ I1 q1) fun u s2 ⟨y, H2, I2, rr2, q2⟩ =>
    thn (ho pins s2 σ H2 x y v u _ I2 r1 rr2 q2) fun e s3 ⟨z, H3, I3, r3, k, ek, q3⟩ => ?_)) hm
  subst ek
  cases r3
  refine wpAny_truthy_bool ?_
  cases k with
  | false =>
    obtain ⟨k', e', q'⟩ := q3
    cases e'
    exact ite_ff ⟨H3, I3, q'⟩
  | true =>
    refine ite_tt (test_link (thn (hc.run pins s3 σ H3 _ I3 q3) fun w' s4 ⟨z', H4, I4, r4, q4⟩ => thn (ho' pins s4 σ H4 y z' u w' _ I4 rr2 r4 q4) fun d' s5 ⟨z2, H5, I5, r5, k2, e2, q5⟩ => ?_))
    subst e2
    cases r5
    refine wpAny_truthy_bool ?_
    cases k2 with
    | false =>
      obtain ⟨k', e', q'⟩ := q5
      cases e'
      exact ite_ff ⟨H5, I5, q'⟩
    | true =>
      refine ite_tt (test_last (thn (hd.run pins s5 σ H5 _ I5 q5) fun u' s6 ⟨z3, H6, I6, r6, q6⟩ => thn (ho2 pins s6 σ H6 z' z3 w' u' _ I6 r4 r6 q6) fun d2 s7 ⟨z4, H7, I7, r7, k3, e3, q7⟩ => ?_))
      subst e3
      cases r7
      exact wpAny_truthy_bool ⟨H7, I7, q7⟩
def wChain3 (f : α → β → Option Bool) (g : β → γ → Option Bool) (h : γ → δ → Option Bool) (ma : W α) (mb : W β) (mc : W γ) (md : W δ) : W Bool :=
  ma.bind fun p => mb.bind fun q => (ofO (f p q)).bind fun t => if t = true then mc.bind fun w => (ofO (g q w)).bind fun t2 => if t2 = true then md.bind fun u => ofO (h w u) else .ret false else .ret false
theorem xe_chainD3 {op op' op2 : CmpOp} {f : α → β → Option Bool} {g : β → γ → Option Bool} {h : γ → δ → Option Bool} (d1 : CmpD X C op ra rb f) (d2 : CmpD X C op' rb rc g) (d3 : CmpD X C op2 rc rd h) (ha : PE X a (tE C env ra ma)) (hb : PE X b (tE C env rb mb)) (hc : PE X c (tE C env rc mc)) (hd : PE X d (tE C env rd md))
    (hm : lastMarks [op, op', op2] [b, c, d] = false := by with_unfolding_all rfl) : PE X (.Compare a [op, op', op2] [b, c, d] pos) (tE C env qB (ma.bind fun p => mb.bind fun q => (ofO (f p q)).bind fun t => if t = true then mc.bind fun w => (ofO (g q w)).bind fun t2 => if t2 = true then md.bind fun u => ofO (h w u) else .ret false else .ret false)) := by
  obtain ⟨R, h1, hr⟩ := d1
  obtain ⟨R', h2, hr'⟩ := d2
  obtain ⟨R2, h3, hr2⟩ := d3
  refine pe_imp (pe_chain3 h1 h2 h3 ha (tE_len hb) (tE_len hc) (tE_len hd) hm) fun σ H Q _ ⟨S, g0, P, F, em, q⟩ => ?_
  refine ⟨S, g0, _, F, em, fun p g1 hp x S1 H1 F1 e1 hx => ⟨S1, g1, _, F1, hp, fun w g2 ⟨t, et, ht⟩ y S2 H2 F2 e2 hy l2 => ?_⟩⟩
  refine hr _ S2 H2 σ x y p w t _ F2 l2 (ra.mono e2 hx) hy et fun S3 H3 F3 e3 => ⟨t, rfl, ?_⟩
  cases t with
  | false => exact fun _ => q _ _ ht _ S3 H3 F3 (e1.trans (e2.trans e3)) rfl
  | true =>
    refine ⟨S3, _, _, F3, ht, fun u g4 ⟨z, ez, pz⟩ y' S4 H4 F4 e4 hy' l4 => ?_⟩
    refine hr' _ S4 H4 σ y y' w u z _ F4 l4 (rb.mono (e3.trans e4) hy) hy' ez fun S5 H5 F5 e5 => ⟨z, rfl, ?_⟩
    cases z with
    | false => exact fun _ => q _ _ pz _ S5 H5 F5 (e1.trans (e2.trans (e3.trans (e4.trans e5)))) rfl
    | true =>
      refine ⟨S5, _, _, F5, pz, fun u2 g6 ⟨z2, ez2, pz2⟩ y2 S6 H6 F6 e6 hy2 l6 => ?_⟩
      exact hr2 _ S6 H6 σ y' y2 u u2 z2 _ F6 l6 (rc.mono (e5.trans e6) hy') hy2 ez2 fun S7 H7 F7 e7 _ => q z2 _ pz2 _ S7 H7 F7 (e1.trans (e2.trans (e3.trans (e4.trans (e5.trans (e6.trans e7)))))) rfl
theorem xt_chainD3 {op op' op2 : CmpOp} {f : α → β → Option Bool} {g : β → γ → Option Bool} {h : γ → δ → Option Bool} (d1 : CmpD X C op ra rb f) (d2 : CmpD X C op' rb rc g) (d3 : CmpD X C op2 rc rd h) (ha : PE X a (tE C env ra ma)) (hb : PE X b (tE C env rb mb)) (hc : PE X c (tE C env rc mc)) (hd : PE X d (tE C env rd md))
    (hm : lastMarks [op, op', op2] [b, c, d] = false := by with_unfolding_all rfl) : PT X (.Compare a [op, op', op2] [b, c, d] pos) (tT C env (ma.bind fun p => mb.bind fun q => (ofO (f p q)).bind fun t => if t = true then mc.bind fun w => (ofO (g q w)).bind fun t2 => if t2 = true then md.bind fun u => ofO (h w u) else .ret false else .ret false)) := by
  obtain ⟨R, h1, hr⟩ := d1
  obtain ⟨R', h2, hr'⟩ := d2
  obtain ⟨R2, h3, hr2⟩ := d3
  refine pt_imp (pt_chain3 h1 h2 h3 ha (tE_len hb) (tE_len hc) (tE_len hd) hm) fun σ H Q _ ⟨S, g0, P, F, em, q⟩ => ?_
  refine ⟨S, g0, _, F, em, fun p g1 hp x S1 H1 F1 e1 hx => ⟨S1, g1, _, F1, hp, fun w g2 ⟨t, et, ht⟩ y S2 H2 F2 e2 hy l2 => ?_⟩⟩
  refine hr _ S2 H2 σ x y p w t _ F2 l2 (ra.mono e2 hx) hy et fun S3 H3 F3 e3 => ⟨t, rfl, ?_⟩
  cases t with
  | false => exact ⟨_, rfl, fun _ => q _ _ ht S3 H3 F3 (e1.trans (e2.trans e3))⟩
  | true =>
    refine ⟨S3, _, _, F3, ht, fun u g4 ⟨z, ez, pz⟩ y' S4 H4 F4 e4 hy' l4 => ?_⟩
    refine hr' _ S4 H4 σ y y' w u z _ F4 l4 (rb.mono (e3.trans e4) hy) hy' ez fun S5 H5 F5 e5 => ⟨z, rfl, ?_⟩
    cases z with
    | false => exact ⟨_, rfl, fun _ => q _ _ pz S5 H5 F5 (e1.trans (e2.trans (e3.trans (e4.trans e5))))⟩
    | true =>
      refine ⟨S5, _, _, F5, pz, fun u2 g6 ⟨z2, ez2, pz2⟩ y2 S6 H6 F6 e6 hy2 l6 => ?_⟩
      exact hr2 _ S6 H6 σ y' y2 u u2 z2 _ F6 l6 (rc.mono (e5.trans e6) hy') hy2 ez2 fun S7 H7 F7 e7 => ⟨_, rfl, fun _ => q z2 _ pz2 _ _ F7 (e1.trans (e2.trans (e3.trans (e4.trans (e5.trans (e6.trans e7))))))⟩
end
end Rt

set_option maxRecDepth 100000
set_option maxHeartbeats 4000000
/-! RtV: values of any kind; a tuple, many times. -/
namespace Rt
open PySem L2 Rt PyProof.Rows
/-! ### t * k -/
def repT {α : Type} (xs : List α) (k : Int) : Option (List α) := if xs ≠ [] ∧ (k = 0 ∨ 2 ≤ k) ∧ k ≤ 1000 ∧ xs.length ≤ 1000 then some (List.replicate k.toNat xs).flatten else none
section
variable {X : Cx} {C : Cs} {env kp : Gh → List Sl} {a b c d e : Expr} {pos : Pos} {α β γ δ : Type} {r ra : Rp α} {rb : Rp β} {mi : W Int}
theorem xe_repT {mx : W (List α)} (ha : PE X a (tE C env (qT r) mx)) (hb : PE X b (tE C env qI mi)) : PE X (.BinOp a .Mult b pos) (tE C env (qT r) (mx.bind fun xs => mi.bind fun k => ofO (repT xs k))) :=
  xe_op RtU.op_repU ha hb fun _ S H σ x y xs k z Q F _ ⟨p, vs, e1, h1, h2⟩ hk ez kk => by
    unfold repT at ez
    split at ez
    · rename_i hl
      cases ez
      obtain ⟨n1, n2, n3, n4⟩ := hl
      have lv := All2.length h2
      have nv : vs ≠ [] := fun e => n1 (by
        rw [e] at lv
        exact List.eq_nil_of_length_eq_zero lv.symm)
      refine ⟨p, k, vs, e1, hk, TupAt.sq (TupAt.mono F.e1 h1), nv, n2, n3, by omega, fun u o ho hu => ?_⟩
      have ex := Ex.new (o := .frz o (.tup (List.replicate k.toNat vs).flatten)) (F.e1.back hu)
      exact kk _ _ _ (F.new hu) ex ⟨u, _, rfl, TupAt.new ho, All2.rep (h2.mono fun _ _ z => r.mono ex z) k.toNat⟩
    · cases ez
end
/-! ### values of any kind -/
mutual
def Vp (H : Hp) : PyData → V → Prop
  | .none, v => v = .non
  | .bool b, v => v = .bl b
  | .int i, v => v = .int i
  | .str x, v => v = .str x
  | .list ds, v => ∃ p vs, v = .ref p ∧ H p = some (.lst vs) ∧ VpL H ds vs
  | .tuple ds, v => ∃ p vs, v = .ref p ∧ TupAt H p vs ∧ VpL H ds vs
  | .dict kvs, v => kvs = [] ∧ ∃ p, v = .ref p ∧ H p = some (.dT [])
def VpL (H : Hp) : List PyData → List V → Prop
  | [], vs => vs = []
  | d :: ds, vs => ∃ w ws, vs = w :: ws ∧ Vp H d w ∧ VpL H ds ws
end
mutual
theorem Vp.mono {H H' : Hp} (e : Ex H H') : ∀ (d : PyData) (v : V), Vp H d v → Vp H' d v
  | .none, v, h => by unfold Vp at *; exact h
  | .bool b, v, h => by unfold Vp at *; exact h
  | .int i, v, h => by unfold Vp at *; exact h
  | .str x, v, h => by unfold Vp at *; exact h
  | .list ds, v, h => by
    unfold Vp at *
    obtain ⟨p, vs, h1, h2, h3⟩ := h
    exact ⟨p, vs, h1, e _ _ h2, VpL.mono e ds vs h3⟩
  | .tuple ds, v, h => by
    unfold Vp at *
    obtain ⟨p, vs, h1, h2, h3⟩ := h
    exact ⟨p, vs, h1, h2.mono e, VpL.mono e ds vs h3⟩
  | .dict kvs, v, h => by
    unfold Vp at *
    obtain ⟨h1, p, h2, h3⟩ := h
    exact ⟨h1, p, h2, e _ _ h3⟩
theorem VpL.mono {H H' : Hp} (e : Ex H H') : ∀ (ds : List PyData) (vs : List V), VpL H ds vs → VpL H' ds vs
  | [], vs, h => by unfold VpL at *; exact h
  | d :: ds, vs, h => by
    unfold VpL at *
    obtain ⟨w, ws, h1, h2, h3⟩ := h
    exact ⟨w, ws, h1, Vp.mono e d w h2, VpL.mono e ds ws h3⟩
end
def qV : Rp PyData := ⟨fun H v d => Vp H d v, fun {H H' v d} e h => Vp.mono e d v h⟩
theorem vpl_of {H : Hp} : ∀ {vs : List V} {ds : List PyData}, All2 (qV.p H) vs ds → VpL H ds vs
  | [], [], _ => by unfold VpL; rfl
  | v :: vs, d :: ds, ⟨a, b⟩ => by unfold VpL; exact ⟨v, vs, rfl, a, vpl_of b⟩
  | [], _ :: _, z => z.elim
  | _ :: _, [], z => z.elim
theorem vpl_to {H : Hp} : ∀ {vs : List V} {ds : List PyData}, VpL H ds vs → All2 (qV.p H) vs ds
  | vs, [], h => by unfold VpL at h; subst h; exact True.intro
  | vs, d :: ds, h => by
    unfold VpL at h
    obtain ⟨w, ws, rfl, h2, h3⟩ := h
    exact ⟨h2, vpl_to h3⟩
/-- data of a kind as values of any kind, and back where it can be -/
structure Ve {α : Type} (r : Rp α) where
  enc : α → PyData
  dec : PyData → Option α
  rep : ∀ {H : Hp} {v : V} {a : α}, r.p H v a → Vp H (enc a) v
  und : ∀ {H : Hp} {v : V} {d : PyData} {a : α}, Vp H d v → dec d = some a → r.p H v a
  ret : ∀ a : α, dec (enc a) = some a
def decI : PyData → Option Int
  | .int i => some i
  | _ => none
def decB : PyData → Option Bool
  | .bool i => some i
  | _ => none
def decS : PyData → Option Str
  | .str i => some i
  | _ => none
def decN : PyData → Option Unit
  | .none => some ()
  | _ => none
def decAll {α : Type} (f : PyData → Option α) : List PyData → Option (List α)
  | [] => some []
  | d :: ds => (f d).bind fun a => (decAll f ds).bind fun as => some (a :: as)
def decT {α : Type} (f : PyData → Option α) : PyData → Option (List α)
  | .tuple ds => decAll f ds
  | _ => none
def decL {α : Type} (f : PyData → Option α) : PyData → Option (List α)
  | .list ds => decAll f ds
  | _ => none
def decP {α β : Type} (f : PyData → Option α) (g : PyData → Option β) : PyData → Option (α × β)
  | .tuple [x, y] => (f x).bind fun a => (g y).bind fun b => some (a, b)
  | _ => none
def decP3 {α β γ : Type} (f : PyData → Option α) (g : PyData → Option β) (h : PyData → Option γ) : PyData → Option (α × β × γ)
  | .tuple [x, y, z] => (f x).bind fun a => (g y).bind fun b => (h z).bind fun c => some (a, b, c)
  | _ => none
def eI : Ve qI := ⟨.int, decI, fun {H v a} h => by unfold Vp; exact h, fun {H v d a} h e => by
  cases d <;> cases e
  unfold Vp at h
  exact h, fun _ => rfl⟩
def eB : Ve qB := ⟨.bool, decB, fun {H v a} h => by unfold Vp; exact h, fun {H v d a} h e => by
  cases d <;> cases e
  unfold Vp at h
  exact h, fun _ => rfl⟩
def eS : Ve qS := ⟨.str, decS, fun {H v a} h => by unfold Vp; exact h, fun {H v d a} h e => by
  cases d <;> cases e
  unfold Vp at h
  exact h, fun _ => rfl⟩
def eN : Ve qN := ⟨fun _ => .none, decN, fun {H v a} h => by unfold Vp; exact h, fun {H v d a} h e => by
  cases d <;> cases e
  unfold Vp at h
  exact h, fun _ => rfl⟩
def eV : Ve qV := ⟨id, some, fun h => h, fun h e => by cases e; exact h, fun _ => rfl⟩
theorem vpl_enc {α : Type} {r : Rp α} (E : Ve r) {H : Hp} : ∀ {vs : List V} {xs : List α}, All2 (r.p H) vs xs → VpL H (xs.map E.enc) vs
  | [], [], _ => by unfold List.map VpL; rfl
  | v :: vs, x :: xs, ⟨a, b⟩ => by
    show VpL H (E.enc x :: xs.map E.enc) (v :: vs)
    unfold VpL
    exact ⟨v, vs, rfl, E.rep a, vpl_enc E b⟩
  | [], _ :: _, z => z.elim
  | _ :: _, [], z => z.elim
theorem vpl_dec {α : Type} {r : Rp α} (E : Ve r) {H : Hp} : ∀ {vs : List V} {ds : List PyData} {xs : List α}, VpL H ds vs → decAll E.dec ds = some xs → All2 (r.p H) vs xs
  | vs, [], xs, h, e => by
    unfold VpL at h
    subst h
    cases e
    exact True.intro
  | vs, d :: ds, xs, h, e => by
    unfold VpL at h
    obtain ⟨w, ws, rfl, h2, h3⟩ := h
    unfold decAll at e
    obtain ⟨a, e1, e⟩ := Option.bind_eq_some_iff.mp e
    obtain ⟨as, e2, e⟩ := Option.bind_eq_some_iff.mp e
    cases e
    exact ⟨E.und h2 e1, vpl_dec E h3 e2⟩
theorem dec_enc {α : Type} {r : Rp α} (E : Ve r) : ∀ xs : List α, decAll E.dec (xs.map E.enc) = some xs
  | [] => rfl
  | x :: xs => by
    show (E.dec (E.enc x)).bind (fun a => (decAll E.dec (xs.map E.enc)).bind fun as => some (a :: as)) = _
    rw [E.ret, dec_enc E xs]
    rfl
def eT {α : Type} {r : Rp α} (E : Ve r) : Ve (qT r) := ⟨fun xs => .tuple (xs.map E.enc), decT E.dec, fun {H v a} ⟨p, vs, h1, h2, h3⟩ => by
  unfold Vp
  exact ⟨p, vs, h1, h2, vpl_enc E h3⟩, fun {H v d a} h e => by
  cases d <;> first | cases e | skip
  unfold Vp at h
  obtain ⟨p, vs, h1, h2, h3⟩ := h
  exact ⟨p, vs, h1, h2, vpl_dec E h3 e⟩, fun xs => dec_enc E xs⟩
def eL {α : Type} {r : Rp α} (E : Ve r) : Ve (qL r) := ⟨fun xs => .list (xs.map E.enc), decL E.dec, fun {H v a} ⟨p, vs, h1, h2, h3⟩ => by
  unfold Vp
  exact ⟨p, vs, h1, h2, vpl_enc E h3⟩, fun {H v d a} h e => by
  cases d <;> first | cases e | skip
  unfold Vp at h
  obtain ⟨p, vs, h1, h2, h3⟩ := h
  exact ⟨p, vs, h1, h2, vpl_dec E h3 e⟩, fun xs => dec_enc E xs⟩
theorem eP_rep {α β : Type} {r : Rp α} {q : Rp β} (E : Ve r) (F : Ve q) {H : Hp} {v : V} {a : α × β} (h : (qP r q).p H v a) : Vp H (.tuple [E.enc a.1, F.enc a.2]) v := by
  obtain ⟨p, x, y, h1, h2, h3, h4⟩ := h
  unfold Vp
  refine ⟨p, _, h1, h2, ?_⟩
  unfold VpL
  refine ⟨_, _, rfl, E.rep h3, ?_⟩
  unfold VpL
  refine ⟨_, _, rfl, F.rep h4, ?_⟩
  unfold VpL
  rfl
theorem eP_und {α β : Type} {r : Rp α} {q : Rp β} (E : Ve r) (F : Ve q) {H : Hp} {v : V} {d : PyData} {a : α × β} (h : Vp H d v) (e : decP E.dec F.dec d = some a) : (qP r q).p H v a := by
  unfold decP at e
  split at e
  · obtain ⟨u, e1, e⟩ := Option.bind_eq_some_iff.mp e
    obtain ⟨w, e2, e⟩ := Option.bind_eq_some_iff.mp e
    cases e
    unfold Vp at h
    obtain ⟨p, vs, h1, h2, h3⟩ := h
    unfold VpL at h3
    obtain ⟨_, _, rfl, h4, h3⟩ := h3
    unfold VpL at h3
    obtain ⟨_, _, rfl, h5, h3⟩ := h3
    unfold VpL at h3
    subst h3
    exact ⟨p, _, _, h1, h2, E.und h4 e1, F.und h5 e2⟩
  · cases e
def eP {α β : Type} {r : Rp α} {q : Rp β} (E : Ve r) (F : Ve q) : Ve (qP r q) := ⟨fun x => .tuple [E.enc x.1, F.enc x.2], decP E.dec F.dec, fun h => eP_rep E F h, fun h e => eP_und E F h e, fun x => by
  show ((E.dec (E.enc x.1)).bind fun a => (F.dec (F.enc x.2)).bind fun b => some (a, b)) = some x
  rw [E.ret, F.ret]
  rfl⟩
theorem eP3_rep {α β γ : Type} {r : Rp α} {q : Rp β} {t : Rp γ} (E : Ve r) (F : Ve q) (G : Ve t) {H : Hp} {v : V} {a : α × β × γ} (h : (qP3 r q t).p H v a) : Vp H (.tuple [E.enc a.1, F.enc a.2.1, G.enc a.2.2]) v := by
  obtain ⟨p, x, y, z, h1, h2, h3, h4, h5⟩ := h
  unfold Vp
  refine ⟨p, _, h1, h2, ?_⟩
  unfold VpL
  refine ⟨_, _, rfl, E.rep h3, ?_⟩
  unfold VpL
  refine ⟨_, _, rfl, F.rep h4, ?_⟩
  unfold VpL
  refine ⟨_, _, rfl, G.rep h5, ?_⟩
  unfold VpL
  rfl
theorem eP3_und {α β γ : Type} {r : Rp α} {q : Rp β} {t : Rp γ} (E : Ve r) (F : Ve q) (G : Ve t) {H : Hp} {v : V} {d : PyData} {a : α × β × γ} (h : Vp H d v) (e : decP3 E.dec F.dec G.dec d = some a) : (qP3 r q t).p H v a := by
  unfold decP3 at e
  split at e
  · obtain ⟨u, e1, e⟩ := Option.bind_eq_some_iff.mp e
    obtain ⟨w, e2, e⟩ := Option.bind_eq_some_iff.mp e
    obtain ⟨w3, e3, e⟩ := Option.bind_eq_some_iff.mp e
    cases e
    unfold Vp at h
    obtain ⟨p, vs, h1, h2, h3⟩ := h
    unfold VpL at h3
    obtain ⟨_, _, rfl, h4, h3⟩ := h3
    unfold VpL at h3
    obtain ⟨_, _, rfl, h5, h3⟩ := h3
    unfold VpL at h3
    obtain ⟨_, _, rfl, h6, h3⟩ := h3
    unfold VpL at h3
    subst h3
    exact ⟨p, _, _, _, h1, h2, E.und h4 e1, F.und h5 e2, G.und h6 e3⟩
  · cases e
def eP3 {α β γ : Type} {r : Rp α} {q : Rp β} {t : Rp γ} (E : Ve r) (F : Ve q) (G : Ve t) : Ve (qP3 r q t) := ⟨fun x => .tuple [E.enc x.1, F.enc x.2.1, G.enc x.2.2], decP3 E.dec F.dec G.dec, fun h => eP3_rep E F G h, fun h e => eP3_und E F G h e, fun x => by
  show ((E.dec (E.enc x.1)).bind fun a => (F.dec (F.enc x.2.1)).bind fun b => (G.dec (G.enc x.2.2)).bind fun c => some (a, b, c)) = some x
  rw [E.ret, F.ret, G.ret]
  rfl⟩
def tyV : PyData → String
  | .none => "NoneType"
  | .bool _ => "bool"
  | .int _ => "int"
  | .str _ => "str"
  | .list _ => "list"
  | .tuple _ => "tuple"
  | .dict _ => "dict"
def isTupV : PyData → Bool
  | .tuple _ => true
  | _ => false
def isListV : PyData → Bool
  | .list _ => true
  | _ => false
def isIntV : PyData → Bool
  | .int _ => true
  | .bool _ => true
  | _ => false
def isBoolV : PyData → Bool
  | .bool _ => true
  | _ => false
def isStrV : PyData → Bool
  | .str _ => true
  | _ => false
def isDictV : PyData → Bool
  | .dict _ => true
  | _ => false
def isNonV : PyData → Bool
  | .none => true
  | _ => false
theorem Vp.ty {K : PySem.W.Frag} {H : Hp} {v : V} {d : PyData} (h : Vp H d v) : RtU.TyU K H v (.type (tyV d)) := by
  cases d <;> unfold Vp at h
  case none => rw [h]; exact .inl .non
  case bool b => rw [h]; exact .inl (.bl b)
  case int i => rw [h]; exact .inl (.int i)
  case str i => rw [h]; exact .inl (.str i)
  case list ds => obtain ⟨p, vs, h1, h2, _⟩ := h; rw [h1]; exact .inl (.lst h2)
  case tuple ds => obtain ⟨p, vs, h1, h2, _⟩ := h; rw [h1]; exact .inr ⟨rfl, _, h2.choose, _, rfl, h2.choose_spec.2⟩
  case dict ds => obtain ⟨_, p, h1, h2⟩ := h; rw [h1]; exact .inl (.dT h2)
theorem Vp.isNon {H : Hp} {v : V} {d : PyData} (h : Vp H d v) : decide (v = .non) = isNonV d := by
  cases d <;> unfold Vp at h
  case none => rw [h]; rfl
  case bool b => rw [h]; rfl
  case int i => rw [h]; rfl
  case str i => rw [h]; rfl
  case list ds => obtain ⟨p, vs, h1, h2, _⟩ := h; rw [h1]; rfl
  case tuple ds => obtain ⟨p, vs, h1, h2, _⟩ := h; rw [h1]; rfl
  case dict ds => obtain ⟨_, p, h1, h2⟩ := h; rw [h1]; rfl
mutual
def cleanD : PyData → Bool
  | .list ds => cleanL ds
  | .tuple ds => cleanL ds
  | .dict _ => false
  | _ => true
def cleanL : List PyData → Bool
  | [] => true
  | d :: ds => cleanD d && cleanL ds
end
mutual
theorem Vp.dp {K : PySem.W.Frag} {H : Hp} : ∀ (d : PyData) (v : V), Vp H d v → cleanD d = true → Dp K H v d
  | .none, v, h, _ => by unfold Vp at h; rw [h]; exact .non
  | .bool b, v, h, _ => by unfold Vp at h; rw [h]; exact .bl b
  | .int i, v, h, _ => by unfold Vp at h; rw [h]; exact .int i
  | .str x, v, h, _ => by unfold Vp at h; rw [h]; exact .str x
  | .list ds, v, h, c => by
    unfold Vp at h
    unfold cleanD at c
    obtain ⟨p, vs, h1, h2, h3⟩ := h
    rw [h1]
    exact .lst (SqL.of h2) (VpL.dp ds vs h3 c)
  | .tuple ds, v, h, c => by
    unfold Vp at h
    unfold cleanD at c
    obtain ⟨p, vs, h1, h2, h3⟩ := h
    rw [h1]
    exact .tup (TupAt.sq h2) (VpL.dp ds vs h3 c)
  | .dict kvs, v, h, c => by unfold cleanD at c; cases c
theorem VpL.dp {K : PySem.W.Frag} {H : Hp} : ∀ (ds : List PyData) (vs : List V), VpL H ds vs → cleanL ds = true → DpAll K H vs ds
  | [], vs, h, _ => by unfold VpL at h; rw [h]; exact .nil
  | d :: ds, vs, h, c => by
    unfold VpL at h
    unfold cleanL at c
    obtain ⟨w, ws, h1, h2, h3⟩ := h
    obtain ⟨c1, c2⟩ := Bool.and_eq_true_iff.mp c
    rw [h1]
    exact .cons (Vp.dp d w h2 c1) (VpL.dp ds ws h3 c2)
end
def cleanO (d : PyData) : Option PyData := if cleanD d = true then some d else none
section
variable {X : Cx} {C : Cs} {env kp : Gh → List Sl} {a b c d e : Expr} {pos : Pos} {α β γ δ : Type} {r ra : Rp α} {rb : Rp β} {m : W α}
theorem xe_enc (E : Ve r) (h : PE X e (tE C env r m)) : PE X e (tE C env qV (m.bind fun x => .ret (E.enc x))) := xe_as (rb := qV) (fun H v a h => E.rep h) h
theorem xe_dec {m : W PyData} (E : Ve r) (h : PE X e (tE C env qV m)) : PE X e (tE C env r (m.bind fun x => ofO (E.dec x))) := xe_asO (ra := qV) (fun H v a b h e => E.und h e) h
theorem xe_VD {m : W PyData} (h : PE X e (tE C env qV m)) : PE X e (tE C env (qD X.K) (m.bind fun x => ofO (cleanO x))) := xe_asO (ra := qV) (fun H v a b h e => by
  unfold cleanO at e
  split at e
  · rename_i c
    cases e
    exact Vp.dp a v h c
  · cases e) h
theorem xe_isNV {j : Nat} {p1 : Pos} {m : W PyData} (h : PE X a (tE C env qV m)) : PE X (.Compare a [.Is] [.Constant .none j p1] pos) (tE C env qB (m.bind fun x => .ret (isNonV x))) := xe_isN h fun H v x h => Vp.isNon h
theorem xe_notNV {j : Nat} {p1 : Pos} {m : W PyData} (h : PE X a (tE C env qV m)) : PE X (.Compare a [.IsNot] [.Constant .none j p1] pos) (tE C env qB (m.bind fun x => .ret (!isNonV x))) :=
  pe_imp (pe_cmp (pc_notN h) rfl) fun σ H Q _ ⟨S, g0, P, F, em, k⟩ => ⟨S, g0, _, F, em, fun x g1 px v S1 H1 F1 x1 hv _ => k _ _ px _ S1 H1 F1 x1 (by rw [Vp.isNon hv]; rfl)⟩
theorem xt_notNV {j : Nat} {p1 : Pos} {m : W PyData} (h : PE X a (tE C env qV m)) : PT X (.Compare a [.IsNot] [.Constant .none j p1] pos) (tT C env (m.bind fun x => .ret (!isNonV x))) :=
  pt_imp (pt_cmp (pc_notN h) rfl) fun σ H Q _ ⟨S, g0, P, F, em, k⟩ => ⟨S, g0, _, F, em, fun x g1 px v S1 H1 F1 x1 hv => ⟨!isNonV x, by rw [Vp.isNon hv], fun _ => k _ _ px S1 H1 F1 x1⟩⟩
theorem xt_isNV {j : Nat} {p1 : Pos} {m : W PyData} (h : PE X a (tE C env qV m)) : PT X (.Compare a [.Is] [.Constant .none j p1] pos) (tT C env (m.bind fun x => .ret (isNonV x))) :=
  pt_imp (pt_cmp (pc_isN h) rfl) fun σ H Q _ ⟨S, g0, P, F, em, k⟩ => ⟨S, g0, _, F, em, fun x g1 px v S1 H1 F1 x1 hv => ⟨isNonV x, by rw [Vp.isNon hv], fun _ => k _ _ px S1 H1 F1 x1⟩⟩
theorem xe_isiV {n : String} {f : PyData → Bool} {m : W PyData} {x : Str} {p p2 : Pos} (hg : Gl X "isinstance") (hm : X.mg "isinstance" = none) (ha : PE X a (tE C env qV m)) (hgx : Gl X x) (hmx : X.mg x = none) (hv : bootBuiltins x = some (.type n)) (hk : ∀ d, kitB (tyV d) n = some (f d))
    (hn : x ≠ "__name__" := by decide) (hdb : (x == ("__debug__" : Str)) = false := by decide) (hs : starEach [a, .Name x p2] X.env = (false, eval a X.env) :: starEach [.Name x p2] X.env := by rfl) (hs2 : starEach [.Name x p2] X.env = (false, eval (.Name x p2) X.env) :: starEach [] X.env := by rfl) (hpl : (backTo pos (starEach [.Name x p2] X.env)).any (·.1) = false := by rfl) :
    PE X (.Call (.Name "isinstance" p) [a, .Name x p2] [] pos) (tE C env qB (m.bind fun y => .ret (f y))) :=
  pe_imp (pe_callB RtU.call_isiU hg hm (by decide +kernel) (pa_cons ha (pa_cons (pe_bltn (v := .ty n) hgx hmx hv rfl hn hdb) pa_nil hs2) hs) (by decide) (by decide) hs hpl) fun σ H Q _ ⟨S, g0, P, F, em, kk⟩ =>
    ⟨S, g0, _, F, em, fun y g1 py v S1 H1 F1 x1 hv => ⟨v, n, tyV y, f y, rfl, Vp.ty (qV.mono F1.e1 hv), hk y, fun _ => kk _ _ py _ S1 H1 F1 x1 rfl⟩⟩
theorem kTup (d : PyData) : kitB (tyV d) "tuple" = some (isTupV d) := by cases d <;> (simp only [tyV, isTupV]; decide +kernel)
theorem kInt (d : PyData) : kitB (tyV d) "int" = some (isIntV d) := by cases d <;> (simp only [tyV, isIntV]; decide +kernel)
theorem kBool (d : PyData) : kitB (tyV d) "bool" = some (isBoolV d) := by cases d <;> (simp only [tyV, isBoolV]; decide +kernel)
theorem kList (d : PyData) : kitB (tyV d) "list" = some (isListV d) := by cases d <;> (simp only [tyV, isListV]; decide +kernel)
theorem kStr (d : PyData) : kitB (tyV d) "str" = some (isStrV d) := by cases d <;> (simp only [tyV, isStrV]; decide +kernel)
theorem kDict (d : PyData) : kitB (tyV d) "dict" = some (isDictV d) := by cases d <;> (simp only [tyV, isDictV]; decide +kernel)
theorem xe_dict0 : PE X (.Dict [] [] pos) (tE C env qV (.ret (.dict []))) := pe_imp pe_dnewT fun σ H Q _ ⟨S, g0, P, F, em, k⟩ p hp _ =>
  k _ _ em _ _ _ (F.new hp) (Ex.new (F.e1.back hp)) (by
    show Vp _ (.dict []) (.ref p)
    unfold Vp
    exact ⟨rfl, p, rfl, upd_same⟩)
end
end Rt

set_option maxRecDepth 100000
set_option maxHeartbeats 4000000
/-! RtK: sorted(t, key=max), t a tuple of pairs of ints. -/
namespace Rt
open PySem PySem.W L2 Rt PyProof.Rows
section
variable {prog : Program} {w : World} {A : Around} {E : Value → Shared → Prop} {s : Shared}
theorem sortedT_of_sort {t : Addr} {vs : List Value} {kw : List (Str × Value)} {Q : Value → Shared → Prop} (ht : s.heap.IsTuple t vs.toArray) (hL : vs.length ≤ sizeLine) (ha1 : argsOk "sorted" ⟨[.ref t], kw⟩) (ha2 : ∀ x, argsOk "list.sort" ⟨[.ref x], kw⟩)
    (body : ∀ E' : Value → Shared → Prop, wpAny (model prog w) A.in1.in1 (Builtin.«list.sort» ⟨[.ref (s.heap.objs.size + 1)], kw⟩) (fun f s' => f = .done (.ret .none) ∧ Q (.ref (s.heap.objs.size + 1)) s') E' { s with heap := copyHeap s.heap vs }) :
    wpAny (model prog w) A (call (.builtin "sorted") [.ref t] kw) Q E s := by
  refine call_function_entry_kw kind_sorted plain_sorted entry_sorted ha1 ?_
  unfold Builtin.«sorted»
  refine wpAny_bind (m := checkCount "sorted" 1 1 _) (wpAny_pure ?_)
  refine wpAny_bind (gather ht hL ?_)
  refine wpAny_bind (wpAny_newList ?_ hL)
  have hsz : (gath s.heap vs).objs.size = s.heap.objs.size + 1 := by
    unfold gath
    rw [Heap.size_update, size_push']
  show wpAny _ _ _ _ _ { s with heap := copyHeap s.heap vs }
  rw [hsz]
  refine wpAny_bind (wpAny_holding (wpAny_call_entry_kw slot_list_sort ⟨_, copyHeap_at s.heap vs, rfl⟩ entry_list_sort ?body (ha2 _)))
  case body =>
    show wpAny (model prog w) A.in1.in1 (Builtin.«list.sort» ⟨[.ref (s.heap.objs.size + 1)], kw⟩) _ _ _
    refine wpAny_mono (body _) (fun f s' hf => ?_) fun _ _ e => e
    obtain ⟨rfl, hq⟩ := hf
    exact ⟨_, rfl, wpAny_pure ⟨_, rfl, hq⟩⟩
variable {β : Type} {R : Value → β → Prop} {vs : List Value} {bs : List β}
theorem sortedT_key {l : Addr} {f : Value} {kw : List (Str × Value)} {b : Bool} {Q : Value → Shared → Prop} (k : β → PyData) (hl : s.heap.IsTuple l vs.toArray) (e : EachIs R vs bs) (hal : AllAlike (bs.map k)) (hk : Sortable (bs.map k)) (hL : bs.length ≤ sizeLine)
    (hu : ∀ x, x ∈ bs → A.units + 2 + (k x).depth < cLine) (ha1 : argsOk "sorted" ⟨[.ref l], kw⟩) (ha2 : ∀ x, argsOk "list.sort" ⟨[.ref x], kw⟩) (ht : ∀ x, Builtin.«list.sort» ⟨[.ref x], kw⟩ = ksk_tree x f b)
    (turn : ∀ (v : Value) (x : β), R v x → x ∈ bs → ∀ (h : Heap) (tk : Nat), (∀ b o, s.heap.get? b = some o → h.get? b = some o) →
      wpAny (model prog w) A.in1.in1 (call f [v]) (KeyPure (k x) { s with heap := h, toks := tk }) (fun _ _ => False) { s with heap := h, toks := tk })
    (h : ∀ out c h' tk, (∀ b o, s.heap.get? b = some o → h'.get? b = some o) → s.heap.get? (s.heap.objs.size + 1) = none → h'.get? (s.heap.objs.size + 1) = some (seqObj "list" (List.toArray out) c) → out.length = bs.length → EachIs R out (bs.mergeSort (dataLe b k)) →
      Q (.ref (s.heap.objs.size + 1)) { s with heap := h', toks := tk }) :
    wpAny (model prog w) A (call (.builtin "sorted") [.ref l] kw) Q E s := by
  have fresh : s.heap.get? (s.heap.objs.size + 1) = none := Heap.get?_none_of_le (Nat.le_succ _)
  have up : ∀ {g : Heap}, KeepsBut (s.heap.objs.size + 1) (copyHeap s.heap vs) g → ∀ b o, s.heap.get? b = some o → g.get? b = some o := fun {g} kp b o q =>
    kp b o (Nat.ne_of_lt (Nat.lt_succ_of_lt (Heap.lt_size q))) (copyHeap_old q)
  refine sortedT_of_sort hl (by rw [e.length]; exact hL) ha1 ha2 fun E' => ?_
  rw [ht]
  refine keyH_tree (kz := bs.map k) (s := { s with heap := copyHeap s.heap vs }) (copyHeap_at s.heap vs) (by rw [List.length_map]; exact e.length.symm) (by rw [e.length]; exact hL) hal hk (bound_map (A := A.in1.in1) hu)
    (keyH_turns (s := { s with heap := copyHeap s.heap vs }) e fun v x hR hx h tk kp => turn v x hR hx h tk (up kp)) fun h' tk out c kp hD ko => ⟨rfl, ?_⟩
  exact h out c h' tk (up kp) fresh hD ((ko.length (by rw [List.length_map]; exact e.length.symm)).trans e.length) (keyedOut_each k ko e)
end
def maxK (p : Int × Int) : PyData := .int (max p.1 p.2)
def sortMx (row : List (Int × Int)) : List (Int × Int) := row.mergeSort (dataLe false maxK)
def rSortMax (K : PySem.W.Frag) : List V → Hp → VK → Prop := fun xs H Q => ∃ (a : Addr) (vs : List V) (row : List (Int × Int)) (R : V → Int × Int → Prop), xs = [.ref a] ∧ SqT K H a vs ∧ All2 R vs row ∧ (∀ v x, R v x → (qP qI qI).p H v x) ∧ row.length ≤ 1000 ∧
  ∀ p ys, H p = none → All2 R ys (sortMx row) → Q (.ref p) (upd H p (.lst ys))
def RV (R : V → Int × Int → Prop) (v : Value) (p : Int × Int) : Prop := ∃ y, RelV y v ∧ R y p
theorem each_rv {R : V → Int × Int → Prop} : ∀ {vs : List V} {us : List Value} {row : List (Int × Int)}, All2 R vs row → Vals vs us → EachIs (RV R) us row
  | [], _, [], _, .nil => .nil
  | v :: vs, _, x :: row, ⟨h1, h⟩, .cons r t => .cons ⟨v, r, h1⟩ (each_rv h t)
  | [], _, _ :: _, z, _ => z.elim
  | _ :: _, _, [], z, _ => z.elim
theorem rv_each {R : V → Int × Int → Prop} : ∀ {us : List Value} {row : List (Int × Int)}, EachIs (RV R) us row → ∃ vs, Vals vs us ∧ All2 R vs row
  | _, _, .nil => ⟨[], .nil, True.intro⟩
  | _, _, .cons ⟨y, h1, h2⟩ h => by
    obtain ⟨vs, a, b⟩ := rv_each h
    exact ⟨y :: vs, .cons h1 a, ⟨h2, b⟩⟩
section
variable {X : Cx}
theorem call_sortMax (hc : X.calm = true) (hu : X.A.units + 66 < cLine) {pins : List (Addr × Obj)} {s : Shared} {σ : L2.St} {H : Hp} {xs : List V} {us : List Value} {Q : VK} (I : Inv X pins σ H s) (r : Vals xs us) (h : rSortMax X.K xs H Q) :
    wpAny (model X.prog X.w) X.A (call (.builtin "sorted") us [(Str.ofString "key", .builtin "max")]) (EP X pins σ Q) X.xe s := by
  obtain ⟨a, vs, row, R, rfl, hs, ha, hRq, hl0, q⟩ := h
  obtain ⟨its, rv, hl, hz⟩ := I.tuple hs
  rw [Vals.ref1 r]
  have e := each_rv ha rv
  have lz : its.length = row.length := e.length
  refine sortedT_key (R := RV R) (b := false) maxK (show s.heap.IsTuple a its.toArray from hl) e (AllAlike.of fun _ _ => by simp [maxK, alike]) (Sortable.others fun _ => ⟨(fun z => nomatch z), (fun _ z => nomatch z)⟩) (by rw [sizeLine_eq]; omega) (fun p _ => ?_) (ksk_s1 _ _) (fun _ => ksk_l1 _ _) (fun _ => ksk_t4 _ _)
    (fun v p hv _ h tk kp => ?_) fun out c h' tk kp hf hD ho eo => ?_
  · have hd : (maxK p).depth = 0 := by simp [maxK, PyData.depth]
    omega
  · obtain ⟨y, ry, hy⟩ := hv
    obtain ⟨t, y1, y2, ey, ⟨ob, _, ht⟩, e1, e2⟩ := hRq _ _ hy
    have e1 : y1 = .int p.1 := e1
    have e2 : y2 = .int p.2 := e2
    subst ey e1 e2
    cases ry
    obtain ⟨_, _, its2, r2, o, ho, hcl, n, hd⟩ := I.hok _ _ ht
    obtain ⟨u1, u2, rfl, ri, rj⟩ := vals2 r2
    obtain ⟨t1, rfl⟩ := ri
    obtain ⟨t2, rfl⟩ := rj
    refine PySem.W.max_tuple_data (s := { s with heap := h, toks := tk }) (vs := #[.int p.1 t1, .int p.2 t2]) (x := .int p.1) (xs := [.int p.2]) (as := []) (I.ok.hd hc) ⟨o, kp _ _ ho, hcl, n, hd⟩ (.cons (.int _ _) (.cons (.int _ _) .nil)) (alike_all (p.1 :: [p.2])) ?_ fun i v h2 tk2 bs hv hr hk => ?_
    · have := dep_ints (p.1 :: [p.2])
      show X.A.units + 1 + 1 + 1 + PyData.depthAll ((p.1 :: [p.2]).map PyData.int) < cLine
      omega
    · have e3 : maxD (.int p.1) [.int p.2] = .int (max p.1 p.2) := PySem.W.maxD_ints p.1 [p.2]
      rw [e3] at hr
      cases hr
      exact ⟨h2, tk2, rfl, hk, .int _ _⟩
  · obtain ⟨ys, y1, y2⟩ := rv_each eo
    refine ⟨.ref _, upd H (s.heap.objs.size + 1) (.lst ys), I.laid (t' := tk) kp (Nat.le_succ _) ⟨?_, out, c, y1, hD⟩, rfl, q _ ys (I.hok.fresh (Nat.le_succ _)) y2⟩
    rw [All2.length y2, List.length_mergeSort, sizeLine_eq]
    omega
end
section
variable {X : Cx} {C : Cs} {env : Gh → List Sl} {a : Expr} {pos p p2 kpos : Pos}
def sortMxO (row : List (Int × Int)) : Option (List (Int × Int)) := if row.length ≤ 1000 then some (sortMx row) else none
theorem pe_sortedMax {t : TA} (hc : X.calm = true) (hu : X.A.units + 66 < cLine) (hg : Gl X "sorted") (hm : X.mg "sorted" = none) (hg2 : Gl X "max") (hm2 : X.mg "max" = none) (ha : PA X [a] t)
    (he : backTo pos (starEach [a] X.env) = (false, eval a X.env) :: backTo pos (starEach [] X.env) := by rfl) (hpl : (backTo pos (starEach [a] X.env)).any (·.1) = false := by rfl)
    (hall : (backToKw pos (keywordEach [⟨some "key", .Name "max" p2, kpos⟩] X.env)).all (·.1.isSome) = true := by rfl) (hnone : (backToKw pos (keywordEach [⟨some "key", .Name "max" p2, kpos⟩] X.env)).any (·.1.isNone) = false := by rfl) (hks : (backToKw pos (keywordEach [⟨some "key", .Name "max" p2, kpos⟩] X.env)).filterMap (·.1) = [Str.ofString "key"] := by rfl) :
    PE X (.Call (.Name "sorted" p) [a] [⟨some "key", .Name "max" p2, kpos⟩] pos) (fun σ H Q => t σ H fun vs H1 => rSortMax X.K vs H1 Q) := by
  refine ⟨fun pins s σ H Q I h => ?_⟩
  refine wpAny_Call_Name_kw (ld_blt (u := .builtin "sorted") I hg hm (by decide +kernel) ?_)
  refine PyProof.Rows.callWith_kw (thn (ha.run pos pins s σ H _ I h) fun us s1 ⟨vs, H1, I1, r1, q1⟩ => ?_) he hpl hall hnone
  show wpAny _ _ (evalAll ((do let v ← eval (.Name "max" p2) X.env; standAt pos; pure v) :: [])) _ _ s1
  refine wpAny_evalAll_cons (wpAny_bind (ld_blt (u := .builtin "max") I1 hg2 hm2 (by decide +kernel) (wpAny_bind (wpAny_standAt (wpAny_pure ?_)))))
  refine wpAny_evalAll_nil ?_
  rw [hks]
  exact call_sortMax hc hu I1 r1 q1
theorem xn_sortedMax {mx : W (List (Int × Int))} (hc : X.calm = true) (hu : X.A.units + 66 < cLine) (hg : Gl X "sorted") (hm : X.mg "sorted" = none) (hg2 : Gl X "max") (hm2 : X.mg "max" = none) (ha : PE X a (tE C env (qT (qP qI qI)) mx)) (hs : starEach [a] X.env = (false, eval a X.env) :: starEach [] X.env := by rfl)
    (he : backTo pos (starEach [a] X.env) = (false, eval a X.env) :: backTo pos (starEach [] X.env) := by rfl) (hpl : (backTo pos (starEach [a] X.env)).any (·.1) = false := by rfl)
    (hall : (backToKw pos (keywordEach [⟨some "key", .Name "max" p2, kpos⟩] X.env)).all (·.1.isSome) = true := by rfl) (hnone : (backToKw pos (keywordEach [⟨some "key", .Name "max" p2, kpos⟩] X.env)).any (·.1.isNone) = false := by rfl) (hks : (backToKw pos (keywordEach [⟨some "key", .Name "max" p2, kpos⟩] X.env)).filterMap (·.1) = [Str.ofString "key"] := by rfl) :
    PE X (.Call (.Name "sorted" p) [a] [⟨some "key", .Name "max" p2, kpos⟩] pos) (tN C env (qP qI qI) (mx.bind fun xs => ofO (sortMxO xs))) :=
  pe_imp (pe_sortedMax hc hu hg hm hg2 hm2 (pa_cons ha pa_nil hs) he hpl hall hnone hks) fun σ H Q _ ⟨S, g0, P, F, em, kk⟩ => ⟨S, g0, _, F, em, fun xs g1 ⟨z, ez, pz⟩ v S1 H1 F1 x1 ⟨t, vs, ev, ht, h2⟩ => by
    unfold sortMxO at ez
    split at ez
    · rename_i hl
      cases ez
      exact ⟨t, vs, xs, (qP qI qI).p S1, by rw [ev], TupAt.sq (TupAt.mono F1.e1 ht), h2, fun v x z => (qP qI qI).mono F1.e1 z, hl, fun u ys hu hy _ => kk _ _ pz u _ S1 H1 F1 x1 hu hy⟩
    · cases ez⟩
end
end Rt

set_option maxRecDepth 100000
set_option maxHeartbeats 4000000
/-! RtW: a generator def that hands out what a name holds till it holds None; list(..) over it. -/
namespace Rt
open PySem L2 Rt PyProof.Rows
section
variable {α β : Type}
/-- what is handed out from d on -/
def genV (dec : PyData → Option β) (f : PyData → Option PyData) : Nat → PyData → Option (List β)
  | 0, _ => none
  | n + 1, d => if isNonV d = true then some [] else (dec d).bind fun x => (f d).bind fun d' => (genV dec f n d').bind fun xs => some (x :: xs)
def SpGn (ra : Ra α) (r : Rp β) (g : α → Option (List β)) : SpG := fun vs H Q _ => ∃ S a xs, Ex S H ∧ Tc S H ∧ ra.p S vs a ∧ g a = some xs ∧ xs.length ≤ 100000 ∧
  ∀ ys S' H', Ex S S' → Ex S' H' → Ex H H' → (∀ b, S b = none → H b ≠ none → S' b = none) → Tc S' H' → All2 (r.p S') ys xs → Q ys H'
variable {X : Cx} {e1 e2 e3 test ey : Expr} {x : Str} {py yp q1 q2 q3 q4 q5 : Pos} {ra : Ra α} {r : Rp β} {i : Nat} {vs : List V} {H : Hp} {N : List Str} {Q : List V → Hp → Prop} {E : XK} {env : α → List Sl}
theorem gbody_of {f1 : α → Option Unit} {f2 : α → Option PyData} {dec : PyData → Option β} {f3 : PyData → Option PyData} (n : Nat) (h : SpGn ra r (fun a => (f1 a).bind fun _ => (f2 a).bind fun d => genV dec f3 n d) vs H Q E)
    (hp : PassesOwn (model X.prog X.w) X.A X.env X.xe) (hs : ∀ S H a, ra.p S vs a → SlAll S H (start N vs) (env a) ∧ owns (start N vs) (env a) = [])
    (p1 : ∀ (C : Cs) a, PE X e1 (tE C (fun _ => env a) qN (ofO (f1 a)))) (p2 : ∀ (C : Cs) a, PE X e2 (tE C (fun _ => env a) qV (ofO (f2 a))))
    (pt : ∀ (C : Cs) a d, PT X test (tT C (fun _ => (env a).set i (.im qV d)) (W.ret (!isNonV d)))) (pey : ∀ (C : Cs) a d, PE X ey (tE C (fun _ => (env a).set i (.im qV d)) r (ofO (dec d))))
    (p3 : ∀ (C : Cs) a d, PE X e3 (tE C (fun _ => (env a).set i (.im qV d)) qV (ofO (f3 d)))) (hN : X.N.Nodup) (hi : X.N[i]? = some x) (hx : Loc X.env.scope x) (hf : X.fn x = true)
    (s1 : swapsWith e1 none q1.line X.env = pure false) (s2 : swapsWith e2 (some (.Name x py)) q2.line X.env = pure false) (s3 : swapsWith e3 (some (.Name x q5)) q4.line X.env = pure false) (hco : X.env.scope.isCoroutine = false) (hit : interactive X.env = false) :
    ∃ t, GSs X [.Expr e1 q1, .Assign [.Name x py] e2 q2, .While test [.Expr (.Yield (some ey) yp) q3, .Assign [.Name x q5] e3 q4] [] wp] t ∧ t { nx := fun ys _ H' => Q ys H', rt := fun ys v H' => v = .non ∧ Q ys H' } [] (start N vs) H := by
  obtain ⟨S, a, xs, e, tc, hv, eo, hl, k⟩ := h
  obtain ⟨l1, l2⟩ := hs S H a hv
  obtain ⟨_, eo1, eo⟩ := Option.bind_eq_some_iff.mp eo
  obtain ⟨d0, eo2, eo⟩ := Option.bind_eq_some_iff.mp eo
  have F0 : Fr ⟨[], S, H⟩ S H (start N vs) (env a) := Fr.entry e tc l1 l2
  refine ⟨_, gss_cons (gs_ps (ps_expr (p1 ⟨[], S, H⟩ a) s1)) (gss_cons (gs_ps (ps_set hN hi hx (p2 ⟨[], S, H⟩ a) s2 (.inl hf))) (gss_cons (gs_while hp (pt_ex fun d => pt ⟨[], S, H⟩ a d) (gss_cons (gs_yield (pe_ex fun d => pey ⟨[], S, H⟩ a d) hco hit) (gss_cons (gs_ps (ps_set hN hi hx (pe_ex fun d => p3 ⟨[], S, H⟩ a d) s3 (.inl hf))) gss_nil))) gss_nil)), ?_⟩
  refine ⟨S, [], fun _ _ => True, F0, ⟨(), eo1, True.intro⟩, fun a1 g1 pa v S1 H1 F1 x1 hv1 => ?_⟩
  refine ⟨S1, [], fun d _ => d = d0, F1, ⟨d0, eo2, rfl⟩, fun d g2 pd v2 S2 H2 F2 x2 hv2 => ?_⟩
  subst pd
  refine ⟨fun m ys σ' H' => ∃ S' d done rest, Fr ⟨[], S, H⟩ S' H' σ' ((env a).set i (.im qV d)) ∧ All2 (r.p S') ys done ∧ genV dec f3 m d = some rest ∧ xs = done ++ rest, ⟨n, S2, d, [], xs, F2.setIm i hv2, True.intro, eo, rfl⟩, fun m ys σ' H' ⟨S', d', done, rest, F', hy, eg, ex⟩ => ?_⟩
  refine ⟨d', S', [], fun b _ => b = !isNonV d', F', rfl, fun b g3 pb S3 H3 F3 x3 => ?_⟩
  subst pb
  cases m with
  | zero => cases eg
  | succ m =>
    unfold genV at eg
    cases hn : isNonV d' with
    | true =>
      rw [hn, if_pos rfl] at eg
      cases eg
      rw [List.append_nil] at ex
      subst ex
      rw [if_neg (by decide)]
      exact k ys S3 H3 F3.e0 F3.e1 (fun b u e => F3.e2 b u e (by simp)) F3.nw F3.tc (hy.mono fun _ _ z => r.mono x3 z)
    | false =>
      rw [hn, if_neg (by decide)] at eg
      obtain ⟨x', ex', eg⟩ := Option.bind_eq_some_iff.mp eg
      obtain ⟨d2, ed2, eg⟩ := Option.bind_eq_some_iff.mp eg
      obtain ⟨xs', exs, eg⟩ := Option.bind_eq_some_iff.mp eg
      cases eg
      rw [if_pos (by decide)]
      have ly := All2.length hy
      have lx : xs.length = done.length + (xs'.length + 1) := by rw [ex, List.length_append, List.length_cons]
      refine ⟨fun ys' σ' H' => ∃ S' d done rest, Fr ⟨[], S, H⟩ S' H' σ' ((env a).set i (.im qV d)) ∧ All2 (r.p S') ys' done ∧ genV dec f3 m d = some rest ∧ xs = done ++ rest, fun ys' σ'' H'' h => ⟨m, Nat.lt_succ_self _, h⟩, by rw [sizeLine_eq]; omega, ?_⟩
      refine ⟨d', S3, [], fun y _ => y = x', F3, ⟨x', ex', rfl⟩, fun y g4 py v4 S4 H4 F4 x4 hv4 => ?_⟩
      subst py
      refine ⟨d', S4, [], fun y _ => y = d2, F4, ⟨d2, ed2, rfl⟩, fun dn g5 pn v5 S5 H5 F5 x5 hv5 => ?_⟩
      subst pn
      refine ⟨S5, dn, done ++ [y], xs', ?_, ?_, exs, by rw [ex, List.append_assoc]; rfl⟩
      · have := F5.setIm i (r := qV) (v := v5) (a := dn) hv5
        rw [List.set_set] at this
        exact this
      · exact All2.snoc (hy.mono fun _ _ z => r.mono (x3.trans (x4.trans x5)) z) (r.mono x5 hv4)
end
section
variable {P : Program} {w : World} {K : PySem.W.Frag} {mg : Str → Option Value} {base : Heap} {k : Nat} {f : Addr} {fd : FuncData} {x qual y : Str} {st : Stmt} {N ps : List Str} {α β : Type} {r : Rp β} {e1 e2 e3 test ey : Expr} {py yp wp q1 q2 q3 q4 q5 : Pos} {i : Nat} {env : α → List Sl} {p : Pr α}
theorem gfn_okV {f1 : α → Option Unit} {f2 : α → Option PyData} {dec : PyData → Option β} {f3 : PyData → Option PyData} (n j : Nat) (F : Fun K x qual st f fd) (S : GScope N ps (defScope st)) (hst : defBody st = [.Expr e1 q1, .Assign [.Name y py] e2 q2, .While test [.Expr (.Yield (some ey) yp) q3, .Assign [.Name y q5] e3 q4] [] wp])
    (hn : p.n = ps.length) (hN : N.length = ps.length + j) (he : ∀ a, env a = p.sl a ++ List.replicate j .un) (hi : N[i]? = some y)
    (hX : ∀ (cdv : Value) (A : Around) (outer : List Env) (s : Shared) (H : Hp) (E : XK) (pn : List (Addr × Obj)), Room k (A.deeper (PyProof.Rows.envOfC qual (defScope st) s.heap.objs.size f cdv)) → ∀ X : Cx, X = gcxOf P w K mg base N qual (defScope st) f cdv A outer s H E pn →
      (∀ (C : Cs) a, PE X e1 (tE C (fun _ => env a) qN (ofO (f1 a)))) ∧ (∀ (C : Cs) a, PE X e2 (tE C (fun _ => env a) qV (ofO (f2 a)))) ∧ (∀ (C : Cs) a d, PT X test (tT C (fun _ => (env a).set i (.im qV d)) (W.ret (!isNonV d)))) ∧ (∀ (C : Cs) a d, PE X ey (tE C (fun _ => (env a).set i (.im qV d)) r (ofO (dec d)))) ∧
      (∀ (C : Cs) a d, PE X e3 (tE C (fun _ => (env a).set i (.im qV d)) qV (ofO (f3 d)))) ∧ Loc X.env.scope y ∧ X.fn y = true ∧ swapsWith e1 none q1.line X.env = pure false ∧ swapsWith e2 (some (.Name y py)) q2.line X.env = pure false ∧ swapsWith e3 (some (.Name y q5)) q4.line X.env = pure false ∧ X.env.scope.isCoroutine = false ∧ interactive X.env = false) :
    GFn P w K mg base (k + 1) f fd ps (SpGn p.ra r (fun a => (f1 a).bind fun _ => (f2 a).bind fun d => genV dec f3 n d)) := by
  obtain ⟨oc, od, kV, doc, pm, an, cdv, ct, osl, rfl, lk, hcd⟩ := F.ex
  refine gfn_of lk hcd S (fun vs H Q E h => ?_) fun A outer s H vs Q E pn hr hsp => ?_
  · obtain ⟨_, _, _, _, _, hv, _⟩ := h
    rw [(p.ok (H := H) hv).2.2, hn]
  · obtain ⟨p1, p2, p3, p4, p5, h1, h2, h3, h4, h5, h6, h7⟩ := hX cdv A outer s H E pn hr _ rfl
    rw [hst]
    exact gbody_of (X := gcxOf P w K mg base N qual (defScope st) f cdv A outer s H E pn) n hsp owns_gcx (fun S H a hv => by rw [he a]; exact p.start (by rw [hN, hn]) hv) p1 p2 p3 p4 p5 S.nd hi h1 h2 h3 h4 h5 h6 h7
variable (P w K mg base)
def HasG (x : Str) (k : Nat) (ps : List Str) (sp : SpG) : Prop := ∃ fa fd, GFn P w K mg base k fa fd ps sp ∧ mg x = some (.ref fa) ∧ PySem.W.keepIn K (.ref fa) = true ∧ Binds K fd ps []
end
def limG {β : Type} (o : Option (List β)) : Option (List β) := o.bind fun xs => if xs.length ≤ 100000 then some xs else none
theorem passX {X : Cx} : Passes (L2.CX X.prog X.w) X E0 := fun _ _ _ _ _ _ _ h => by
  obtain ⟨_, _, _, _, _, _, _, _, _, _, _, _, h⟩ := h
  exact h.elim
section
variable {X : Cx} {C : Cs} {env : Gh → List Sl} {e : Expr} {es : List Expr} {pos pos' p p2 : Pos} {α β : Type} {ra : Ra α} {r : Rp β}
theorem xn_listG {g : α → Option (List β)} {m : W α} {j k : Nat} {ps : List Str} {x : Str} (h : HasG X.prog X.w X.K X.mg X.base x j ps (SpGn ra r g)) (hr : Room k X.A) (hj : j + 3 ≤ k) (hl : Gl X "list") (hml : X.mg "list" = none) (hg : Gl X x)
    (ha : PA X (e :: es) (tA C env ra m)) (hdb : (x == ("__debug__" : Str)) = false := by decide) (he : starEach (e :: es) X.env = (false, eval e X.env) :: starEach es X.env := by rfl) (hpl : (backTo pos' (starEach es X.env)).any (·.1) = false := by rfl)
    (he2 : starEach [.Call (.Name x p2) (e :: es) [] pos'] X.env = (false, eval (.Call (.Name x p2) (e :: es) [] pos') X.env) :: starEach [] X.env := by rfl) :
    PE X (.Call (.Name "list" p) [.Call (.Name x p2) (e :: es) [] pos'] [] pos) (tN C env r (m.bind fun a => ofO (limG (g a)))) := by
  obtain ⟨_, _, F, hm, hk, hb⟩ := h
  refine pe_imp (pe_listG (pgen_call (E := E0) F (hr.mono (by omega)) hg hm hk hb .nil ha hdb he hpl) passX (fun _ _ _ h => h.elim) (hr.mono hj) hl hml (by decide +kernel) (by decide) (by decide) he2) fun σ H Q _ ⟨S, g0, P, F0, em, kk⟩ => ⟨S, g0, _, F0, em, fun a g1 ⟨xs, exs, pxs⟩ vs S1 H1 F1 x1 hv => ?_⟩
  obtain ⟨xs', e1, e2⟩ := Option.bind_eq_some_iff.mp exs
  split at e2
  · rename_i hlen
    cases e2
    refine ⟨S1, a, xs, F1.e1, F1.tc, ?_, e1, hlen, fun ys S' H' eS eH eHH n t hy q hq _ => ?_⟩
    · rw [List.append_nil]; exact hv
    · exact kk _ _ pxs q _ S' H' (F1.call eS eH eHH n t) (x1.trans eS) hq hy
  · cases e2
end
section
variable {X : Cx} {C : Cs} {env kp : Gh → List Sl} {e : Expr} {rest : List Stmt} {pos px : Pos} {β γ ρ : Type} {r : Rp ρ} {pn : β → Gh → List Sl} {pl : γ → Gh → List Sl}
theorem xs_augI {i : Nat} {x : Str} {j : Int} {op : Operator} {f : Int → Int → Int} {m : W Int} {K : Int → W (Fl ρ β γ)} (ho : PIp X op (fun x y H Q => ∃ a b, x = .int a ∧ y = .int b ∧ Q (.int (f a b)) H)) (h : PE X e (tE C env qI m)) (hr : ∀ a, PSs X rest (tF C (fun g => (env g).set i (.im qI a)) (K a) pn pl kp r))
    (hN : X.N.Nodup) (hi : X.N[i]? = some x) (hx : Loc X.env.scope x) (hf : X.fn x = true) (he : ∀ g, (env g)[i]? = some (.im qI j) := by intro _; rfl) :
    PSs X (.AugAssign (.Name x px) op e pos :: rest) (tF C env (m.bind fun b => (W.ret (f j b)).bind K) pn pl kp r) :=
  pss_imp (pss_cons (ps_aug hN hi hx h ho (.inl hf)) (pss_ex hr)) fun D σ H _ ⟨S, g0, P, F, em, q⟩ => by
    obtain ⟨v, ev, hv⟩ := F.sl.get i (he g0)
    obtain ⟨w, ew, hw⟩ := hv
    subst ew
    have hw : w = .int j := hw
    subst hw
    exact ⟨_, ev, S, g0, _, F, em, fun b g1 pb y S1 H1 F1 x1 hy => ⟨j, b, rfl, hy, f j b, S1, g1, P, F1.setIm i (r := qI) (v := .int (f j b)) (a := f j b) rfl, pb, fun o g9 po => (q o g9 po).mono x1⟩⟩
end
end Rt

set_option maxRecDepth 100000
set_option maxHeartbeats 4000000
/-! RtX: defs that raise an own error, and a try that catches it. -/
namespace Rt
open PySem L2 Rt PyProof.Rows
def optM {α β : Type} (o : Option α) (f : α → β) (z : β) : β := match o with
  | some v => f v
  | none => z
theorem ofO_optM {α β : Type} (o : Option α) (f : α → Option β) (z : Option β) : ofO (optM o f z) = optM o (fun v => ofO (f v)) (ofO z) := by cases o <;> rfl
def PostX (S H : Hp) (k : Hp → Prop) : Prop := ∀ S' H', Ex S S' → Ex S' H' → Ex H H' → (∀ b, S b = none → H b ≠ none → S' b = none) → Tc S' H' → k H'
theorem Fr.postX {S H S' H' : Hp} {σ : L2.St} {env : List Sl} {k : Hp → Prop} (h : PostX S H k) (F : Fr ⟨[], S, H⟩ S' H' σ env) : k H' :=
  h S' H' F.e0 F.e1 (fun b u e => F.e2 b u e (by simp)) F.nw F.tc
/-- f(..) gives what f gives, or lets an error of the class at c out -/
def SpX {α ρ : Type} (c : Addr) (ra : Ra α) (r : Rp ρ) (f : α → Option (Option ρ)) : Sp := fun vs H Q E => ∃ S a o, Ex S H ∧ Tc S H ∧ ra.p S vs a ∧ f a = some o ∧ (∀ v, o = some v → Post S H r v Q) ∧ (o = none → PostX S H fun H' => E (.ref c) none H')
theorem takesX {P : Program} {w : World} {K : PySem.W.Frag} {mg : Str → Option Value} {base : Heap} {N : List Str} {qual : Str} {sc : Scope} {f : Addr} {cdv : Value} {A : Around} {outer : List Env} {s : Shared} {H : Hp} {E : XK} :
    Takes (cxOf (L2.CX P w) P w K mg base N qual sc f cdv A outer s H E) (fun cls d _ H' => E cls d H') := takes_of rfl rfl rfl rfl
section
variable {P : Program} {w : World} {K : PySem.W.Frag} {mg : Str → Option Value} {base : Heap} {p : Pr α} {N ps : List Str} {k : Nat} {st : Stmt} {x qual : Str} {f c : Addr} {fd : FuncData} {α ρ : Type} {r : Rp ρ} {env : α → List Sl} {test em e1 e2 e3 : Expr} {q1 q2 q3 : Pos} {p : Pr α}
/-- if test: raise em -/
theorem fn_okRaise {g : α → Option Bool} (j : Nat) (F : Fun K x qual st f fd) (S : FnScope N ps (defScope st)) (hst : defBody st = [.If test [.Raise (some em) none q1] [] q2]) (hn : p.n = ps.length) (hN : N.length = ps.length + j) (he : ∀ a, env a = p.sl a ++ List.replicate j .un)
    (hX : ∀ (cdv : Value) (A : Around) (outer : List Env) (s : Shared) (H : Hp) (E : XK), Room k (A.deeper (PyProof.Rows.envOfC qual (defScope st) s.heap.objs.size f cdv)) → ∀ X : Cx, X = cxOf (L2.CX P w) P w K mg base N qual (defScope st) f cdv A outer s H E →
      (∀ (C : Cs) a, PT X test (tT C (fun _ => env a) (ofO (g a)))) ∧ X.calm = true ∧ ∃ t : Str, ∀ (C : Cs) a, PMk X em (fun σ H Q => tE C (fun _ => env a) qS (W.ret t) σ H fun _ H1 => Q (.ref c) none H1)) :
    FnOk P w K mg base (L2.CX P w) (k + 1) f fd ps (SpX c p.ra qN (fun a => (g a).map fun b => if b = true then none else some ())) := by
  refine F.okX S (fun vs H Q E h => ?_) (fun cdv A outer s H vs Q E hr h => ?_)
  · obtain ⟨_, _, _, _, _, hv, _⟩ := h
    rw [(p.ok (H := H) hv).2.2, hn]
  · obtain ⟨S0, a, o, e, tc, hv, eo, k1, k2⟩ := h
    obtain ⟨pt, hc, t, pm⟩ := hX cdv A outer s H E hr _ rfl
    obtain ⟨b0, eb, eo⟩ := Option.map_eq_some_iff.mp eo
    obtain ⟨l1, l2⟩ := p.start (N := N) (j := j) (by rw [hN, hn]) (H := H) hv
    have F0 : Fr ⟨[], S0, H⟩ S0 H (start N vs) (env a) := by rw [he a]; exact Fr.entry e tc l1 l2
    rw [hst]
    refine ⟨_, pss_cons (ps_if (pt ⟨[], S0, H⟩ a) (pss_cons (ps_raise hc takesX (pm ⟨[], S0, H⟩ a)) pss_nil) pss_nil) pss_nil, ?_⟩
    refine ⟨S0, [], fun b _ => b = b0, F0, ⟨b0, eb, rfl⟩, fun b g1 pb S1 H1 F1 x1 => ?_⟩
    subst pb
    cases b with
    | true =>
      rw [if_pos rfl]
      exact ⟨S1, [], fun _ _ => True, F1, True.intro, fun y g2 py v S2 H2 F2 x2 hv2 => F2.postX (k2 eo.symm)⟩
    | false =>
      rw [if_neg (by decide)]
      exact F1.post (k1 () eo.symm) (show qN.p S1 .non () from rfl)
/-- e1; e2, which may raise; return e3 -/
theorem fn_okSeqX {g1 : α → Option Unit} {g2 : α → Option (Option Unit)} {g3 : α → Option ρ} (j : Nat) (F : Fun K x qual st f fd) (S : FnScope N ps (defScope st)) (hst : defBody st = [.Expr e1 q1, .Expr e2 q2, .Return (some e3) q3]) (hn : p.n = ps.length) (hN : N.length = ps.length + j) (he : ∀ a, env a = p.sl a ++ List.replicate j .un)
    (hX : ∀ (cdv : Value) (A : Around) (outer : List Env) (s : Shared) (H : Hp) (E : XK), Room k (A.deeper (PyProof.Rows.envOfC qual (defScope st) s.heap.objs.size f cdv)) → ∀ X : Cx, X = cxOf (L2.CX P w) P w K mg base N qual (defScope st) f cdv A outer s H E →
      (∀ (C : Cs) a, PE X e1 (tE C (fun _ => env a) qN (ofO (g1 a)))) ∧ (∃ (α2 : Type) (ra2 : Ra α2) (h2 : α2 → Option (Option Unit)) (i2 : α → α2), (∀ a, g2 a = h2 (i2 a)) ∧ ∀ (C : Cs) a, PE X e2 (fun σ H Q => ∃ t : TA, (t = tA C (fun _ => env a) ra2 (W.ret (i2 a))) ∧ t σ H fun vs H1 => SpX c ra2 qN h2 vs H1 Q (fun cls d H' => E cls d H'))) ∧ (∀ (C : Cs) a, PE X e3 (tE C (fun _ => env a) r (ofO (g3 a)))) ∧ swapsWith e1 none q1.line X.env = pure false ∧ swapsWith e2 none q2.line X.env = pure false) :
    FnOk P w K mg base (L2.CX P w) (k + 1) f fd ps (SpX c p.ra r (fun a => (g1 a).bind fun _ => (g2 a).bind fun o => match o with | none => some none | some _ => (g3 a).map some)) := by
  refine F.okX S (fun vs H Q E h => ?_) (fun cdv A outer s H vs Q E hr h => ?_)
  · obtain ⟨_, _, _, _, _, hv, _⟩ := h
    rw [(p.ok (H := H) hv).2.2, hn]
  · obtain ⟨S0, a, o, e, tc, hv, eo, k1, k2⟩ := h
    obtain ⟨p1, ⟨α2, ra2, h2, i2, e2', p2⟩, p3, s1, s2⟩ := hX cdv A outer s H E hr _ rfl
    obtain ⟨_, eo1, eo⟩ := Option.bind_eq_some_iff.mp eo
    obtain ⟨o2, eo2, eo⟩ := Option.bind_eq_some_iff.mp eo
    obtain ⟨l1, l2⟩ := p.start (N := N) (j := j) (by rw [hN, hn]) (H := H) hv
    have F0 : Fr ⟨[], S0, H⟩ S0 H (start N vs) (env a) := by rw [he a]; exact Fr.entry e tc l1 l2
    rw [hst]
    refine ⟨_, pss_cons (ps_expr (p1 ⟨[], S0, H⟩ a) s1) (pss_cons (ps_expr (p2 ⟨[], S0, H⟩ a) s2) (pss_cons (ps_ret (p3 ⟨[], S0, H⟩ a)) pss_never)), ?_⟩
    refine ⟨S0, [], fun _ _ => True, F0, ⟨(), eo1, True.intro⟩, fun a1 g1' pa v S1 H1 F1 x1 hv1 => ?_⟩
    refine ⟨_, rfl, S1, [], fun y _ => y = i2 a, F1, rfl, fun y g2' py vs2 S2 H2 F2 x2 hv2 => ?_⟩
    subst py
    refine ⟨S2, i2 a, o2, F2.e1, F2.tc, hv2, by rw [← e2', eo2], fun u eu v S' H' eS eH eHH n t hr' => ?_, fun en S' H' eS eH eHH n t => ?_⟩
    · subst eu
      obtain ⟨v3, ev3, eo⟩ := Option.map_eq_some_iff.mp eo
      have F3 := F2.call eS eH eHH n t
      exact ⟨S', [], fun y _ => y = v3, F3, ⟨v3, ev3, rfl⟩, fun y g4 py v4 S4 H4 F4 x4 hv4 => by
        subst py
        exact F4.post (k1 _ eo.symm) hv4⟩
    · subst en
      cases eo
      exact (F2.call eS eH eHH n t).postX (k2 rfl)
end
section
variable {X : Cx} {C : Cs} {env kp : Gh → List Sl} {x y : Str} {e eh : Expr} {es : List Expr} {rest : List Stmt} {pos np pos' pp p q1 q2 : Pos} {α ρ β γ : Type} {r : Rp ρ} {ra : Ra α} {pn : β → Gh → List Sl} {pl : γ → Gh → List Sl} {c f : Addr} {fd : FuncData} {ps : List Str} {k : Nat}
/-- try: return y(e, ..) / except x: return eh -/
theorem xs_tryRet {g : α → Option (Option ρ)} {m : W α} {mh : W ρ} (hs : X.stack = X.env :: X.outer) (hf : X.env.frame = some X.env.locals) (hc : Names X x (.ref c)) (hxm : PySem.W.exmOne X.K (.ref c) (.ref c) = some true) (tk : Takes X (fun _ _ _ _ => False))
    (F : FnOk X.prog X.w X.K X.mg X.base (L2.CX X.prog X.w) k f fd ps (SpX c ra r g)) (hr : Room k X.A) (hg : Gl X y) (hm : X.mg y = some (.ref f)) (hk : PySem.W.keepIn X.K (.ref f) = true) (hb : Binds X.K fd ps [])
    (ha : ∀ pn xe, PA (X.tr pn xe) (e :: es) (tA C env ra m)) (hh : ∀ a pn, PE (X.suite a pn) eh (tE C env r mh)) (hdb : (y == ("__debug__" : Str)) = false := by decide) (he : starEach (e :: es) X.env = (false, eval e X.env) :: starEach es X.env := by rfl) (hpl : (backTo pp (starEach es X.env)).any (·.1) = false := by rfl) (hkp : Kp env kp := by first | exact ⟨0, fun _ => rfl⟩ | exact ⟨1, fun _ => rfl⟩) :
    PSs X (.Try [.Return (some (.Call (.Name y p) (e :: es) [] pp)) q1] [.ExceptHandler (some (.Name x np)) none [.Return (some eh) q2] pos'] [] [] pos :: rest) (tF C env ((m.bind fun a => (ofO (g a)).bind fun o => optM o (fun v => .ret v) mh).bind fun v => .ret (.rt v)) pn pl kp r) :=
  pss_imp (pss_cons (ps_try_only (c := .ref c) (ts := fun _ _ _ => tSeq (tRet (tE C env r mh)) (fun _ _ _ => False)) (tb := fun W => tSeq (tRet (tCallS (SpX c ra r g) (WE W) (tA C env ra m))) (fun _ _ _ => False)) hs hf hc tk
      (fun W pn xe tkw _ => pss_cons (ps_ret (pe_callS (X := X.tr pn xe) F hr hg hm hk hb (passAt tkw) (ha pn xe) hdb he hpl)) pss_never)
      (fun a oe cls d pn _ _ => pss_cons (ps_ret (hh a _)) pss_never)) pss_never) fun D σ H _ ⟨S, g0, P, F0, em, q⟩ => by
    refine ⟨S, g0, _, F0, em, fun a g1 ⟨o, eo, po⟩ vs S1 H1 F1 x1 hv => ?_⟩
    refine ⟨S1, a, o, F1.e1, F1.tc, hv, eo, fun v ev w S' H' eS eH eHH n t hw => ?_, fun en S' H' eS eH eHH n t => ?_⟩
    · subst ev
      obtain ⟨σ', F'⟩ := (F1.call eS eH eHH n t).kp hkp
      exact q _ g1 po w S' H' σ' F' (x1.trans eS) hw
    · subst en
      have F2 := F1.call eS eH eHH n t
      refine ⟨true, hxm, fun _ z hz => ?_, fun z => nomatch z⟩
      exact ⟨S', g1, _, F2, po, fun v g2 pv w S3 H3 F3 x3 hw => by
        obtain ⟨σ', F'⟩ := F3.kp hkp
        exact q _ g2 pv w S3 H3 σ' F' (x1.trans (eS.trans x3)) hw⟩
end
/-! ### in another dress: tuples and pairs of values -/
section
variable {X : Cx} {C : Cs} {env : Gh → List Sl} {e : Expr} {α β : Type} {r : Rp α} {q : Rp β}
theorem all2_enc (E : Ve r) {H : Hp} : ∀ {vs : List V} {xs : List α}, All2 (r.p H) vs xs → All2 (qV.p H) vs (xs.map E.enc)
  | [], [], _ => True.intro
  | _ :: _, _ :: _, ⟨a, b⟩ => ⟨E.rep a, all2_enc E b⟩
  | [], _ :: _, z => z.elim
  | _ :: _, [], z => z.elim
theorem xe_encT {m : W (List α)} (E : Ve r) (h : PE X e (tE C env (qT r) m)) : PE X e (tE C env (qT qV) (m.bind fun xs => .ret (xs.map E.enc))) := xe_as (r := qT r) (rb := qT qV) (fun H v a ⟨p, vs, h1, h2, h3⟩ => ⟨p, vs, h1, h2, all2_enc E h3⟩) h
theorem xe_encP1 {m : W (α × β)} (E : Ve r) (h : PE X e (tE C env (qP r q) m)) : PE X e (tE C env (qP qV q) (m.bind fun x => .ret (E.enc x.1, x.2))) := xe_as (r := qP r q) (rb := qP qV q) (fun H v a ⟨p, x, y, h1, h2, h3, h4⟩ => ⟨p, x, y, h1, h2, E.rep h3, h4⟩) h
end
/-! ### by name -/
/-- what the written part says of an own error's class -/
structure ExcT (K : PySem.W.Frag) (mg : Str → Option Value) (x : Str) (c : Addr) : Prop where
  gC : mg x = some (.ref c)
  kC : PySem.W.keepIn K (.ref c) = true
  q : ∃ bm, ExcBaseFacts "ValueError" "ValueError.__new__" "ValueError.__init__" bm ∧ PySem.W.excIn K c bm "ValueError.__new__" = true
  sub : PySem.W.subIn K (.ref c) (.type "BaseException") = some true
  ty : PySem.W.typeIn K (.ref c) = some (.type "type")
  te : PySem.W.exmOne K (.ref c) (.ref c) = some true
theorem exmS {K : PySem.W.Frag} {c : Addr} (h1 : PySem.W.subIn K (.ref c) (.type "BaseException") = some true) (h2 : PySem.W.isClsIn K c = true) (h3 : PySem.W.typeIn K (.ref c) = some (.type "type")) (h4 : PySem.W.subIn K (.ref c) (.ref c) = some true) : PySem.W.exmOne K (.ref c) (.ref c) = some true := by
  have h5 : (PySem.W.clsIn K c).isSome = true := h2
  unfold PySem.W.exmOne PySem.W.kitCls
  simp [h1, h3, h4, h5]
def HasX (P : Program) (w : World) (K : PySem.W.Frag) (mg : Str → Option Value) (base : Heap) (x : Str) (k : Nat) (ps : List Str) (sp : Sp) : Prop := ∃ fa fd, FnOk P w K mg base (L2.CX P w) k fa fd ps sp ∧ mg x = some (.ref fa) ∧ PySem.W.keepIn K (.ref fa) = true ∧ Binds K fd ps []
section
variable {X : Cx} {C : Cs} {env kp : Gh → List Sl} {x y : Str} {e eh : Expr} {es : List Expr} {rest : List Stmt} {pos np pos' pp p q1 q2 : Pos} {α ρ β γ : Type} {r : Rp ρ} {ra : Ra α} {pn : β → Gh → List Sl} {pl : γ → Gh → List Sl} {c : Addr} {ps : List Str} {j k : Nat} {E : XK}
theorem pe_callX {g : α → Option (Option ρ)} {m : W α} (h : HasX X.prog X.w X.K X.mg X.base y j ps (SpX c ra r g)) (hr : Room k X.A) (hj : j ≤ k) (tk : Takes X (fun cls d _ H' => E cls d H')) (hg : Gl X y) (ha : PA X (e :: es) (tA C env ra m)) (hdb : (y == ("__debug__" : Str)) = false := by decide) (he : starEach (e :: es) X.env = (false, eval e X.env) :: starEach es X.env := by rfl) (hpl : (backTo pp (starEach es X.env)).any (·.1) = false := by rfl) :
    PE X (.Call (.Name y p) (e :: es) [] pp) (fun σ H Q => ∃ t : TA, t = tA C env ra m ∧ t σ H fun vs H1 => SpX c ra r g vs H1 Q (fun cls d H' => E cls d H')) := by
  obtain ⟨_, _, F, hm, hk, hb⟩ := h
  refine ⟨fun pins s σ H Q I ⟨t, et, h⟩ => ?_⟩
  subst et
  exact (pe_callS F (hr.mono hj) hg hm hk hb (passAt tk) ha hdb he hpl).run pins s σ H Q I h
theorem pmk_x {a : Expr} {te : TE} (T : ExcT X.K X.mg x c) (hg : Gl X x) (he : PE X a te) (hs : starEach [a] X.env = (false, eval a X.env) :: starEach [] X.env := by rfl) (hdb : (x == ("__debug__" : Str)) = false := by decide) :
    PMk X (.Call (.Name x p) [a] [] pos) (fun σ H Q => te σ H fun _ H1 => Q (.ref c) none H1) := by
  obtain ⟨bm, F, q⟩ := T.q
  exact SkE.pmk_own1 F q T.gC T.kC (raises_own T.sub T.ty) hg he hs hdb
theorem spx_enc (E : Ve r) {g : α → Option (Option ρ)} {vs : List V} {H : Hp} {Q : VK} {E' : XK} (h : SpX c ra qV (fun a => (g a).map fun o => o.map E.enc) vs H Q E') : SpX c ra r g vs H Q E' := by
  obtain ⟨S, a, o, e, t, hv, eo, k1, k2⟩ := h
  obtain ⟨o', eo2, rfl⟩ := Option.map_eq_some_iff.mp eo
  refine ⟨S, a, o', e, t, hv, eo2, fun v ev => ?_, fun en => ?_⟩
  · subst ev
    exact fun w S' H' a1 a2 a3 a4 a5 hw => k1 _ rfl w S' H' a1 a2 a3 a4 a5 (E.rep hw)
  · subst en
    exact k2 rfl
theorem xs_tryX {g : α → Option (Option ρ)} {m : W α} {mh : W PyData} (E : Ve r) (h : HasX X.prog X.w X.K X.mg X.base y j ps (SpX c ra r g)) (T : ExcT X.K X.mg x c) (hgx : Gl X x) (hs : X.stack = X.env :: X.outer) (hf : X.env.frame = some X.env.locals)
    (hr : Room k X.A) (hj : j ≤ k) (hg : Gl X y) (ha : ∀ pn xe, PA (X.tr pn xe) (e :: es) (tA C env ra m)) (hh : ∀ a pn, PE (X.suite a pn) eh (tE C env qV mh)) (hdx : (x == ("__debug__" : Str)) = false := by decide) (hdb : (y == ("__debug__" : Str)) = false := by decide)
    (he : starEach (e :: es) X.env = (false, eval e X.env) :: starEach es X.env := by rfl) (hpl : (backTo pp (starEach es X.env)).any (·.1) = false := by rfl) (hkp : Kp env kp := by first | exact ⟨0, fun _ => rfl⟩ | exact ⟨1, fun _ => rfl⟩) :
    PSs X (.Try [.Return (some (.Call (.Name y p) (e :: es) [] pp)) q1] [.ExceptHandler (some (.Name x np)) none [.Return (some eh) q2] pos'] [] [] pos :: rest) (tF C env ((m.bind fun a => (ofO ((g a).map fun o => o.map E.enc)).bind fun o => optM o (fun v => .ret v) mh).bind fun v => .ret (.rt v)) pn pl kp qV) := by
  obtain ⟨_, _, F, hm, hk, hb⟩ := h
  exact xs_tryRet (r := qV) (g := fun a => (g a).map fun o => o.map E.enc) hs hf ⟨hgx, hdx, .inl T.gC⟩ T.te takes0 (F.imp fun vs H Q E' q => spx_enc E q) (hr.mono hj) hg hm hk hb ha hh hdb he hpl hkp
end
end Rt

set_option maxRecDepth 100000
set_option maxHeartbeats 4000000
/-! RtR: texts of data (repr), where no repr is under way; methods of tuples; three targets at once. -/
namespace Rt
open PySem L2 Rt PyProof.Rows
def isSeqD : PyData → Bool
  | .list _ => true
  | .tuple _ => true
  | _ => false
def reprC (d : PyData) : Option Str := if isSeqD d = true ∧ d.showable = true ∧ d.hasDict = false ∧ d.depth ≤ 50 ∧ d.shown.length ≤ 1000000 then some d.shown else none
theorem call_reprD {X : Cx} (hG : X.A.guards = some []) (hu : X.A.units + 64 < cLine) : CallR X (.builtin "repr") (fun xs H Q => ∃ v d z, xs = [v] ∧ Dp X.K H v d ∧ reprC d = some z ∧ Q (.str z) H) := by
  intro pins s σ H xs us Q I r ⟨v, d, z, ex, hd, ez, q⟩
  subst ex
  obtain ⟨u, rfl, rx⟩ := vals1 r
  unfold reprC at ez
  split at ez
  case isFalse => cases ez
  rename_i c
  cases ez
  obtain ⟨c1, c2, c3, c4, c5⟩ := c
  obtain ⟨as, hr⟩ := Dp.reads I d v u hd rx
  have ha : ∃ a, u = .ref a := by
    cases hd with
    | lst _ _ => exact ⟨_, rx⟩
    | tup _ _ => exact ⟨_, rx⟩
    | _ => cases c1
  obtain ⟨a, rfl⟩ := ha
  exact repr_of_reads' (h₀ := s.heap) hr c2 (fun h => by rw [c3] at h; cases h) hG (by omega) (fun _ _ e => e) (fun h' u tk hk => ⟨.str _, H, I.kept (t' := tk) hk, ⟨_, rfl⟩, q⟩) (by rw [sizeLine_eq]; omega)
section
variable {X : Cx} {C : Cs} {env kp : Gh → List Sl} {a b c e : Expr} {pos p px pa pc : Pos} {α β γ : Type} {r ra : Rp α} {rb : Rp β} {rc : Rp γ} {mi : W Int}
theorem xe_reprD {md : W PyData} (hG : X.A.guards = some []) (hu : X.A.units + 64 < cLine) (hg : Gl X "repr") (hm : X.mg "repr" = none) (ha : PE X a (tE C env (qD X.K) md)) (hs : starEach [a] X.env = (false, eval a X.env) :: starEach [] X.env := by rfl) :
    PE X (.Call (.Name "repr" p) [a] [] pos) (tE C env qS (md.bind fun d => ofO (reprC d))) :=
  pe_imp (pe_callB (call_reprD hG hu) hg hm (by decide +kernel) (pa_cons ha pa_nil hs) (by decide) (by decide) hs (by rfl)) fun σ H Q _ ⟨S, g0, P, F, em, kk⟩ => ⟨S, g0, _, F, em, fun d g1 ⟨z, ez, pz⟩ v S1 H1 F1 x1 hv =>
    ⟨v, d, z, rfl, (qD X.K).mono F1.e1 hv, ez, fun _ => kk z _ pz _ S1 H1 F1 x1 rfl⟩⟩
/-! ### t.index(x), t.count(x) of ints -/
theorem xe_tindex {mx : W (List Int)} (ha : PE X a (tE C env (qT qI) mx)) (hb : PE X b (tE C env qI mi)) (hbase : attributeBase a "index" X.env (eval a X.env) = eval a X.env := by rfl)
    (hfew : ((backTo pc (starEach [b] X.env)).all (fun x => !x.1) && (backToKw pc (keywordEach [] X.env)).all (fun x => x.1.isSome) && decide (([b] : List Expr).length + ([] : List Keyword).length + (if ([] : List Keyword).isEmpty then 0 else 1) < 30)) = true := by rfl)
    (hline : (pa.endLine == pc.line) = true := by rfl) (hs : starEach [b] X.env = (false, eval b X.env) :: starEach [] X.env := by rfl) : PE X (.Call (.Attribute a "index" pa) [b] [] pc) (tE C env qI (mx.bind fun xs => mi.bind fun v => ofO (idxC xs v))) :=
  pe_imp (RtU.pe_bmU PySem.F.slot_tuple_index PySem.F.type_tuple_index RtU.mt_indexU ha (pa_cons hb pa_nil hs) hbase hfew hline hs (by rfl)) fun σ H Q _ ⟨S, g0, P, F, em, k⟩ => ⟨S, g0, _, F, em, fun xs g1 px v S1 H1 F1 x1 ⟨p, vs, ev, hp, h2⟩ =>
    ⟨⟨p, hp.choose, vs, ev, hp.choose_spec.1, F1.e1 _ _ hp.choose_spec.2⟩, S1, g1, _, F1, px, fun i g2 ⟨z, ez, pz⟩ u S2 H2 F2 x2 hu => by
      subst ev
      have e3 : vs = xs.map V.int := flat_ints h2
      subst e3
      unfold idxC at ez
      obtain ⟨n, en, rfl⟩ := Option.map_eq_some_iff.mp ez
      obtain ⟨q1, q2⟩ := idx_at en
      rw [show u = V.int i from hu]
      exact ⟨p, _, .int i, n, .int i, rfl, rfl, TupAt.sq (TupAt.mono F2.e1 (TupAt.mono x2 hp)), rfl, all_flat xs, q1, by show (i == i) = true; simp, q2, fun _ => k _ _ pz _ S2 H2 F2 (x1.trans x2) rfl⟩⟩⟩
def cntI (xs : List Int) (v : Int) : Int := ((xs.countP fun y => decide (y = v) : Nat) : Int)
theorem cnt_eqV (v : Int) : ∀ xs : List Int, (xs.map V.int).countP (fun z => eqV z (.int v)) = xs.countP fun y => decide (y = v)
  | [] => rfl
  | x :: xs => by
    rw [List.map_cons, List.countP_cons, List.countP_cons, cnt_eqV v xs]
    congr 1
theorem xe_tcount {mx : W (List Int)} (ha : PE X a (tE C env (qT qI) mx)) (hb : PE X b (tE C env qI mi)) (hbase : attributeBase a "count" X.env (eval a X.env) = eval a X.env := by rfl)
    (hfew : ((backTo pc (starEach [b] X.env)).all (fun x => !x.1) && (backToKw pc (keywordEach [] X.env)).all (fun x => x.1.isSome) && decide (([b] : List Expr).length + ([] : List Keyword).length + (if ([] : List Keyword).isEmpty then 0 else 1) < 30)) = true := by rfl)
    (hline : (pa.endLine == pc.line) = true := by rfl) (hs : starEach [b] X.env = (false, eval b X.env) :: starEach [] X.env := by rfl) : PE X (.Call (.Attribute a "count" pa) [b] [] pc) (tE C env qI (mx.bind fun xs => mi.bind fun v => .ret (cntI xs v))) :=
  pe_imp (RtU.pe_bmU PySem.F.slot_tuple_count PySem.F.type_tuple_count RtU.mt_countU ha (pa_cons hb pa_nil hs) hbase hfew hline hs (by rfl)) fun σ H Q _ ⟨S, g0, P, F, em, k⟩ => ⟨S, g0, _, F, em, fun xs g1 px v S1 H1 F1 x1 ⟨p, vs, ev, hp, h2⟩ =>
    ⟨⟨p, hp.choose, vs, ev, hp.choose_spec.1, F1.e1 _ _ hp.choose_spec.2⟩, S1, g1, _, F1, px, fun i g2 pz u S2 H2 F2 x2 hu => by
      subst ev
      have e3 : vs = xs.map V.int := flat_ints h2
      subst e3
      rw [show u = V.int i from hu]
      exact ⟨p, _, .int i, rfl, rfl, TupAt.sq (TupAt.mono F2.e1 (TupAt.mono x2 hp)), rfl, all_flat xs, fun _ => k _ _ pz _ S2 H2 F2 (x1.trans x2) (by rw [cnt_eqV]; rfl)⟩⟩⟩
/-! ### a, b, c = a list of three -/
theorem xe_unL3 {m : W (List α)} (h : PE X e (tE C env (qL ra) m)) : PE X e (tE C env (⟨fun H v (x : α × α × α) => (qL ra).p H v [x.1, x.2.1, x.2.2], fun e h => (qL ra).mono e h⟩ : Rp (α × α × α)) (m.bind fun x => ofO (three x))) :=
  xe_asO (ra := qL ra) (rb := (⟨fun H v (x : α × α × α) => (qL ra).p H v [x.1, x.2.1, x.2.2], fun e h => (qL ra).mono e h⟩ : Rp (α × α × α))) (fun H v a b h e => by
    match a, e with
    | [x, y, z], e =>
      cases e
      exact h) h
theorem xg_tripleL {up1 up2 up3 : Up α} {kk : Nat} (hc : X.calm = true) (h1 : PG X a (tG ra up1)) (h2 : PG X b (tG ra up2)) (h3 : PG X c (tG ra up3))
    (hs : (assignEach [a, b, c] X.env).map (·.2) = assign a X.env :: (assignEach [b, c] X.env).map (·.2) := by rfl) (hs2 : (assignEach [b, c] X.env).map (·.2) = assign b X.env :: (assignEach [c] X.env).map (·.2) := by rfl) (hs3 : (assignEach [c] X.env).map (·.2) = assign c X.env :: (assignEach [] X.env).map (·.2) := by rfl)
    (hn : (assignEach [a, b, c] X.env).length = 3 := by rfl) (hst : (assignEach [a, b, c] X.env).findIdx? (·.1) = none := by rfl) :
    PG X (.Tuple [a, b, c] kk pos) (tG (⟨fun H v (x : α × α × α) => (qL ra).p H v [x.1, x.2.1, x.2.2], fun e h => (qL ra).mono e h⟩ : Rp (α × α × α)) (uP3 up1 up2 up3)) :=
  pg_imp (pg_lst hc (pgs_cons h1 (pgs_cons h2 (pgs_cons h3 pgs_nil hs3) hs2) hs) hn hst) fun v σ H Q ⟨C, S, env, x, F, ⟨p, vs, ev, hp, hall⟩, q⟩ => by
    match vs, hall with
    | [v1, v2, v3], ⟨r1, r2, r3, _⟩ =>
      exact ⟨p, [v1, v2, v3], ev, SqL.of (F.e1 _ _ hp), rfl, v1, [v2, v3], rfl, C, S, env, x.1, F, r1, fun σ1 l1 n1 F1 => ⟨v2, [v3], rfl, C, S, _, x.2.1, F1, r2, fun σ2 l2 n2 F2 => ⟨v3, [], rfl, C, S, _, x.2.2, F2, r3, fun σ3 l3 n3 F3 => ⟨rfl, q σ3 (l3.trans (l2.trans l1)) (fun i hi => by
        have hi : i ∉ up1.js ++ (up2.js ++ up3.js) := hi
        simp at hi
        rw [n3 i hi.2.2, n2 i hi.2.1, n1 i hi.1]) F3⟩⟩⟩⟩
end
/-! ### a tuple of texts of the module's own -/
def TupG (K : PySem.W.Frag) (p : Addr) (xs : List Str) : Prop := ∀ H, SqT K H p (xs.map V.str)
theorem tupG_mk {K : PySem.W.Frag} {p : Addr} {its : Array Value} {n : Nat} {dn : Option Addr} {sl : Array (Option Value)} {xs : List Str} (l : K.lookup p = some ⟨.type "tuple", dn, .seq its n, sl⟩) (z : its.size ≤ sizeLine) (hv : Vals (xs.map V.str) its.toList) : TupG K p xs :=
  fun H => .inr ⟨_, its, n, l, rfl, rfl, z, hv⟩
theorem inV_str (x : Str) : ∀ xs : List Str, inV (.str x) (xs.map V.str) = xs.any fun y => decide (y = x)
  | [] => rfl
  | y :: xs => by
    have ih := inV_str x xs
    unfold inV at ih ⊢
    rw [List.map_cons, List.any_cons, List.any_cons, ih]
    congr 1
section
variable {X : Cx} {C : Cs} {env : Gh → List Sl} {a b : Expr} {x : Str} {pos p px : Pos} {ms : W Str} {q : Addr} {xs : List Str}
theorem cq_inG {op : CmpOp} {neg : Bool} (ho : OpR X (compareOp op) (rIn X.K neg)) (ha : PE X a (tE C env qS ms)) (hg : Gl X x) (hm : X.mg x = some (.ref q)) (hK : TupG X.K q xs) (hk : behindInMarks op (.Name x px) = false) (hd : (x == ("__debug__" : Str)) = false) :
    PE X (.Compare a [op] [.Name x px] pos) (tE C env qB (ms.bind fun i => .ret (if neg then !(xs.any fun y => decide (y = i)) else xs.any fun y => decide (y = i)))) :=
  pe_imp (pe_cmpR ho ha (pe_glob (v := .ref q) hg hm rfl hd) hk) fun σ H Q _ ⟨S, g0, P, F, em, kk⟩ => ⟨S, g0, _, F, em, fun i g1 pi v S1 H1 F1 x1 hv => by
    rw [show v = .str i from hv]
    exact ⟨q, _, rfl, .inr (hK H1), rfl, flat_strs xs, fun _ => kk _ _ pi _ S1 H1 F1 x1 (by rw [inV_str]; rfl)⟩⟩
theorem ct_inG {op : CmpOp} {neg : Bool} (ho : OpR X (compareOp op) (rIn X.K neg)) (ha : PE X a (tE C env qS ms)) (hg : Gl X x) (hm : X.mg x = some (.ref q)) (hK : TupG X.K q xs) (hk : behindInMarks op (.Name x px) = false) (hd : (x == ("__debug__" : Str)) = false) :
    PT X (.Compare a [op] [.Name x px] pos) (tT C env (ms.bind fun i => .ret (if neg then !(xs.any fun y => decide (y = i)) else xs.any fun y => decide (y = i)))) :=
  pt_imp (pt_cmpR ho ha (pe_glob (v := .ref q) hg hm rfl hd) hk) fun σ H Q _ ⟨S, g0, P, F, em, kk⟩ => ⟨S, g0, _, F, em, fun i g1 pi v S1 H1 F1 x1 hv => by
    rw [show v = .str i from hv]
    exact ⟨q, _, rfl, .inr (hK H1), rfl, flat_strs xs, _, rfl, fun _ => by
      rw [inV_str]
      exact kk _ _ pi S1 H1 F1 x1⟩⟩
theorem xe_inG (ha : PE X a (tE C env qS ms)) (hg : Gl X x) (hK : ∃ q, X.mg x = some (.ref q) ∧ TupG X.K q xs) (hk : behindInMarks .In (.Name x px) = false := by with_unfolding_all rfl) (hd : (x == ("__debug__" : Str)) = false := by decide) :
    PE X (.Compare a [.In] [.Name x px] pos) (tE C env qB (ms.bind fun i => .ret (xs.any fun y => decide (y = i)))) := let ⟨_, h1, h2⟩ := hK; cq_inG (neg := false) op_in_seq ha hg h1 h2 hk hd
theorem xt_inG (ha : PE X a (tE C env qS ms)) (hg : Gl X x) (hK : ∃ q, X.mg x = some (.ref q) ∧ TupG X.K q xs) (hk : behindInMarks .In (.Name x px) = false := by with_unfolding_all rfl) (hd : (x == ("__debug__" : Str)) = false := by decide) :
    PT X (.Compare a [.In] [.Name x px] pos) (tT C env (ms.bind fun i => .ret (xs.any fun y => decide (y = i)))) := let ⟨_, h1, h2⟩ := hK; ct_inG (neg := false) op_in_seq ha hg h1 h2 hk hd
theorem xe_ninG (ha : PE X a (tE C env qS ms)) (hg : Gl X x) (hK : ∃ q, X.mg x = some (.ref q) ∧ TupG X.K q xs) (hk : behindInMarks .NotIn (.Name x px) = false := by with_unfolding_all rfl) (hd : (x == ("__debug__" : Str)) = false := by decide) :
    PE X (.Compare a [.NotIn] [.Name x px] pos) (tE C env qB (ms.bind fun i => .ret !(xs.any fun y => decide (y = i)))) := let ⟨_, h1, h2⟩ := hK; cq_inG (neg := true) op_notIn_seq ha hg h1 h2 hk hd
theorem xt_ninG (ha : PE X a (tE C env qS ms)) (hg : Gl X x) (hK : ∃ q, X.mg x = some (.ref q) ∧ TupG X.K q xs) (hk : behindInMarks .NotIn (.Name x px) = false := by with_unfolding_all rfl) (hd : (x == ("__debug__" : Str)) = false := by decide) :
    PT X (.Compare a [.NotIn] [.Name x px] pos) (tT C env (ms.bind fun i => .ret !(xs.any fun y => decide (y = i)))) := let ⟨_, h1, h2⟩ := hK; ct_inG (neg := true) op_notIn_seq ha hg h1 h2 hk hd
end
theorem units64 {k : Nat} {A : Around} (r : Room k A) : A.units + 64 < cLine := by
  have := r.un
  omega
theorem units66 {k : Nat} {A : Around} (r : Room k A) : A.units + 66 < cLine := by
  have := r.un
  omega
end Rt

set_option maxRecDepth 100000
set_option maxHeartbeats 4000000
/-! RtY: x, y = a new list, b, one of the two names a cell. -/
namespace Rt
open PySem L2 Rt PyProof.Rows
section
variable {X : Cx} {C : Cs} {env kp : Gh → List Sl} {e a b : Expr} {es : List Expr} {rest : List Stmt} {pos p px : Pos} {α β γ ρ : Type} {r : Rp ρ} {pn : β → Gh → List Sl} {pl : γ → Gh → List Sl}
theorem xs_parN1c {i j : Nat} {x y : Str} {px py pt0 : Pos} {kt k2 : Nat} {pt2 : Pos} {α1 α2 : Type} {r1 : Rp α1} {r2 : Rp α2} {m1 : W (List α1)} {m2 : W α2} {K : List α1 → α2 → W (Fl ρ β γ)} (ha : PE X a (tN C env r1 m1)) (hb : ∀ C', PE X b (tE C' env r2 m2)) (hr : ∀ a b, PSs X rest (tF C (fun g => ((env g).set i (.ow r1 a)).set j (.im r2 b)) (K a b) pn pl kp r))
    (hc : X.calm = true) (hN : X.N.Nodup) (hi : X.N[i]? = some x) (hj : X.N[j]? = some y) (hx : Loc X.env.scope x) (hy : Loc X.env.scope y) (hfx : X.fn x = true) (hfy : X.fn y = true)
    (hw : swappedStores [.Tuple [.Name x px, .Name y py] kt pt0] (.Tuple [a, b] k2 pt2) X.env = pure none := by rfl) (hs : swapsWithSole [.Tuple [.Name x px, .Name y py] kt pt0] (.Tuple [a, b] k2 pt2) pos.line X.env = pure false := by rfl)
    (h3 : (assignEach [.Tuple [.Name x px, .Name y py] kt pt0] X.env).map (·.2) = [assign (.Tuple [.Name x px, .Name y py] kt pt0) X.env] := by rfl)
    (g1 : (assignEach [.Name x px, .Name y py] X.env).map (·.2) = assign (.Name x px) X.env :: (assignEach [.Name y py] X.env).map (·.2) := by rfl) (g2 : (assignEach [.Name y py] X.env).map (·.2) = assign (.Name y py) X.env :: (assignEach [] X.env).map (·.2) := by rfl)
    (hn : (assignEach [.Name x px, .Name y py] X.env).length = 2 := by rfl) (hst : (assignEach [.Name x px, .Name y py] X.env).findIdx? (·.1) = none := by rfl)
    (h1 : starEach [a, b] X.env = (false, eval a X.env) :: starEach [b] X.env := by rfl) (h2 : starEach [b] X.env = (false, eval b X.env) :: starEach [] X.env := by rfl) (hE : ∀ g g', Gs (env g) (env g') := by intro _ _; repeat (first | exact Gs.nil | apply Gs.keep | apply Gs.gh)) :
    PSs X (.Assign [.Tuple [.Name x px, .Name y py] kt pt0] (.Tuple [a, b] k2 pt2) pos :: rest) (tF C env (m1.bind fun a => m2.bind fun b => K a b) pn pl kp r) :=
  pss_imp (pss_cons (ps_asg (RtU.pe_tupU (pa_cons ha (pa_cons (pe_ex hb) pa_nil h2) h1)) (pg_tup hc (pgs_cons (pg_name hN hi hx (.inl hfx)) (pgs_cons (pg_name hN hj hy (.inl hfy)) pgs_nil g2) g1) hn hst) hs hw h3) (pss_ex fun p : List α1 × α2 => hr p.1 p.2)) fun D σ H _ ⟨S, g0, P, F, em, q⟩ => ⟨S, g0, _, F, em, fun xs g1 px p vs S1 H1 F1 x1 hp hv => by
    have G0 := F1.add hp (o := .lst vs)
    have np : ∀ g, p ∉ owns σ (env g) := fun g z => by
      obtain ⟨_, o, e⟩ := F1.sl.own ((hE g g1).owns σ ▸ z)
      rw [hp] at e
      cases e
    refine ⟨_, S1, g1, _, G0.here, px, fun w g2 pw v2 S2 H2 F2 x2 hv2 => ⟨Nat.le_of_ble_eq_true rfl, fun u o ho hu => ?_⟩⟩
    have hp2 : H2 p = some (.lst vs) := F2.e2 p _ upd_same (np g1)
    have sp2 : S2 p = none := F2.nw p (F1.e1.back hp) (by show upd H1 p (.lst vs) p ≠ none; rw [upd_same]; exact fun z => nomatch z)
    have G2 : Fr C S2 H2 σ (env g2) := G0.backG ((hE g2 g1).owns σ) F2
    have ne : p ≠ u := fun z => by rw [z, hu] at hp2; cases hp2
    have Gn := G2.new (o := .frz o (.tup [.ref p, v2])) hu
    have ex : Ex S2 (upd S2 u (.frz o (.tup [.ref p, v2]))) := Ex.new (G2.e1.back hu)
    have sp3 : upd S2 u (.frz o (.tup [.ref p, v2])) p = none := by rw [upd_ne ne]; exact sp2
    have hp3 : upd H2 u (.frz o (.tup [.ref p, v2])) p = some (.lst vs) := by rw [upd_ne ne]; exact hp2
    have G3 := (Gn.del sp3 (F1.H0none hp) (np g2)).setOw i (r := r1) (p := p) (vs := vs) (xs := xs) (by unfold Rt.del; simp) (hv.mono fun _ _ z => r1.mono (x2.trans ex) z)
    rw [upd_del hp3] at G3
    exact ⟨u, [.ref p, v2], rfl, TupAt.sq (TupAt.new ho), rfl, .ref p, [v2], rfl, v2, [], rfl, rfl, (xs, w), _, g2, P, G3.setIm j (r2.mono ex hv2), pw, fun o g9 po => (q o g9 po).mono (x1.trans (x2.trans ex))⟩⟩
end
end Rt

set_option maxRecDepth 100000
set_option maxHeartbeats 4000000
/-! RtZ: math.gcd, math.comb; texts: str(int), +, f-strings of two ints, len, sign by sign, <=. -/
namespace Rt
open PySem L2 Rt PyProof.Rows
def gcdC (i j : Int) : Int := ((Nat.gcd i.natAbs j.natAbs : Nat) : Int)
def combC (i j : Int) : Option Int := if 0 ≤ i ∧ 0 ≤ j ∧ i ≤ 18000 then some (PySem.W.mcComb i j) else none
theorem cr_comb {X : Cx} : CallR X (.builtin "math.comb") (fun xs H Q => ∃ i j z, xs = [.int i, .int j] ∧ combC i j = some z ∧ Q (.int z) H) := by
  intro pins s σ H xs us Q I r ⟨i, j, z, ex, ez, q⟩
  subst ex
  obtain ⟨u1, u2, rfl, r1, r2⟩ := vals2 r
  obtain ⟨t1, rfl⟩ := r1
  obtain ⟨t2, rfl⟩ := r2
  unfold combC at ez
  split at ez
  case isFalse => cases ez
  rename_i h
  cases ez
  exact PySem.W.mc_comb h.1 h.2.1 (by omega) (.inr h.2.2) fun _ => ⟨.int _, H, I.tok _, ⟨_, rfl⟩, q⟩
section
variable {X : Cx} {C : Cs} {env kp : Gh → List Sl} {a b c e tg : Expr} {pos p px pa pc : Pos} {mi mj : W Int} {ms mt : W Str}
theorem xe_cb2 {id : String} {x : Str} {f : Int → Int → Option Int} (hc : CallR X (.builtin id) (fun xs H Q => ∃ i j z, xs = [.int i, .int j] ∧ f i j = some z ∧ Q (.int z) H)) (hg : Gl X x) (hm : X.mg x = some (.builtin id)) (ha : PE X a (tE C env qI mi)) (hb : PE X b (tE C env qI mj))
    (hs : starEach [a, b] X.env = (false, eval a X.env) :: starEach [b] X.env := by rfl) (hs2 : starEach [b] X.env = (false, eval b X.env) :: starEach [] X.env := by rfl) (hdb : (x == ("__debug__" : Str)) = false := by decide) (hpl : (backTo pos (starEach [b] X.env)).any (·.1) = false := by rfl) :
    PE X (.Call (.Name x p) [a, b] [] pos) (tE C env qI (mi.bind fun i => mj.bind fun j => ofO (f i j))) :=
  pe_imp (pe_callBfun hc hg hm (pa_cons ha (pa_cons hb pa_nil hs2) hs) hdb hs hpl) fun σ H Q _ ⟨S, g0, P, F, em, kk⟩ =>
    ⟨S, g0, _, F, em, fun i g1 hi v S1 H1 F1 x1 hv => ⟨S1, g1, _, F1, hi, fun j g2 ⟨z, ez, pz⟩ w S2 H2 F2 x2 hw => ⟨i, j, z, by rw [show v = .int i from hv, show w = .int j from hw], ez, fun _ => kk _ _ pz _ S2 H2 F2 (x1.trans x2) rfl⟩⟩⟩
theorem cr_gcdO : CallR X (.builtin "math.gcd") (fun xs H Q => ∃ i j z, xs = [.int i, .int j] ∧ some (gcdC i j) = some z ∧ Q (.int z) H) := fun pins s σ H xs us Q I r ⟨i, j, z, ex, ez, q⟩ => cr_gcd pins s σ H xs us Q I r ⟨i, j, ex, by
  cases ez
  exact q⟩
theorem xe_gcd (hg : Gl X "gcd") (hm : X.mg "gcd" = some (.builtin "math.gcd")) (ha : PE X a (tE C env qI mi)) (hb : PE X b (tE C env qI mj))
    (hs : starEach [a, b] X.env = (false, eval a X.env) :: starEach [b] X.env := by rfl) (hs2 : starEach [b] X.env = (false, eval b X.env) :: starEach [] X.env := by rfl) (hpl : (backTo pos (starEach [b] X.env)).any (·.1) = false := by rfl) :
    PE X (.Call (.Name "gcd" p) [a, b] [] pos) (tE C env qI (mi.bind fun i => mj.bind fun j => ofO (some (gcdC i j)))) := xe_cb2 (f := fun i j => some (gcdC i j)) cr_gcdO hg hm ha hb hs hs2 (by decide) hpl
theorem xe_comb (hg : Gl X "comb") (hm : X.mg "comb" = some (.builtin "math.comb")) (ha : PE X a (tE C env qI mi)) (hb : PE X b (tE C env qI mj))
    (hs : starEach [a, b] X.env = (false, eval a X.env) :: starEach [b] X.env := by rfl) (hs2 : starEach [b] X.env = (false, eval b X.env) :: starEach [] X.env := by rfl) (hpl : (backTo pos (starEach [b] X.env)).any (·.1) = false := by rfl) :
    PE X (.Call (.Name "comb" p) [a, b] [] pos) (tE C env qI (mi.bind fun i => mj.bind fun j => ofO (combC i j))) := xe_cb2 (f := combC) cr_comb hg hm ha hb hs hs2 (by decide) hpl
/-! texts -/
def strC (i : Int) : Option Str := if i.natAbs.log2 < 1920 then some (Str.ofString (toString i)) else none
theorem xe_strI (hg : Gl X "str") (hm : X.mg "str" = none) (ha : PE X a (tE C env qI mi)) (hs : starEach [a] X.env = (false, eval a X.env) :: starEach [] X.env := by rfl) :
    PE X (.Call (.Name "str" p) [a] [] pos) (tE C env qS (mi.bind fun i => ofO (strC i))) :=
  pe_imp (pe_callTy call_str_int hg hm (by decide +kernel) (pa_cons ha pa_nil hs) (by decide) (by decide) hs (by rfl)) fun σ H Q _ ⟨S, g0, P, F, em, kk⟩ => ⟨S, g0, _, F, em, fun i g1 ⟨z, ez, pz⟩ v S1 H1 F1 x1 hv => by
    unfold strC at ez
    split at ez
    case isFalse => cases ez
    rename_i h
    cases ez
    exact ⟨i, by rw [show v = .int i from hv], h, fun _ => kk _ _ pz _ S1 H1 F1 x1 rfl⟩⟩
def catSC (x y : Str) : Option Str := if x.length + y.length ≤ 1000000 then some (x ++ y) else none
theorem xe_catS (ha : PE X a (tE C env qS ms)) (hb : PE X b (tE C env qS mt)) : PE X (.BinOp a .Add b pos) (tE C env qS (ms.bind fun x => mt.bind fun y => ofO (catSC x y))) :=
  xe_op op_add_str ha hb fun _ S H σ x y i j z Q F _ hx hy ez k => by
    unfold catSC at ez
    split at ez
    case isFalse => cases ez
    rename_i h
    cases ez
    exact ⟨i, j, hx, hy, by rw [sizeLine_eq]; omega, k _ _ _ F (Ex.refl S) rfl⟩
def lenS (x : Str) : Option Int := if x.length ≤ 1000000 then some (x.length : Int) else none
theorem xe_lenS (hg : Gl X "len") (hm : X.mg "len" = none) (ha : PE X a (tE C env qS ms)) (hs : starEach [a] X.env = (false, eval a X.env) :: starEach [] X.env := by rfl) :
    PE X (.Call (.Name "len" p) [a] [] pos) (tE C env qI (ms.bind fun x => ofO (lenS x))) :=
  pe_imp (pe_callB call_len_str hg hm (by decide +kernel) (pa_cons ha pa_nil hs) (by decide) (by decide) hs (by rfl)) fun σ H Q _ ⟨S, g0, P, F, em, kk⟩ => ⟨S, g0, _, F, em, fun x g1 ⟨z, ez, pz⟩ v S1 H1 F1 x1 hv => by
    unfold lenS at ez
    split at ez
    case isFalse => cases ez
    rename_i h
    cases ez
    exact ⟨x, by rw [show v = .str x from hv], by rw [sizeLine_eq]; omega, fun _ => kk _ _ pz _ S1 H1 F1 x1 rfl⟩⟩
theorem str_len {i : Int} (h : i.natAbs.log2 < 1920) : (Str.ofString (toString i)).length ≤ 1921 := by
  rw [PySem.ofString_length]
  have hb : ∀ n : Nat, n.log2 < 1920 → n < 2 ^ 1920 := fun n hn => by
    by_cases z : n = 0
    · rw [z]; exact Nat.two_pow_pos _
    · exact (Nat.log2_lt z).mp hn
  cases i with
  | ofNat n =>
    have := PySem.nat_repr_length_le (n := n) (k := 1920) (by decide) (hb n h)
    show (Nat.repr n).length ≤ _
    omega
  | negSucc n =>
    have := PySem.nat_repr_length_le (n := n + 1) (k := 1920) (by decide) (hb (n + 1) h)
    show ("-" ++ Nat.repr (n + 1)).length ≤ _
    rw [String.length_append]
    show 1 + _ ≤ _
    omega
theorem empty_app (x : Str) : Str.empty ++ x = x := by
  show Str.mk (#[] ++ x.cps) = x
  rw [Array.empty_append]
def fmtT (te : TE) : TE := te
/-- f'{a}z{b}' of two ints -/
theorem xe_fs3 {z : Expr} {p1 p2 : Pos} (ha : PE X a (tE C env qI mi)) (hz : PE X z (tE C env qS ms)) (hb : PE X b (tE C env qI mj)) :
    PE X (.JoinedStr [.FormattedValue a (-1) none p1, z, .FormattedValue b (-1) none p2] pos) (tE C env qS (mi.bind fun i => (ofO (strC i)).bind fun s => ms.bind fun y => (ofO (catSC s y)).bind fun u => mj.bind fun j => (ofO (strC j)).bind fun t => ofO (catSC u t))) :=
  pe_imp (pe_joined (.cons (pe_fmt ha) (.cons hz (.cons (pe_fmt hb) .nil)))) fun σ H Q _ ⟨S, g0, P, F, em, kk⟩ =>
    ⟨S, g0, _, F, em, fun i g1 ⟨s, es, h2⟩ v S1 H1 F1 x1 hv => .inr ⟨i, hv, by
      unfold strC at es
      split at es
      case isFalse => cases es
      rename_i hl
      cases es
      refine ⟨hl, _, rfl, by rw [empty_app, sizeLine_eq]; have := str_len hl; omega, ?_⟩
      rw [empty_app]
      refine ⟨S1, g1, _, F1, h2, fun y g2 ⟨u, eu, h3⟩ v2 S2 H2 F2 x2 hv2 => ?_⟩
      unfold catSC at eu
      split at eu
      case isFalse => cases eu
      rename_i hl2
      cases eu
      have l12 : (Str.ofString (toString i) ++ y).length = (Str.ofString (toString i)).length + y.length := Array.size_append ..
      refine ⟨y, hv2, by rw [l12, sizeLine_eq]; omega, S2, g2, _, F2, h3, fun j g3 ⟨t, et, h4⟩ v3 S3 H3 F3 x3 hv3 => .inr ⟨j, hv3, ?_⟩⟩
      unfold strC at et
      split at et
      case isFalse => cases et
      rename_i hl3
      cases et
      obtain ⟨w, ew, pw⟩ := h4
      unfold catSC at ew
      split at ew
      case isFalse => cases ew
      rename_i hl4
      cases ew
      have l34 : (Str.ofString (toString i) ++ y ++ Str.ofString (toString j)).length = (Str.ofString (toString i) ++ y).length + (Str.ofString (toString j)).length := Array.size_append ..
      refine ⟨hl3, _, rfl, by rw [l34, sizeLine_eq]; omega, ?_⟩
      exact fun _ => kk _ _ pw _ S3 H3 F3 (x1.trans (x2.trans x3)) rfl⟩⟩
/-- the signs of a text -/
def signs (x : Str) : List Str := x.cps.toList.map fun c => ⟨#[c]⟩
def signsC (x : Str) : Option (List Str) := if x.length ≤ 1000000 then some (signs x) else none
theorem wk_str {x : Str} {S0 : Hp} (h : x.length ≤ 1000000) : Wk (Its x) qS (signs x) S0 := by
  have l : (signs x).length = x.cps.size := by unfold signs; rw [List.length_map, Array.length_toList]
  have h : x.cps.size ≤ 1000000 := h
  refine ⟨by rw [l, sizeLine_eq]; omega, fun {C S H σ env} i hi' F e => ?_, fun {C S H σ env} i v H' y F e hy ha => ?_, fun {C S H σ env} i hi' F e => ?_⟩
  · show i < x.cps.size
    omega
  · obtain ⟨eH, c, ec, ev⟩ := hy
    subst eH
    refine ⟨S, F, Ex.refl S, Ex.refl _, fun _ z _ => z, ?_⟩
    show v = V.str y
    unfold signs at ha
    rw [List.getElem?_map, Array.getElem?_toList, ec] at ha
    cases ha
    exact ev
  · show x.cps.size ≤ i
    omega
theorem xi_str (h : PE X a (tE C env qS ms)) : PI X tg a (tS C env qS (ms.bind fun x => ofO (signsC x))) :=
  pi_imp (pi_str h) fun σ H R _ ⟨S, g0, P, F, em, q⟩ => ⟨S, g0, _, F, em, fun x g1 ⟨z, ez, pz⟩ v S1 H1 F1 x1 hv => by
    unfold signsC at ez
    split at ez
    case isFalse => cases ez
    rename_i hl
    cases ez
    exact ⟨x, hv, q _ _ pz _ S1 H1 F1 x1 (wk_str hl)⟩⟩
theorem cd_leS : CmpD X C .LtE qS qS fun i j => some (!decide (j.cps.toList < i.cps.toList)) := ⟨_, op_le_str, fun _ S H σ x y p q z Q F _ hx hy ez k => by
  cases ez
  exact ⟨p, q, hx, hy, k S H F (Ex.refl S)⟩⟩
end
section
variable {X : Cx} {C : Cs} {env kp : Gh → List Sl} {e a b c : Expr} {es : List Expr} {rest : List Stmt} {pos p px : Pos} {α β γ ρ : Type} {r : Rp ρ} {pn : β → Gh → List Sl} {pl : γ → Gh → List Sl}
/-- x, y, z = a, b, c of three locals -/
theorem xs_par3 {i j l : Nat} {x y z : Str} {px py pz pt0 : Pos} {kt k2 : Nat} {pt2 : Pos} {α1 α2 α3 : Type} {r1 : Rp α1} {r2 : Rp α2} {r3 : Rp α3} {m1 : W α1} {m2 : W α2} {m3 : W α3} {K : α1 → α2 → α3 → W (Fl ρ β γ)} (ha : PE X a (tE C env r1 m1)) (hb : PE X b (tE C env r2 m2)) (hc3 : PE X c (tE C env r3 m3)) (hr : ∀ a b c, PSs X rest (tF C (fun g => (((env g).set i (.im r1 a)).set j (.im r2 b)).set l (.im r3 c)) (K a b c) pn pl kp r))
    (hc : X.calm = true) (hN : X.N.Nodup) (hi : X.N[i]? = some x) (hj : X.N[j]? = some y) (hl : X.N[l]? = some z) (hij : i ≠ j) (hil : i ≠ l) (hjl : j ≠ l) (hx : X.env.scope.names.lookup x = some .local) (hy : X.env.scope.names.lookup y = some .local) (hz : X.env.scope.names.lookup z = some .local)
    (hw : swappedStores [.Tuple [.Name x px, .Name y py, .Name z pz] kt pt0] (.Tuple [a, b, c] k2 pt2) X.env = pure (some [x, y, z])) (hs : swapsWithSole [.Tuple [.Name x px, .Name y py, .Name z pz] kt pt0] (.Tuple [a, b, c] k2 pt2) pos.line X.env = pure false := by rfl)
    (h1 : starEach [a, b, c] X.env = (false, eval a X.env) :: starEach [b, c] X.env := by rfl) (h2 : starEach [b, c] X.env = (false, eval b X.env) :: starEach [c] X.env := by rfl) (h3 : starEach [c] X.env = (false, eval c X.env) :: starEach [] X.env := by rfl) :
    PSs X (.Assign [.Tuple [.Name x px, .Name y py, .Name z pz] kt pt0] (.Tuple [a, b, c] k2 pt2) pos :: rest) (tF C env (m1.bind fun a => m2.bind fun b => m3.bind fun c => K a b c) pn pl kp r) :=
  pss_imp (pss_cons (ps_par3 hc hN hi hj hl hij hil hjl hx hy hz (pa_cons ha (pa_cons hb (pa_cons hc3 pa_nil h3) h2) h1) hw hs) (pss_ex fun p : α1 × α2 × α3 => hr p.1 p.2.1 p.2.2)) fun D σ H _ ⟨S, g0, P, F, em, q⟩ =>
    ⟨S, g0, _, F, em, fun u g1 pu v S1 H1 F1 x1 hv => ⟨S1, g1, _, F1, pu, fun w g2 pw v2 S2 H2 F2 x2 hv2 => ⟨S2, g2, _, F2, pw, fun t g3 pt v3 S3 H3 F3 x3 hv3 => ⟨v, v2, v3, rfl, (u, w, t), S3, _, P, ((F3.setIm i (r1.mono (x2.trans x3) hv)).setIm j (r2.mono x3 hv2)).setIm l hv3, pt, fun o g9 po => (q o g9 po).mono (x1.trans (x2.trans x3))⟩⟩⟩⟩
end
end Rt

set_option maxRecDepth 100000
set_option maxHeartbeats 4000000
/-! RtQ: a set of any number of tuples, of few unlike ones. -/
namespace Rt
open PySem L2 Rt PyProof.Rows
/-- never more than 62 unlike ones -/
def FewK (ks : List (Addr × List Int)) : Prop := ∀ L : List (Addr × List Int), (L.map (·.2)).Nodup → (∀ p ∈ L, p ∈ ks) → L.length + 1 < 64
section
variable {P : Program} {w : World} {A : Around} {I : Addr} {fp wr : List Addr} {G : Array GenState → Array GenState → Prop} {n : Nat} {Pv : Nat → Value → Prop} {St : Nat → Shared → Prop} {R : Result → Shared → Prop}
theorem set_fill (W : WalksS P w A.in1 I fp wr G n Pv St) {S : Addr} (hSf : S ∉ fp) {ks : List (Addr × List Int)} (hn : n = ks.length) (hfew : FewK ks) (hval : ∀ i v, Pv i v → ∃ p, ks[i]? = some p ∧ v = Value.ref p.1) {h0 : Heap} (hk : ∀ p ∈ ks, L2.IsT P w h0 p.2 p.1)
    (hS0 : h0.get? S = none) (hw0 : ∀ b ∈ wr, h0.get? b = none) (hu : A.in1.units < cLine) : ∀ (k i : Nat) (s : Shared), n - i = k → i ≤ n → St i s → (∀ b o, h0.get? b = some o → s.heap.get? b = some o) →
      (∃ L es ep t, SetTR P w s.heap S L es ep t ∧ Got ks i L) →
      (∀ s' L es ep t, Moved (S :: wr) G s s' → SetTR P w s'.heap S L es ep t → Got ks n L → (∀ b o, h0.get? b = some o → s'.heap.get? b = some o) → R (.ok (.ret .none)) s') →
      codeAny (model P w) A (.builtin "set.update.loop" ⟨[.ref S, .ref I], []⟩) R s := by
  have hSw : S ∉ wr := fun h => hSf (W.sub S h)
  have keep : ∀ {s s' : Shared}, Moved wr G s s' → (∀ b o, h0.get? b = some o → s.heap.get? b = some o) → ∀ b o, h0.get? b = some o → s'.heap.get? b = some o := fun {s s'} hm hb b o e => hm.heap b o (fun z => by rw [hw0 b z] at e; cases e) (hb b o e)
  intro k
  induction k with
  | zero =>
    intro i s hk' hi hst hkp ⟨L, es, ep, t, hS, g⟩ hR
    have ei : i = n := by omega
    subst ei
    refine codeAny_builtin PyProof.Rows.F.entry_set_update_loop ?_
    rw [Around.under_plainId PyProof.Rows.F.plain_set_update_loop]
    unfold Builtin.«set.update.loop»
    refine wpAny_bind (W.done s _ _ hst fun s' hm => ?_)
    have kp := keep hm hkp
    exact wpAny_pure (hR s' L es ep t (hm.mono fun b hb => List.mem_cons_of_mem _ hb) (hS.keep (fun o e => hm.heap S o hSw e) fun p hp => isT_keep (hk p (List.mem_of_mem_take (g.sub p hp))) kp) g kp)
  | succ k ih =>
    intro i s hk' hi hst hkp ⟨L, es, ep, t, hS, g⟩ hR
    refine codeAny_builtin PyProof.Rows.F.entry_set_update_loop ?_
    rw [Around.under_plainId PyProof.Rows.F.plain_set_update_loop]
    unfold Builtin.«set.update.loop»
    refine wpAny_bind (W.item i s _ _ (by omega) hst fun v s' hv hst' hm => ?_)
    obtain ⟨x, hx, rfl⟩ := hval i v hv
    have kp := keep hm hkp
    have tx : L2.IsT P w s'.heap x.2 x.1 := isT_keep (hk x (List.mem_of_getElem? hx)) kp
    have sub : ∀ p ∈ L, p ∈ ks := fun p hp => List.mem_of_mem_take (g.sub p hp)
    have hS' : SetTR P w s'.heap S L es ep t := hS.keep (fun o e => hm.heap S o hSw e) fun p hp => isT_keep (hk p (sub p hp)) kp
    refine wpAny_bind (wpAny_holding ?_)
    unfold setAdd
    refine wpAny_holding (wpAny_bind (wpAny_pyHash_tuple hu tx ?_))
    refine add_at (s := { s' with toks := s'.toks + (x.2.length + 1) }) hS' tx hu (hfew L hS.nd sub) fun b h' L' es' ep' t' sb R' h1 h2 => ?_
    have ne : ∀ b, b ∈ fp → b ≠ S := fun b hb z => hSf (z ▸ hb)
    have g' : Got ks (i + 1) L' := by
      by_cases z : x.2 ∈ L.map (·.2)
      · rw [h1 z]
        exact g.same hx z
      · exact g.more hx (h2 z)
    have st2 : St (i + 1) { s' with heap := h', toks := s'.toks + (x.2.length + 1) } := W.frame (i + 1) s' h' _ hst' (by omega) fun b hb o e => (sb.2 b (ne b hb)).trans e
    have kp2 : ∀ b o, h0.get? b = some o → h'.get? b = some o := fun b o e => (sb.2 b (fun z => by rw [z, hS0] at e; cases e)).trans (kp b o e)
    have m2 : Moved (S :: wr) G s' { s' with heap := h', toks := s'.toks + (x.2.length + 1) } := ⟨fun b o hb e => (sb.2 b (fun z => hb (by rw [z]; exact List.mem_cons_self))).trans e, W.grefl _, rfl, rfl, by show s'.toks ≤ s'.toks + _; omega⟩
    refine wpAny_pure ⟨Code.quiet_builtin _ (by decide +kernel), ih (i + 1) _ (by omega) (by omega) st2 kp2 ⟨L', es', ep', t', R', g'⟩ fun s2 L2 es2 ep2 t2 hm2 => ?_⟩
    refine hR s2 L2 es2 ep2 t2 (Moved.trans W.gtrans (Moved.trans W.gtrans (hm.mono fun b hb => List.mem_cons_of_mem _ hb) m2) hm2)
/-- an object of class set that has nothing in it -/
abbrev bare (w : World) : Obj := { cls := .type "set", data := .set #[] 0 (SetTable.fresh 0 0 (!w.params.followText "set-order")) }
/-- set(xs), xs a list of tuples of ints, few unlike ones -/
theorem call_set_many {A : Around} {E : Value → Shared → Prop} {s : Shared} {l : Addr} {items : Array Value} {ks : List (Addr × List Int)} {Q : Value → Shared → Prop} (hh : A.handled = none) (hl : s.heap.IsList l items) (hit : items.toList = ks.map fun p => Value.ref p.1) (hk : ∀ p ∈ ks, L2.IsT P w s.heap p.2 p.1)
    (hfew : FewK ks) (hu : A.units + 3 < cLine)
    (h : ∀ h' tk L es ep t, SetTR P w h' s.heap.objs.size L es ep t → Got ks ks.length L → (∀ b o, s.heap.get? b = some o → h'.get? b = some o) → Q (.ref s.heap.objs.size) { s with heap := h', toks := tk }) :
    wpAny (model P w) A (call (.type "set") [.ref l]) Q E s := by
  have hisz : items.size = ks.length := by rw [← Array.length_toList, hit, List.length_map]
  have hlt : l < s.heap.objs.size := by obtain ⟨o, ho, _⟩ := hl; exact Heap.lt_size ho
  have hS : (s.heap.push (bare w)).get? s.heap.objs.size = some (bare w) := Heap.get?_push_size s.heap rfl
  have hT : Shared.TypeIs { s with heap := s.heap.push (bare w) } (.ref s.heap.objs.size) "set" := ⟨_, hS, rfl⟩
  have hlb : (s.heap.push (bare w)).IsList l items := hl.push _
  have fresh : ∀ b, s.heap.objs.size ≤ b → s.heap.get? b = none := fun b hb => by
    cases q : s.heap.get? b with
    | none => rfl
    | some o => exact absurd (Heap.lt_size q) (Nat.not_lt.mpr hb)
  -- the filling, from the bare set on
  have fill : ∀ (B : Around), B.handled = none → B.in1.units < cLine → ∀ R : Result → Shared → Prop,
      (∀ h' tk L es ep t, SetTR P w h' s.heap.objs.size L es ep t → Got ks ks.length L → (∀ b o, s.heap.get? b = some o → h'.get? b = some o) → R (.ok (.ret .none)) { s with heap := h', toks := tk }) →
      codeAny (model P w) B (.builtin "set.update.loop" ⟨[.ref s.heap.objs.size, .ref (s.heap.push (bare w)).objs.size], []⟩) R { s with heap := (s.heap.push (bare w)).push { cls := .type "list_iterator", data := .fields #[.ref l, .int 0 0] } } := by
    intro B hB hBu R hR
    have ne1 : l ≠ (s.heap.push (bare w)).objs.size := by rw [Heap.size_push]; exact Nat.ne_of_lt (Nat.lt_succ_of_lt hlt)
    have ne2 : s.heap.objs.size ∉ [(s.heap.push (bare w)).objs.size, l] := by
      rw [Heap.size_push]
      intro z
      rcases List.mem_cons.mp z with z | z
      · exact absurd z (Nat.ne_of_lt (Nat.lt_succ_self _))
      · exact absurd (List.mem_singleton.mp z) (Nat.ne_of_gt hlt)
    have hB1 : B.in1.handled = none := by simp [hB]
    refine set_fill (w := w) (h0 := s.heap) (ks := ks) ((Walks.list hB1 (s.heap.push (bare w)).objs.size l ne1 items).toS) ne2 hisz hfew (fun i v hv => ?_) hk (fresh _ (Nat.le_refl _)) (fun b hb => fresh b (by rw [List.mem_singleton.mp hb, Heap.size_push]; exact Nat.le_succ _)) hBu (items.size - 0) 0 _ rfl (Nat.zero_le _)
      ⟨⟨_, Heap.get?_push_size _ rfl, rfl, rfl⟩, hlb.push _⟩ (fun b o e => Heap.get?_push_of_some _ (Heap.get?_push_of_some _ e)) ⟨[], #[], 0, _, setTR_fresh (Heap.get?_push_of_some _ hS), Got.zero ks⟩ fun s' L es ep t hm hS' g' hkp => ?_
    · have q : items.toList[i]? = some v := by rw [Array.getElem?_toList]; exact hv
      rw [hit, List.getElem?_map, Option.map_eq_some_iff] at q
      obtain ⟨p, q1, q2⟩ := q
      exact ⟨p, q1, q2.symm⟩
    · rw [hisz] at g'
      have r := hR s'.heap s'.toks L es ep t hS' g' hkp
      have e : ({ s with heap := s'.heap, toks := s'.toks } : Shared) = s' := by
        obtain ⟨a1, a2, a3, a4, a5⟩ := s'
        have e1 : a2 = s.gens := hm.gens
        have e2 : a3 = s.drawn := hm.drawn
        have e3 : a5 = s.os := hm.os
        subst e1 e2 e3
        rfl
      rwa [e] at r
  obtain ⟨c, tl, hmro⟩ := F.called_set.mro
  have hmade := F.called_set.made
  have hsub := F.called_set.sub
  have h1 := F.called_set.notType
  have h2 := F.called_set.canCreate
  have hct := F.typeCall_set_1 (.ref l)
  have hli := F.called_set.init.lookup
  have hbi := F.called_set.init.bind (.ref s.heap.objs.size)
  refine wpAny_call (codeAny_of_tree (wpAny_pure ⟨Code.quiet_builtin _ (by decide +kernel), codeAny_builtin F.entry_type_call ?_⟩))
  rw [Around.under_plain (weight_type_call_type "set" [.ref l] []) rfl]
  repeat (any_goals (first | assumption | wp_step))
  refine codeAny_mono (code_set_led1 (E := E) (Q₁ := fun v s' => v = .ref s.heap.objs.size ∧ s' = { s with heap := s.heap.push (bare w) }) (.ref l) ⟨rfl, rfl⟩) fun r s1 hr => ?_
  match r, hr with
  | .error e, hr => exact hr
  | .ok .next, hr => exact hr.elim
  | .ok .brk, hr => exact hr.elim
  | .ok .cont, hr => exact hr.elim
  | .ok (.ret v), ⟨ev, es⟩ =>
    subst ev es
    repeat (any_goals (first | assumption | wp_step))
    refine codeAny_mono (codeAny_call_builtin (R := wants (fun r s2 => r = .none ∧ Q (.ref s.heap.objs.size) s2) E) F.called_set.init.plain F.entry_set_init (check_set_init_1 hT ?_)) fun r2 s2 hr2 => ?_
    · have hsl := F.sub_list_set
      have hsf := F.sub_list_frozenset
      have hne : (Value.type "list" == Value.type "dict") = false := by decide
      have hlb' := hlb
      obtain ⟨o, ho, hcl, nl, hdl⟩ := hlb'
      obtain ⟨ocls, odict, odata, oslots⟩ := o
      simp only at hcl hdl
      subst hcl hdl
      unfold Builtin.«set.__init__» noKeywords Builtin.Frozenset.updateFrom
      generalize hPI : pyIter = PI
      wp_walk
      subst hPI
      refine wpAny_pyIter_list hlb (wpAny_bind (wpAny_runValue (fill _ (by simp [hh]) (by first | exact hu | (simp; omega)) _ fun h' tk L es ep t a1 a2 a3 => ?_)))
      exact wpAny_pure (wpAny_pure ⟨rfl, h h' tk L es ep t a1 a2 a3⟩)
    · match r2, hr2 with
      | .error e, hr2 => exact hr2
      | .ok .next, hr2 => exact hr2.elim
      | .ok .brk, hr2 => exact hr2.elim
      | .ok .cont, hr2 => exact hr2.elim
      | .ok (.ret v), ⟨ev, q⟩ =>
        subst ev
        repeat (any_goals (first | assumption | wp_step))
end
end Rt

set_option maxRecDepth 100000
set_option maxHeartbeats 4000000
/-! RtJ: sorted(set(xs)), xs a list of tuples of ints. -/
namespace Rt
open PySem L2 Rt PyProof.Rows
/-- each one once -/
def ddX : List (List Int) → List (List Int)
  | [] => []
  | x :: xs => if (ddX xs).contains x = true then ddX xs else x :: ddX xs
theorem ddX_mem {y : List Int} : ∀ {xs : List (List Int)}, y ∈ ddX xs ↔ y ∈ xs
  | [] => Iff.rfl
  | x :: xs => by
    unfold ddX
    split
    · rename_i h
      have hx : x ∈ ddX xs := by simpa using h
      rw [ddX_mem, List.mem_cons]
      exact ⟨.inr, fun z => z.elim (fun e => by rw [e]; exact ddX_mem.mp hx) id⟩
    · rw [List.mem_cons, List.mem_cons, ddX_mem]
theorem ddX_nodup : ∀ xs : List (List Int), (ddX xs).Nodup
  | [] => .nil
  | x :: xs => by
    unfold ddX
    split
    · exact ddX_nodup xs
    · rename_i h
      exact List.nodup_cons.mpr ⟨fun z => h (by simpa using z), ddX_nodup xs⟩
theorem nodup_len {α : Type} [DecidableEq α] : ∀ (l D : List α), l.Nodup → (∀ x ∈ l, x ∈ D) → l.length ≤ D.length
  | [], _, _, _ => Nat.zero_le _
  | x :: l, D, hn, hs => by
    obtain ⟨h1, h2⟩ := List.nodup_cons.mp hn
    have hx : x ∈ D := hs x List.mem_cons_self
    have ih := nodup_len l (D.erase x) h2 fun y hy => (List.mem_erase_of_ne (fun e : y = x => h1 (e ▸ hy))).2 (hs y (List.mem_cons_of_mem _ hy))
    have e := List.length_erase_of_mem hx
    have hp := List.length_pos_of_mem hx
    rw [List.length_cons]
    omega
theorem lex_of_code {B : Int} : ∀ {a b : List Int}, a.length = b.length → TS.Bd B a → TS.Bd B b → TS.code B a ≤ TS.code B b → LeX a b
  | [], [], _, _, _, _ => by unfold LeX; rw [HT.lexLt_nil_nil]
  | [], _ :: _, e, _, _, _ => by cases e
  | _ :: _, [], e, _, _, _ => by cases e
  | x :: a, y :: b, e, ha, hb, h => by
    have e' : a.length = b.length := Nat.succ.inj e
    unfold LeX
    rw [HT.lexLt_cons]
    by_cases c : y = x
    · subst c
      rw [if_pos rfl]
      refine lex_of_code e' ha.tail hb.tail ?_
      refine Int.not_lt.mp fun z => ?_
      have := (TS.code_same (B := B) (d := y) e'.symm).mpr z
      omega
    · rw [if_neg c]
      refine decide_eq_false fun z => ?_
      have := TS.code_lt (B := B) e'.symm hb.tail ha.tail z
      omega
/-- sorted(set(xs)), few unlike ones, all of one length, of ints from 0 to 63 -/
def sortSet (xs : List (List Int)) : Option (List (List Int)) :=
  if (decide ((ddX xs).length < 63) && xs.all fun n => n.length == (xs.headD [0]).length && (!n.isEmpty) && n.all fun z => decide (0 ≤ z) && decide (z < 64)) = true then some (sortX (ddX xs)) else none
section
variable {X : Cx}
def rSetQ (K : PySem.W.Frag) (P : Program) (w : World) : List V → Hp → VK → Prop := fun xs H Q => ∃ (l : Addr) (vs : List V) (nss : List (List Int)) (R : V → List Int → Prop), xs = [V.ref l] ∧ SqL K H l vs ∧ All2 R vs nss ∧ (∀ x n, R x n → TupI K H x n) ∧ (ddX nss).length < 63 ∧
  ∀ a L, H a = none → (∀ p ∈ L, R (.ref p.1) p.2) → (∀ p ∈ L, p.2 ∈ nss) → (∀ n ∈ nss, n ∈ L.map (·.2)) → Q (.ref a) (upd H a (SetTO P w a L))
theorem all2_refs {R : V → List Int → Prop} : ∀ {vs : List V} {nss : List (List Int)}, (∀ x n, R x n → ∃ t, x = V.ref t) → All2 R vs nss → ∃ ks : List (Addr × List Int), vs = ks.map (fun p => V.ref p.1) ∧ nss = ks.map (·.2) ∧ ∀ p ∈ ks, R (.ref p.1) p.2
  | [], [], _, _ => ⟨[], rfl, rfl, fun _ h => by cases h⟩
  | v :: vs, n :: nss, hr, ⟨h, t⟩ => by
    obtain ⟨ks, e1, e2, e3⟩ := all2_refs hr t
    obtain ⟨b, rfl⟩ := hr v n h
    refine ⟨(b, n) :: ks, by rw [e1]; rfl, by rw [e2]; rfl, fun p hp => ?_⟩
    rcases List.mem_cons.mp hp with z | z
    · subst z; exact h
    · exact e3 p z
  | [], _ :: _, _, h => h.elim
  | _ :: _, [], _, h => h.elim
theorem cr_setQ (hc : X.calm = true) (hu : X.A.units + 64 < cLine) : CallR X (.type "set") (rSetQ X.K X.prog X.w) := by
  intro pins s σ H xs us Q I r h
  obtain ⟨l, vs, nss, R, rfl, hl, hR, hT, hf, q⟩ := h
  rw [Vals.ref1 r]
  obtain ⟨ks, rfl, rfl, hk⟩ := all2_refs (fun x n h => by obtain ⟨t, e, _⟩ := hT x n h; exact ⟨t, e⟩) hR
  obtain ⟨its, rv, pl, hz⟩ := I.list hl
  have hn : H s.heap.objs.size = none := I.hok.fresh (Nat.le_refl _)
  have few : FewK ks := fun L h1 h2 => by
    have := nodup_len (L.map (·.2)) (ddX (ks.map (·.2))) h1 fun x hx => by
      obtain ⟨p, hp, e⟩ := List.mem_map.mp hx
      rw [← e]
      exact ddX_mem.mpr (List.mem_map.mpr ⟨p, h2 p hp, rfl⟩)
    rw [List.length_map] at this
    omega
  refine call_set_many (P := X.prog) (w := X.w) (ks := ks) (I.ok.hd hc) pl.isList (by simpa using refs_of_vals rv) (fun p hp => ?_) few (by omega) fun h' tk L es ep t R' g k => ?_
  · obtain ⟨t, e, ht⟩ := hT _ _ (hk p hp)
    cases e
    exact I.isT ht
  · have sub : ∀ p ∈ L, p ∈ ks := fun p hp => List.mem_of_mem_take (g.sub p hp)
    refine ⟨.ref s.heap.objs.size, upd H s.heap.objs.size (SetTO X.prog X.w s.heap.objs.size L), I.laid (t' := tk) k (Nat.le_refl _) (setTO_new R'.t0), rfl, q _ L hn (fun p hp => hk p (sub p hp)) (fun p hp => List.mem_map.mpr ⟨p, sub p hp, rfl⟩) fun n hn => ?_⟩
    obtain ⟨p, hp, e⟩ := List.mem_map.mp hn
    rw [← e]
    exact g.all p (by rw [List.take_length]; exact hp)
def rSortQ (K : PySem.W.Frag) (P : Program) (w : World) : List V → Hp → VK → Prop := fun vs H Q => ∃ (a : Addr) (L : List (Addr × List Int)) (d : Nat) (R : V → List Int → Prop), vs = [V.ref a] ∧ H a = some (SetTO P w a L) ∧ (∀ p ∈ L, R (.ref p.1) p.2) ∧ (∀ x n, R x n → TupI K H x n) ∧ 1 ≤ d ∧
  (∀ p ∈ L, p.2.length = d ∧ TS.Bd 64 p.2) ∧
  ∀ (ys : List V) (nss : List (List Int)) (p : Addr), H p = none → All2 R ys nss → nss.Perm (L.map (·.2)) → nss.Nodup → nss.Pairwise LeX → Q (.ref p) (upd H p (.lst ys))
theorem cr_sortQ (hc : X.calm = true) : CallR X (.builtin "sorted") (rSortQ X.K X.prog X.w) := by
  intro pins s σ H vs us Q I r h
  obtain ⟨a, L, d, R, e, ha, hR, hT, hd, hB, q⟩ := h
  refine cr_sortedT hc pins s σ H vs us Q I r ⟨a, L, d, 64, e, ha, fun p hp => ?_, hd, hB, fun L' p pm nd few pw hp => ?_⟩
  · obtain ⟨t, e, ht⟩ := hT _ _ (hR p hp)
    cases e
    exact ht
  · have sub : ∀ p ∈ L', p ∈ L := fun p hp => pm.mem_iff.mp hp
    refine q _ (L'.map (·.2)) p hp ?_ (pm.map (·.2)) nd (List.pairwise_map.mpr (List.Pairwise.imp_of_mem (fun {x y} hx hy h => ?_) pw))
    · have key : ∀ l : List (Addr × List Int), (∀ p ∈ l, p ∈ L') → All2 R (l.map fun q => V.ref q.1) (l.map (·.2)) := by
        intro l
        induction l with
        | nil => intro _; exact True.intro
        | cons u l ih => intro hu; exact ⟨hR u (sub u (hu u List.mem_cons_self)), ih fun w hw => hu w (List.mem_cons_of_mem _ hw)⟩
      exact key L' fun p hp => hp
    · have b1 := hB x (sub x hx)
      have b2 := hB y (sub y hy)
      exact lex_of_code (by rw [b1.1, b2.1]) b1.2 b2.2 h
end
section
variable {X : Cx} {C : Cs} {env : Gh → List Sl} {a : Expr} {pos pos2 p p2 : Pos}
theorem xn_sortedSet {mx : W (List (List Int))} (hc : X.calm = true) (hu : X.A.units + 64 < cLine) (hg : Gl X "sorted") (hm : X.mg "sorted" = none) (hg2 : Gl X "set") (hm2 : X.mg "set" = none) (ha : PE X a (tQ C env true (qT qI) mx)) (hs : starEach [a] X.env = (false, eval a X.env) :: starEach [] X.env := by rfl)
    (hs2 : starEach [.Call (.Name "set" p2) [a] [] pos2] X.env = (false, eval (.Call (.Name "set" p2) [a] [] pos2) X.env) :: starEach [] X.env := by rfl) :
    PE X (.Call (.Name "sorted" p) [.Call (.Name "set" p2) [a] [] pos2] [] pos) (tN C env (qT qI) (mx.bind fun xs => ofO (sortSet xs))) :=
  pe_imp (pe_callB (cr_sortQ hc) hg hm (by decide +kernel) (pa_cons (pe_callTy (cr_setQ hc hu) hg2 hm2 (by decide +kernel) (pa_cons ha pa_nil hs) (by decide) (by decide) hs (by rfl)) pa_nil hs2) (by decide) (by decide) hs2 (by rfl)) fun σ H Q _ ⟨S, g0, P, F, em, kk⟩ => ⟨S, g0, _, F, em, fun xs g1 ⟨z, ez, pz⟩ p S1 H1 F1 x1 rd => by
    obtain ⟨vs, hp, h2⟩ := rd _ S1 H1 F1 (Ex.refl S1)
    unfold sortSet at ez
    split at ez
    · rename_i hc
      cases ez
      rw [Bool.and_eq_true] at hc
      obtain ⟨hc1, hc2⟩ := hc
      have hc1 := of_decide_eq_true hc1
      have each : ∀ n ∈ xs, n.length = (xs.headD [0]).length ∧ n ≠ [] ∧ TS.Bd 64 n := fun n hn => by
        have := List.all_eq_true.mp hc2 n hn
        simp only [Bool.and_eq_true, beq_iff_eq, Bool.not_eq_true', List.isEmpty_eq_false_iff, List.all_eq_true, decide_eq_true_eq] at this
        exact ⟨this.1.1, this.1.2, fun m hm => this.2 m hm⟩
      have hd : 1 ≤ (xs.headD [0]).length := by
        cases xs with
        | nil => exact Nat.le_refl _
        | cons x xs =>
          have := (each x List.mem_cons_self).2.1
          cases x with
          | nil => exact absurd rfl this
          | cons y ys => exact Nat.succ_le_succ (Nat.zero_le _)
      refine ⟨p, vs, xs, fun x n => (qT qI).p S1 x n, rfl, SqL.of hp, h2, fun x n h => tupI_of F1.e1 h, hc1, fun a L hn hR hs1 hs2 => ?_⟩
      have F2 := F1.add (o := SetTO X.prog X.w a L) hn
      refine ⟨a, L, (xs.headD [0]).length, fun x n => (qT qI).p S1 x n, rfl, if_pos rfl, hR, fun x n h => tupI_of F2.e1 h, hd, fun p hp => ⟨(each _ (hs1 p hp)).1, (each _ (hs1 p hp)).2.2⟩, fun ys nss l hl hy pm nd pw => ?_⟩
      have e : nss = sortX (ddX xs) := sortedX_unique ((List.perm_ext_iff_of_nodup nd (ddX_nodup xs)).mpr (fun y => by
        rw [pm.mem_iff, ddX_mem]
        refine ⟨fun z => ?_, hs2 y⟩
        obtain ⟨p, hp, e⟩ := List.mem_map.mp z
        rw [← e]
        exact hs1 p hp) |>.trans (sortX_perm _).symm) pw (sortX_sorted _)
      rw [e] at hy
      exact fun _ => kk _ _ pz l ys S1 _ F2 x1 hl hy
    · cases ez⟩
end
section
variable {X : Cx} {C : Cs} {env kp : Gh → List Sl} {e a b : Expr} {es : List Expr} {rest : List Stmt} {pos p px : Pos} {α β γ ρ : Type} {r : Rp ρ} {pn : β → Gh → List Sl} {pl : γ → Gh → List Sl}
/-- x, y = a, b, both of them constants: a pair is made and taken apart -/
theorem xs_parK {i j : Nat} {x y : Str} {px py pt0 : Pos} {kt k2 : Nat} {pt2 : Pos} {α1 α2 : Type} {r1 : Rp α1} {r2 : Rp α2} {m1 : W α1} {m2 : W α2} {K : α1 → α2 → W (Fl ρ β γ)} (ha : PE X a (tE C env r1 m1)) (hb : PE X b (tE C env r2 m2)) (hr : ∀ a b, PSs X rest (tF C (fun g => ((env g).set i (.im r1 a)).set j (.im r2 b)) (K a b) pn pl kp r))
    (hc : X.calm = true) (hN : X.N.Nodup) (hi : X.N[i]? = some x) (hj : X.N[j]? = some y) (hx : Loc X.env.scope x) (hy : Loc X.env.scope y) (hfx : X.fn x = true) (hfy : X.fn y = true)
    (hw : swappedStores [.Tuple [.Name x px, .Name y py] kt pt0] (.Tuple [a, b] k2 pt2) X.env = pure none := by rfl) (hs : swapsWithSole [.Tuple [.Name x px, .Name y py] kt pt0] (.Tuple [a, b] k2 pt2) pos.line X.env = pure false := by rfl)
    (h3 : (assignEach [.Tuple [.Name x px, .Name y py] kt pt0] X.env).map (·.2) = [assign (.Tuple [.Name x px, .Name y py] kt pt0) X.env] := by rfl)
    (g1 : (assignEach [.Name x px, .Name y py] X.env).map (·.2) = assign (.Name x px) X.env :: (assignEach [.Name y py] X.env).map (·.2) := by rfl) (g2 : (assignEach [.Name y py] X.env).map (·.2) = assign (.Name y py) X.env :: (assignEach [] X.env).map (·.2) := by rfl)
    (hn : (assignEach [.Name x px, .Name y py] X.env).length = 2 := by rfl) (hst : (assignEach [.Name x px, .Name y py] X.env).findIdx? (·.1) = none := by rfl)
    (h1 : starEach [a, b] X.env = (false, eval a X.env) :: starEach [b] X.env := by rfl) (h2 : starEach [b] X.env = (false, eval b X.env) :: starEach [] X.env := by rfl) :
    PSs X (.Assign [.Tuple [.Name x px, .Name y py] kt pt0] (.Tuple [a, b] k2 pt2) pos :: rest) (tF C env (m1.bind fun a => m2.bind fun b => K a b) pn pl kp r) :=
  pss_imp (pss_cons (ps_asg (RtU.pe_tupU (pa_cons ha (pa_cons hb pa_nil h2) h1)) (pg_tup hc (pgs_cons (pg_name hN hi hx (.inl hfx)) (pgs_cons (pg_name hN hj hy (.inl hfy)) pgs_nil g2) g1) hn hst) hs hw h3) (pss_ex fun p : α1 × α2 => hr p.1 p.2)) fun D σ H _ ⟨S, g0, P, F, em, q⟩ => ⟨S, g0, _, F, em, fun xv g1 px v S1 H1 F1 x1 hv => by
    refine ⟨S1, g1, _, F1, px, fun w g2 pw v2 S2 H2 F2 x2 hv2 => ⟨Nat.le_of_ble_eq_true rfl, fun u o ho hu => ?_⟩⟩
    have Gn := F2.new (o := .frz o (.tup [v, v2])) hu
    have ex : Ex S2 (upd S2 u (.frz o (.tup [v, v2]))) := Ex.new (F2.e1.back hu)
    exact ⟨u, [v, v2], rfl, TupAt.sq (TupAt.new ho), rfl, v, [v2], rfl, v2, [], rfl, rfl, (xv, w), _, g2, P, (Gn.setIm i (r1.mono (x2.trans ex) hv)).setIm j (r2.mono ex hv2), pw, fun o g9 po => (q o g9 po).mono (x1.trans (x2.trans ex))⟩⟩
end
end Rt

set_option maxRecDepth 100000
set_option maxHeartbeats 4000000
/-! RtB: dicts of the def's own, from tuples of ints (known objects) to ints. -/
namespace Rt
open PySem L2 Rt PyProof.Rows
def D0 (P : Program) (w : World) (h : Heap) (a : Addr) (xs : List (List Int × Addr × Value)) : Prop :=
  (a == sysModules) = false ∧ xs.length ≤ sizeLine ∧ ∃ o es ep, h.get? a = some o ∧ o.ExactDict ∧ o.data = .dict es ep ∧ es.toList = xs.map (entryOfKey (tupleKind (intKind P w))) ∧ (xs.map (·.1)).Nodup
def RX (l : Addr × List Int × Int) (x : List Int × Addr × Value) : Prop := x.1 = l.2.1 ∧ x.2.1 = l.1 ∧ ∃ t, x.2.2 = .int l.2.2 t
/-- the dict at a: the keys' addresses, the keys, the values; that the tuples stand there is said elsewhere -/
def DXO (P : Program) (w : World) (a : Addr) (L : List (Addr × List Int × Int)) : HO := .ext fun h => ∃ xs, All2 RX L xs ∧ D0 P w h a xs
theorem dxo_new {P : Program} {w : World} {H : Hp} {h : Heap} {a : Addr} {L : List (Addr × List Int × Int)} (R : ∃ xs, All2 RX L xs ∧ D0 P w h a xs) : ObjOk P w H h a (DXO P w a L) := by
  obtain ⟨xs, h1, h2, h3, o, es, ep, ho, r⟩ := R
  refine ⟨⟨xs, h1, h2, h3, o, es, ep, ho, r⟩, ⟨o, ho⟩, fun g1 g2 ⟨ys, k1, k2, k3, o', es', ep', ho', r'⟩ k => ?_⟩
  exact ⟨ys, k1, k2, k3, o', es', ep', k o' ho', r'⟩
def valL (L : List (Addr × List Int × Int)) (k : List Int) : Option Int := (L.find? fun l => decide (l.2.1 = k)).map (·.2.2)
def putL (L : List (Addr × List Int × Int)) (k : List Int) (b : Addr) (n : Int) : List (Addr × List Int × Int) := if (valL L k).isSome = true then L.map (fun l => if l.2.1 = k then (l.1, l.2.1, n) else l) else L ++ [(b, k, n)]
theorem at_rel (k : List Int) : ∀ {L : List (Addr × List Int × Int)} {xs : List (List Int × Addr × Value)}, All2 RX L xs → (∀ n, valL L k = some n → ∃ b t, atKey xs k = some (b, .int n t)) ∧ (valL L k = none → atKey xs k = none)
  | [], [], _ => ⟨(fun n h => nomatch h), fun _ => rfl⟩
  | l :: L, x :: xs, ⟨⟨h1, h2, t, h3⟩, h4⟩ => by
    obtain ⟨i1, i2⟩ := at_rel k h4
    obtain ⟨x1, x2, x3⟩ := x
    simp only at h1 h2 h3
    subst h1 h2 h3
    by_cases z : l.2.1 = k
    · have e1 : valL (l :: L) k = some l.2.2 := by unfold valL; rw [List.find?_cons_of_pos (by simpa using z)]; rfl
      have e2 : atKey ((l.2.1, l.1, Value.int l.2.2 t) :: xs) k = some (l.1, .int l.2.2 t) := by unfold atKey; rw [List.find?_cons_of_pos (by simpa using z)]; rfl
      rw [e1, e2]
      exact ⟨fun n h => by cases h; exact ⟨_, _, rfl⟩, (fun h => nomatch h)⟩
    · have e1 : valL (l :: L) k = valL L k := by unfold valL; rw [List.find?_cons_of_neg (by simpa using z)]
      have e2 : atKey ((l.2.1, l.1, Value.int l.2.2 t) :: xs) k = atKey xs k := by unfold atKey; rw [List.find?_cons_of_neg (by simpa using z)]
      rw [e1, e2]
      exact ⟨i1, i2⟩
  | [], _ :: _, z => z.elim
  | _ :: _, [], z => z.elim
theorem putX_rel {L : List (Addr × List Int × Int)} {xs : List (List Int × Addr × Value)} {k : List Int} {b : Addr} {n : Int} {t : Tok} (h : All2 RX L xs) : All2 RX (putL L k b n) (storedH xs k b (.int n t)) := by
  obtain ⟨i1, i2⟩ := at_rel k h
  unfold putL storedH
  cases e : valL L k with
  | none =>
    rw [i2 e, if_neg (by decide), if_neg (by decide)]
    exact h.snoc ⟨rfl, rfl, _, rfl⟩
  | some m =>
    obtain ⟨b', t', e2⟩ := i1 m e
    rw [e2]
    simp only [Option.isSome_some, if_true]
    have go : ∀ {L : List (Addr × List Int × Int)} {xs : List (List Int × Addr × Value)}, All2 RX L xs → All2 RX (L.map (fun l => if l.2.1 = k then (l.1, l.2.1, n) else l)) (xs.map (putAt k (.int n t))) := by
      intro L
      induction L with
      | nil => intro xs h; cases xs with | nil => exact True.intro | cons _ _ => exact h.elim
      | cons l L ih =>
        intro xs h
        cases xs with
        | nil => exact h.elim
        | cons x xs =>
          obtain ⟨⟨h1, h2, h3⟩, h4⟩ := h
          refine ⟨?_, ih h4⟩
          show RX (if l.2.1 = k then (l.1, l.2.1, n) else l) (putAt k (.int n t) x)
          unfold putAt
          by_cases z : l.2.1 = k
          · rw [if_pos z, if_pos (h1.trans z)]
            exact ⟨h1, h2, t, rfl⟩
          · rw [if_neg z, if_neg fun y => z (h1.symm.trans y)]
            exact ⟨h1, h2, h3⟩
    exact go h
theorem putL_len (L : List (Addr × List Int × Int)) (k : List Int) (b : Addr) (n : Int) : (putL L k b n).length ≤ L.length + 1 := by
  unfold putL
  split <;> simp
section
variable {X : Cx} {pins : List (Addr × Obj)} {σ : L2.St} {H : Hp} {s : Shared} {a p b : Addr} {L : List (Addr × List Int × Int)}
theorem dxo_at (I : Inv X pins σ H s) (hp : H p = some (DXO X.prog X.w a L)) : p = a ∧ ∃ xs, All2 RX L xs ∧ D0 X.prog X.w s.heap a xs := by
  obtain ⟨⟨xs, h1, h2⟩, ⟨o, ho⟩, h3⟩ := (show ObjOk X.prog X.w H s.heap p (DXO X.prog X.w a L) from I.hok p _ hp)
  refine ⟨?_, xs, h1, h2⟩
  rcases Classical.em (p = a) with z | z
  · exact z
  · obtain ⟨G, g1, g2⟩ := restrict s.heap fun b => decide (b ≠ a)
    obtain ⟨ys, k1, k2, k3, o2, es, ep, k4, _⟩ := h3 s.heap G ⟨xs, h1, h2⟩ fun o e => (g1 p (by simpa using z)).trans e
    rw [g2 a (by simp)] at k4
    cases k4
theorem dxo_full {xs : List (List Int × Addr × Value)} (h : D0 X.prog X.w s.heap a xs) (r : All2 RX L xs) (hk : ∀ l ∈ L, L2.IsT X.prog X.w s.heap l.2.1 l.1) : s.heap.DictOfH (tupleKind (intKind X.prog X.w)) a xs := by
  obtain ⟨_, _, o, es, ep, h1, h2, h3, h4, h5⟩ := h
  refine ⟨o, es, ep, h1, h2, h3, h4, fun x hx => ?_, h5⟩
  have go : ∀ {L : List (Addr × List Int × Int)} {xs : List (List Int × Addr × Value)}, All2 RX L xs → ∀ x ∈ xs, ∃ l ∈ L, x.1 = l.2.1 ∧ x.2.1 = l.1 := by
    intro L
    induction L with
    | nil => intro xs h x hx; cases xs with | nil => cases hx | cons _ _ => exact h.elim
    | cons l L ih =>
      intro xs h x hx
      cases xs with
      | nil => cases hx
      | cons y xs =>
        rcases List.mem_cons.mp hx with e | hx
        · subst e
          exact ⟨l, List.mem_cons_self, h.1.1, h.1.2.1⟩
        · obtain ⟨l', m, r⟩ := ih h.2 x hx
          exact ⟨l', List.mem_cons_of_mem _ m, r⟩
  obtain ⟨l, hl, e1, e2⟩ := go r x hx
  show L2.IsT X.prog X.w s.heap x.1 x.2.1
  rw [e1, e2]
  exact hk l hl
/-- d.get(k, e) -/
def rGetX (K : PySem.W.Frag) (P : Program) (w : World) : V → List V → Hp → VK → Prop := fun x xs H Q => ∃ (p a : Addr) (L : List (Addr × List Int × Int)) (b : Addr) (k : List Int) (z : V), x = V.ref p ∧ xs = [V.ref b, z] ∧ H p = some (DXO P w a L) ∧ (∀ l ∈ L, SqT K H l.1 (l.2.1.map V.int)) ∧ SqT K H b (k.map V.int) ∧
  (∀ n, valL L k = some n → Q (.int n) H) ∧ (valL L k = none → Q z H)
theorem mt_getX (hu : X.A.units + 1 < cLine) : MtR X "dict.get" (rGetX X.K X.prog X.w) := by
  intro pins s σ H x xs v us Q I rx rxs ⟨p, a, L, b, k, z, e1, e2, hp, hL, hb, q1, q2⟩
  subst e1 e2
  obtain ⟨e, ys, r, d⟩ := dxo_at I hp
  subst e
  obtain ⟨u1, u2, rfl, r1, r2⟩ := vals2 rxs
  cases rx
  cases (show u1 = Value.ref b from r1)
  have D := dxo_full d r fun l hl => I.isT (hL l hl)
  refine call_meetsIn PySem.F.slot_dict_get D.typeIs PySem.F.entry_dict_get (PySem.F.args_dict_get_3 _ _ _) (meetsH_dict_get_default (tupleKind (intKind X.prog X.w)) p b d.1 u2) ⟨tupleKind_room_in1 hu, k, ys, I.isT hb, D, ?_⟩
  obtain ⟨i1, i2⟩ := at_rel k r
  cases hv : valL L k with
  | some n =>
    obtain ⟨b', t, e⟩ := i1 n hv
    rw [e]
    exact ⟨.int n, H, I.tok _, ⟨t, rfl⟩, q1 n hv⟩
  | none =>
    rw [i2 hv]
    exact ⟨z, H, I.tok _, r2, q2 hv⟩
/-- d[k] = n -/
def rPutX (K : PySem.W.Frag) (P : Program) (w : World) : TSet := fun o i v H Q => ∃ (p a : Addr) (L : List (Addr × List Int × Int)) (b : Addr) (k : List Int) (n : Int), o = V.ref p ∧ i = V.ref b ∧ v = .int n ∧ H p = some (DXO P w a L) ∧ (∀ l ∈ L, SqT K H l.1 (l.2.1.map V.int)) ∧ SqT K H b (k.map V.int) ∧ L.length < sizeLine ∧
  Q (upd H p (DXO P w p (putL L k b n)))
theorem set_putX (hu : X.A.units + 1 < cLine) : PSet X (rPutX X.K X.prog X.w) := by
  intro pins s σ H o i v ov iv u Q I ro ri rv ⟨p, a, L, b, k, n, e1, e2, e3, hp, hL, hb, hz, q⟩
  subst e1 e2 e3
  obtain ⟨e, ys, r, d⟩ := dxo_at I hp
  subst e
  cases (show ov = Value.ref p from ro)
  cases (show iv = Value.ref b from ri)
  obtain ⟨t, rfl⟩ := rv
  have D := dxo_full d r fun l hl => I.isT (hL l hl)
  refine wpAny_setItem_heap (hsz := d.2.1) (tupleKind_room_in1 hu) (I.isT hb) D fun h' ⟨o', es, ep, h1, h2, h3, h4, _, h5⟩ hs => ⟨_, ?_, q⟩
  have hlen := (putX_rel (k := k) (b := b) (n := n) (t := t) r).length
  have hll := putL_len L k b n
  exact I.write (e := p) (by rw [hp]; trivial) (.inl rfl) (fun c u hc e => (hs.2 c hc).trans e) ⟨o', h1⟩ (dxo_new ⟨_, putX_rel r, d.1, by omega, o', es, ep, h1, h2, h3, h4, h5⟩)
/-- {} -/
def tNewX (P : Program) (w : World) : TE := fun _ H Q => ∀ p, H p = none → Q (.ref p) (upd H p (DXO P w p []))
theorem pe_dnewX {pos : Pos} : PE X (.Dict [] [] pos) (tNewX X.prog X.w) := ⟨fun pins s σ H Q I h =>
  wpAny_Dict_empty ⟨.ref s.heap.objs.size, _, I.laid (a := s.heap.objs.size) (o := DXO X.prog X.w s.heap.objs.size []) (t' := s.toks) (fun _ _ q => Heap.get?_push_of_some _ q) (Nat.le_refl _)
    (dxo_new ⟨[], True.intro, beq_eq_false_iff_ne.mpr (Ne.symm (Nat.ne_of_lt I.big)), Nat.zero_le _, _, #[], 0, Heap.get?_push_size _ rfl, ⟨rfl, rfl, rfl⟩, rfl, rfl, List.nodup_nil⟩), rfl, h _ (I.hok.fresh (Nat.le_refl _))⟩⟩
/-- a method of such a dict -/
def tBMX (P : Program) (w : World) (r : V → List V → Hp → VK → Prop) (to : TE) (t : TA) : TE := fun σ H Q => to σ H fun x H1 => (∃ p a L, x = .ref p ∧ H1 p = some (DXO P w a L)) ∧ t σ H1 fun xs H2 => r x xs H2 Q
theorem pe_bmX {o e : Expr} {es : List Expr} {name : Str} {id : String} {apos cpos : Pos} {r : V → List V → Hp → VK → Prop} {to : TE} {t : TA} (slot : Slot "dict" name id) (hty : typeOf (.builtin id) = pure (.type "method_descriptor")) (hm : MtR X id r) (ho : PE X o to) (ha : PA X (e :: es) t)
    (hbase : attributeBase o name X.env (eval o X.env) = eval o X.env := by rfl) (hfew : ((backTo cpos (starEach (e :: es) X.env)).all (fun x => !x.1) && (backToKw cpos (keywordEach [] X.env)).all (fun x => x.1.isSome) && decide ((e :: es).length + ([] : List Keyword).length + (if ([] : List Keyword).isEmpty then 0 else 1) < 30)) = true := by rfl)
    (hline : (apos.endLine == cpos.line) = true := by rfl) (hs : starEach (e :: es) X.env = (false, eval e X.env) :: starEach es X.env := by rfl) (hplain : (backTo cpos (starEach es X.env)).any (·.1) = false := by rfl) : PE X (.Call (.Attribute o name apos) (e :: es) [] cpos) (tBMX X.prog X.w r to t) := by
  refine ⟨fun pins s σ H Q I h => wpAny_Call_method_late hbase hfew hline rfl (thn (ho.run pins s σ H _ I h) fun v s1 ⟨x, H1, I1, r1, ⟨p, a, L, ex, hp⟩, q1⟩ => ?_)⟩
  subst ex
  cases r1
  obtain ⟨e, ys, _, d⟩ := dxo_at I1 hp
  subst e
  obtain ⟨_, _, ob, _, _, h1, h2, _⟩ := d
  refine ⟨"dict", id, PySem.F.plainAttrs_dict, slot, hty, ⟨ob, h1, h2.1⟩, fun a ea => by cases ea; exact ⟨ob, h1, h2.2.1⟩, ?_⟩
  have hA := ha.run cpos pins s1 σ H1 _ I1 q1
  rw [hs] at hA ⊢
  exact Calls.callWith_builtin (by show (false || (backTo cpos (starEach es X.env)).any (·.1)) = false; rw [hplain]; rfl) (Calls.evalArgs_plain (thn hA fun us s2 ⟨vs2, H2, I2, r2, q2⟩ => hm pins s2 σ H2 (.ref p) vs2 _ us Q I2 rfl r2 q2))
end
/-! the def's own dict -/
def valD (d : List (List Int × Int)) (k : List Int) : Option Int := (d.find? fun p => decide (p.1 = k)).map (·.2)
def putD (d : List (List Int × Int)) (k : List Int) (n : Int) : List (List Int × Int) := if (valD d k).isSome = true then d.map (fun p => if p.1 = k then (p.1, n) else p) else d ++ [(k, n)]
def putC (d : List (List Int × Int)) (k : List Int) (n : Int) : Option (List (List Int × Int)) := if d.length ≤ 1000000 then some (putD d k n) else none
theorem valL_map (k : List Int) : ∀ L : List (Addr × List Int × Int), valL L k = valD (L.map (·.2)) k
  | [] => rfl
  | l :: L => by
    have ih := valL_map k L
    unfold valL valD at ih ⊢
    rw [List.map_cons]
    by_cases z : l.2.1 = k
    · rw [List.find?_cons_of_pos (by simpa using z), List.find?_cons_of_pos (by simpa using z)]
      rfl
    · rw [List.find?_cons_of_neg (by simpa using z), List.find?_cons_of_neg (by simpa using z)]
      exact ih
theorem putL_map (L : List (Addr × List Int × Int)) (k : List Int) (b : Addr) (n : Int) : (putL L k b n).map (·.2) = putD (L.map (·.2)) k n := by
  unfold putL putD
  rw [valL_map]
  split
  · rw [List.map_map, List.map_map]
    refine List.map_congr_left fun l _ => ?_
    show (if l.2.1 = k then (l.1, l.2.1, n) else l).2 = if l.2.1 = k then (l.2.1, n) else l.2
    split <;> rfl
  · rw [List.map_append]
    rfl
theorem putL_mem {L : List (Addr × List Int × Int)} {k : List Int} {b : Addr} {n : Int} {l : Addr × List Int × Int} (h : l ∈ putL L k b n) : (l.1 = b ∧ l.2.1 = k) ∨ ∃ l' ∈ L, l.1 = l'.1 ∧ l.2.1 = l'.2.1 := by
  unfold putL at h
  split at h
  · obtain ⟨l', m, e⟩ := List.mem_map.mp h
    subst e
    refine .inr ⟨l', m, ?_⟩
    split <;> exact ⟨rfl, rfl⟩
  · rcases List.mem_append.mp h with m | m
    · exact .inr ⟨l, m, rfl, rfl⟩
    · rw [List.mem_singleton.mp m]
      exact .inl ⟨rfl, rfl⟩
def oDX (P : Program) (w : World) : Og (List (List Int × Int)) := ⟨fun H u d => ∃ a L, u = DXO P w a L ∧ L.map (·.2) = d ∧ ∀ l ∈ L, TupAt H l.1 (l.2.1.map V.int), fun e ⟨a, L, h1, h2, h3⟩ => ⟨a, L, h1, h2, fun l m => (h3 l m).mono e⟩⟩
section
variable {X : Cx} {C : Cs} {env kp : Gh → List Sl} {e a b c : Expr} {rest : List Stmt} {pos p px : Pos} {β γ ρ : Type} {r : Rp ρ} {mk : W (List Int)} {mv : W Int} {pn : β → Gh → List Sl} {pl : γ → Gh → List Sl} {i : Nat}
theorem xs_setX0 {x : Str} {py : Pos} {K : W (Fl ρ β γ)} (hr : PSs X rest (tF C (fun g => (env g).set i (.ob (oDX X.prog X.w) [])) K pn pl kp r)) (hN : X.N.Nodup) (hi : X.N[i]? = some x) (hx : Loc X.env.scope x) (hs : swapsWith (.Dict [] [] p) (some (.Name x py)) pos.line X.env = pure false)
    (hf : X.fn x = true) : PSs X (.Assign [.Name x py] (.Dict [] [] p) pos :: rest) (tF C env K pn pl kp r) :=
  pss_imp (pss_cons (ps_set hN hi hx pe_dnewX hs (.inl hf)) hr) fun D σ H _ ⟨S, g0, P, F, em, q⟩ q0 hq =>
    ⟨S, g0, P, F.setOb i hq ⟨q0, [], rfl, rfl, (fun _ h => nomatch h)⟩ (fun _ z => nomatch z), em, q⟩
theorem key_of_qT {S : Hp} {y : V} {k : List Int} (h : (qT qI).p S y k) : ∃ b, y = V.ref b ∧ TupAt S b (k.map V.int) := by
  obtain ⟨t, vs, ev, hp, ha⟩ := h
  have e := flat_ints ha
  subst e
  exact ⟨t, ev, hp⟩
/-- d[k] = e -/
theorem xs_putX {x : Str} {ps : Pos} {d : List (List Int × Int)} {K : List (List Int × Int) → W (Fl ρ β γ)} (hu : X.A.units + 1 < cLine) (hv : PE X e (tE C env qI mv)) (hd : PE X (.Name x px) (tVar i)) (hb : PE X b (tE C env (qT qI) mk)) (hr : ∀ ys, PSs X rest (tF C (fun g => (env g).set i (.ob (oDX X.prog X.w) ys)) (K ys) pn pl kp r)) (hi : ∀ g, (env g)[i]? = some (.ob (oDX X.prog X.w) d) := by intro _; rfl)
    (ha : ∀ v, assign (.Subscript (.Name x px) b ps) X.env v = (do
      let ov ← holding [v] (eval (.Name x px) X.env)
      let iv ← holding [v, ov] (eval b X.env)
      standAt ps
      holding [v, ov, iv] (setItem ov iv v)
      release [v, ov, iv] []) := by intro _; rfl)
    (hs : swapsWithSole [.Subscript (.Name x px) b ps] e pos.line X.env = pure false := by rfl) (hw : swappedStores [.Subscript (.Name x px) b ps] e X.env = pure none := by rfl) (h1 : (assignEach [.Subscript (.Name x px) b ps] X.env).map (·.2) = [assign (.Subscript (.Name x px) b ps) X.env] := by rfl) :
    PSs X (.Assign [.Subscript (.Name x px) b ps] e pos :: rest) (tF C env (mv.bind fun v => mk.bind fun k => (ofO (putC d k v)).bind K) pn pl kp r) :=
  pss_imp (pss_cons (ps_asg hv (pg_sub hd hb (set_putX hu) ha) hs hw h1) (pss_ex hr)) fun D σ H _ ⟨S, g0, P, F, em, q⟩ => ⟨S, g0, _, F, em, fun v g1 pv u S1 H1 F1 x1 hu => by
    obtain ⟨w1, ew1, p1, u1, e1, sp1, hp1, _⟩ := F1.sl.get i (hi _)
    subst e1
    refine ⟨.ref p1, ew1, S1, g1, _, F1, pv, fun k g2 ⟨ys, ey, py⟩ y S2 H2 F2 x2 hy => ?_⟩
    obtain ⟨w2, ew2, p2, u2, e2, sp2, hp2, a2, L, eu2, ed, hL⟩ := F2.sl.get i (hi _)
    subst e2
    rw [ew1] at ew2
    cases ew2
    subst eu2
    unfold putC at ey
    split at ey
    case isFalse => cases ey
    rename_i hl
    cases ey
    obtain ⟨b2, eb, hb2⟩ := key_of_qT hy
    have hlen : L.length = d.length := by rw [← ed, List.length_map]
    refine ⟨p1, a2, L, b2, k, v, rfl, eb, hu, hp2, fun l m => ((hL l m).mono F2.e1).sq, (hb2.mono F2.e1).sq, by rw [sizeLine_eq]; omega, putD d k v, S2, g2, P, ?_, py, fun o g9 po => (q o g9 po).mono (x1.trans x2)⟩
    refine F2.writeOb (hi _) ew1 ⟨p1, _, rfl, by rw [putL_map, ed], fun l m => ?_⟩ (fun _ z => nomatch z)
    rcases putL_mem m with ⟨m1, m2⟩ | ⟨l', m0, m1, m2⟩
    · rw [m1, m2]; exact hb2
    · rw [m1, m2]; exact hL l' m0⟩
/-- d.get(k, e) -/
theorem xe_getX {x : Str} {pa pc : Pos} {d : List (List Int × Int)} (hu : X.A.units + 1 < cLine) (hd : PE X (.Name x px) (tVar i)) (hb : PE X b (tE C env (qT qI) mk)) (hc : PE X c (tE C env qI mv)) (hi : ∀ g, (env g)[i]? = some (.ob (oDX X.prog X.w) d) := by intro _; rfl)
    (hbase : attributeBase (.Name x px) "get" X.env (eval (.Name x px) X.env) = eval (.Name x px) X.env := by rfl) (hfew : ((backTo pc (starEach [b, c] X.env)).all (fun x => !x.1) && (backToKw pc (keywordEach [] X.env)).all (fun x => x.1.isSome) && decide (([b, c] : List Expr).length + ([] : List Keyword).length + (if ([] : List Keyword).isEmpty then 0 else 1) < 30)) = true := by rfl)
    (hline : (pa.endLine == pc.line) = true := by rfl) (hs : starEach [b, c] X.env = (false, eval b X.env) :: starEach [c] X.env := by rfl) (hs2 : starEach [c] X.env = (false, eval c X.env) :: starEach [] X.env := by rfl) (hplain : (backTo pc (starEach [c] X.env)).any (·.1) = false := by rfl) :
    PE X (.Call (.Attribute (.Name x px) "get" pa) [b, c] [] pc) (tE C env qI (mk.bind fun k => mv.bind fun z => .ret ((valD d k).getD z))) :=
  pe_imp (pe_bmX PySem.F.slot_dict_get PySem.F.type_dict_get (mt_getX hu) hd (pa_cons hb (pa_cons hc pa_nil hs2) hs) hbase hfew hline hs hplain) fun σ H Q _ ⟨S, g0, P, F, em, kk⟩ => by
    obtain ⟨w1, ew1, p1, u1, e1, sp1, hp1, a1, L1, eu1, ed1, hL1⟩ := F.sl.get i (hi _)
    subst e1 eu1
    refine ⟨.ref p1, ew1, ⟨p1, a1, L1, rfl, hp1⟩, S, g0, _, F, em, fun k g1 pk y S1 H1 F1 x1 hy => ⟨S1, g1, _, F1, pk, fun z g2 pz v2 S2 H2 F2 x2 hz => ?_⟩⟩
    obtain ⟨w2, ew2, p2, u2, e2, sp2, hp2, a2, L, eu2, ed, hL⟩ := F2.sl.get i (hi _)
    subst e2
    rw [ew1] at ew2
    cases ew2
    subst eu2
    obtain ⟨b2, eb, hb2⟩ := key_of_qT ((qT qI).mono x2 hy)
    subst eb
    have hz : v2 = V.int z := hz
    subst hz
    refine ⟨p1, a2, L, b2, k, _, rfl, rfl, hp2, fun l m => ((hL l m).mono F2.e1).sq, (hb2.mono F2.e1).sq, fun n hn => ?_, fun hn => ?_⟩
    · have e : valD d k = some n := by rw [← ed, ← valL_map]; exact hn
      exact fun _ => kk _ _ pz _ S2 H2 F2 (x1.trans x2) (by rw [e]; rfl)
    · have e : valD d k = none := by rw [← ed, ← valL_map]; exact hn
      exact fun _ => kk _ _ pz _ S2 H2 F2 (x1.trans x2) (by rw [e]; rfl)
end
end Rt

set_option maxRecDepth 100000
set_option maxHeartbeats 4000000
/-! RtC: sorted(set(t)), t a tuple of ints; math.perm. -/
namespace Rt
open PySem L2 Rt PyProof.Rows
def ddI : List Int → List Int
  | [] => []
  | x :: xs => if (ddI xs).contains x = true then ddI xs else x :: ddI xs
theorem ddI_mem {y : Int} : ∀ {xs : List Int}, y ∈ ddI xs ↔ y ∈ xs
  | [] => Iff.rfl
  | x :: xs => by
    unfold ddI
    split
    · rename_i h
      have hx : x ∈ ddI xs := by simpa using h
      rw [ddI_mem, List.mem_cons]
      exact ⟨.inr, fun z => z.elim (fun e => by rw [e]; exact ddI_mem.mp hx) id⟩
    · rw [List.mem_cons, List.mem_cons, ddI_mem]
theorem ddI_nodup : ∀ xs : List Int, (ddI xs).Nodup
  | [] => .nil
  | x :: xs => by
    unfold ddI
    split
    · exact ddI_nodup xs
    · rename_i h
      exact List.nodup_cons.mpr ⟨fun z => h (by simpa using z), ddI_nodup xs⟩
/-- sorted(set(xs)), fewer than 64 ints -/
def sortSetI (xs : List Int) : Option (List Int) := if xs.length < 64 then some (sortI (ddI xs)) else none
section
variable {X : Cx}
def rSetI (K : PySem.W.Frag) (w : World) : List V → Hp → VK → Prop := fun xs H Q => ∃ (l : Addr) (ns : List Int), xs = [V.ref l] ∧ SqT K H l (ns.map V.int) ∧ ns.length < 64 ∧
  ∀ a n, H a = none → n ≤ ns.length → Q (.ref a) (upd H a (SetO w a (fun j => decide (j ∈ ns)) n))
theorem cr_setI (hc : X.calm = true) : CallR X (.type "set") (rSetI X.K X.w) := by
  intro pins s σ H xs us Q I r h
  obtain ⟨l, ns, rfl, hl, hz, q⟩ := h
  rw [Vals.ref1 r]
  obtain ⟨its, rv, ht, _⟩ := I.tuple hl
  refine call_set_tupI ns (I.ok.hd hc) (show s.heap.IsTuple l its.toArray from ht) (by simpa using rv.ints) (by unfold scanBound; omega) fun h' tk c R1 hcn k => ?_
  exact ⟨.ref _, upd H s.heap.objs.size (SetO X.w s.heap.objs.size (fun j => decide (j ∈ ns)) c), I.laid (t' := tk) k (Nat.le_refl _) (setO_new R1), rfl, q _ c (I.hok.fresh (Nat.le_refl _)) hcn⟩
end
section
variable {X : Cx} {C : Cs} {env : Gh → List Sl} {a b : Expr} {pos pos2 p p2 : Pos} {mx : W (List Int)} {ma mb : W Int}
theorem xn_sortedSetI (hc : X.calm = true) (hg : Gl X "sorted") (hm : X.mg "sorted" = none) (hg2 : Gl X "set") (hm2 : X.mg "set" = none) (ha : PE X a (tQ C env false qI mx)) (hs : starEach [a] X.env = (false, eval a X.env) :: starEach [] X.env := by rfl)
    (hs2 : starEach [.Call (.Name "set" p2) [a] [] pos2] X.env = (false, eval (.Call (.Name "set" p2) [a] [] pos2) X.env) :: starEach [] X.env := by rfl) :
    PE X (.Call (.Name "sorted" p) [.Call (.Name "set" p2) [a] [] pos2] [] pos) (tN C env qI (mx.bind fun xs => ofO (sortSetI xs))) :=
  pe_imp (pe_callB (cr_sortedSet hc) hg hm (by decide +kernel) (pa_cons (pe_callTy (cr_setI hc) hg2 hm2 (by decide +kernel) (pa_cons ha pa_nil hs) (by decide) (by decide) hs (by rfl)) pa_nil hs2) (by decide) (by decide) hs2 (by rfl)) fun σ H Q _ ⟨S, g0, P, F, em, kk⟩ => ⟨S, g0, _, F, em, fun xs g1 ⟨z, ez, pz⟩ p S1 H1 F1 x1 rd => by
    obtain ⟨vs, hp, h2⟩ := rd _ S1 H1 F1 (Ex.refl S1)
    have e := flat_ints h2
    subst e
    unfold sortSetI at ez
    split at ez
    · rename_i hc
      cases ez
      refine ⟨p, xs, rfl, TupAt.sq hp, hc, fun a n hn hle => ?_⟩
      have F2 := F1.add (o := SetO X.w a (fun j => decide (j ∈ xs)) n) hn
      refine ⟨a, _, n, rfl, if_pos rfl, by omega, fun ns l hpw hmem hlen hl => ?_⟩
      have e : ns = sortI (ddI xs) := by
        refine sorted_unique ?_ (hpw.imp fun h => Int.le_of_lt h) (sortI_sorted _)
        refine List.Perm.trans ?_ (sortI_perm _).symm
        refine (List.perm_ext_iff_of_nodup (hpw.imp fun h => Int.ne_of_lt h) (ddI_nodup xs)).mpr fun y => ?_
        rw [hmem, ddI_mem]
        simp
      rw [e]
      exact fun _ => kk _ _ pz l _ S1 _ F2 x1 hl (All2.of_map (f := V.int) _)
    · cases ez⟩
end
def permC (i j : Int) : Option Int := if 0 ≤ i ∧ 0 ≤ j ∧ i < 2 ^ 64 ∧ j ≤ 20000 then some (PySem.W.mcPerm i j) else none
theorem cr_perm {X : Cx} : CallR X (.builtin "math.perm") (fun xs H Q => ∃ i j z, xs = [.int i, .int j] ∧ permC i j = some z ∧ Q (.int z) H) := by
  intro pins s σ H xs us Q I r ⟨i, j, z, ex, ez, q⟩
  subst ex
  obtain ⟨u1, u2, rfl, r1, r2⟩ := vals2 r
  obtain ⟨t1, rfl⟩ := r1
  obtain ⟨t2, rfl⟩ := r2
  unfold permC at ez
  split at ez
  case isFalse => cases ez
  rename_i h
  cases ez
  exact PySem.W.mc_perm h.1 h.2.1 h.2.2.1 h.2.2.2 fun _ => ⟨.int _, H, I.tok _, ⟨_, rfl⟩, q⟩
section
variable {X : Cx} {C : Cs} {env : Gh → List Sl} {a b : Expr} {pos p : Pos} {mi mj : W Int}
theorem xe_perm (hg : Gl X "perm") (hm : X.mg "perm" = some (.builtin "math.perm")) (ha : PE X a (tE C env qI mi)) (hb : PE X b (tE C env qI mj))
    (hs : starEach [a, b] X.env = (false, eval a X.env) :: starEach [b] X.env := by rfl) (hs2 : starEach [b] X.env = (false, eval b X.env) :: starEach [] X.env := by rfl) (hpl : (backTo pos (starEach [b] X.env)).any (·.1) = false := by rfl) :
    PE X (.Call (.Name "perm" p) [a, b] [] pos) (tE C env qI (mi.bind fun i => mj.bind fun j => ofO (permC i j))) := xe_cb2 (f := permC) cr_perm hg hm ha hb hs hs2 (by decide) hpl
end
/-! t * k, k = 1 among the k: t itself -/
theorem tuple_mul1 (l : Addr) (items : Array Value) (n : Nat) (dd : Option Addr) (sl : Array (Option Value)) (u : Tok) (c0 : (decide ((1 : Int) < -(2 ^ 63)) || decide ((1 : Int) ≥ 2 ^ 63)) = false) (c1 : (items.isEmpty || (1 : Int) == 1) = true) :
    Meets (Builtin.«tuple.__mul__» ⟨[.ref l, .int 1 u], []⟩) (fun _ R s => s.heap.get? l = some { cls := .type "tuple", dict := dd, data := .seq items n, slots := sl } ∧ R (.ok (.ret (.ref l))) s) :=
  .of_wp fun prog w A R s h => by
    obtain ⟨hp, g, d, tk, os⟩ := s
    obtain ⟨hl, h⟩ := h
    have f1 := AutoSeq1.idx_int
    wp_walk using AutoSeq1.wpAny_loadPart' hl
    repeat (first
      | (refine wpAny_ite_false (decide_eq_false (by rw [c0]; exact Bool.false_ne_true)) ?_; wp_walk using AutoSeq1.wpAny_loadPart' hl)
      | (refine wpAny_ite_true (decide_eq_true c1) ?_; wp_walk using AutoSeq1.wpAny_loadPart' hl))
    exact ⟨_, rfl, h⟩
def rRepW (K : PySem.W.Frag) : R2 := fun x y H Q => ∃ l k xs, x = .ref l ∧ y = .int k ∧ SqT K H l xs ∧ xs ≠ [] ∧ 0 ≤ k ∧ k ≤ 1000 ∧ xs.length ≤ 1000 ∧ (k = 1 → Q (.ref l) H) ∧ (k ≠ 1 → RtU.NewT Q H (List.replicate k.toNat xs).flatten)
theorem op_repW {X : Cx} : OpR X (binaryOp .Mult) (rRepW X.K) := by
  intro pins s σ H x y v u Q I rx ry ⟨l, k, xs, ex, ey, hT, hne, h0, h2, hz, q1, q⟩
  by_cases z : k = 1
  · subst z
    subst ex ey
    cases rx
    obtain ⟨t, rfl⟩ := ry
    obtain ⟨its, r, ⟨⟨cls, dd, data, sl⟩, ho, hc, n, hd⟩, hs⟩ := I.tuple hT
    simp only at hc hd
    subst hc hd
    have c1 : (its.toArray.isEmpty || (1 : Int) == 1) = true := by simp
    refine wpAny_binaryOp_repeat_ref (T := "tuple") (U := "int") (by decide) ⟨_, ho, rfl⟩ (fun s' => typeIs_int s' 1 t) noFill_tuple_mul F.fills_int_mul F.slot_int_rmul repeat_tuple F.slot_int_index.lookup
      (call_meets F.slot_int_rmul (typeIs_int s 1 t) F.entry_int_rmul (F.args_int_rmul_2 _ _) (int_rmul_tuple 1 t l its.toArray n dd sl)
        ⟨ho, rfl, ⟨_, ho, rfl⟩, call_meets F.slot_tuple_mul ⟨_, ho, rfl⟩ F.entry_tuple_mul (F.args_tuple_mul_2 _ _) (tuple_mul1 l its.toArray n dd sl t rfl c1) ⟨ho, ?_⟩⟩)
    exact ⟨.ref l, H, I.tok _, rfl, q1 rfl⟩
  · exact RtU.op_repU pins s σ H x y v u Q I rx ry ⟨l, k, xs, ex, ey, hT, hne, by omega, h2, hz, q z⟩
def repT1 {α : Type} (xs : List α) (k : Int) : Option (List α) := if xs ≠ [] ∧ 0 ≤ k ∧ k ≤ 1000 ∧ xs.length ≤ 1000 then some (List.replicate k.toNat xs).flatten else none
section
variable {X : Cx} {C : Cs} {env : Gh → List Sl} {a b : Expr} {pos : Pos} {α : Type} {r : Rp α} {mi : W Int}
theorem xe_repT1 {mx : W (List α)} (ha : PE X a (tE C env (qT r) mx)) (hb : PE X b (tE C env qI mi)) : PE X (.BinOp a .Mult b pos) (tE C env (qT r) (mx.bind fun xs => mi.bind fun k => ofO (repT1 xs k))) :=
  xe_op op_repW ha hb fun _ S H σ x y xs k z Q F _ ⟨p, vs, e1, h1, h2⟩ hk ez kk => by
    unfold repT1 at ez
    split at ez
    · rename_i hl
      cases ez
      obtain ⟨n1, n2, n3, n4⟩ := hl
      have lv := All2.length h2
      have nv : vs ≠ [] := fun e => n1 (by
        rw [e] at lv
        exact List.eq_nil_of_length_eq_zero lv.symm)
      refine ⟨p, k, vs, e1, hk, TupAt.sq (TupAt.mono F.e1 h1), nv, n2, n3, by omega, fun z => ?_, fun z u o ho hu => ?_⟩
      · subst z
        have e : (List.replicate (1 : Int).toNat xs).flatten = xs := by simp
        exact kk _ _ _ F (Ex.refl S) ⟨p, vs, rfl, h1, by rw [e]; exact h2⟩
      · have ex := Ex.new (o := .frz o (.tup (List.replicate k.toNat vs).flatten)) (F.e1.back hu)
        exact kk _ _ _ (F.new hu) ex ⟨u, _, rfl, TupAt.new ho, All2.rep (h2.mono fun _ _ z => r.mono ex z) k.toNat⟩
    · cases ez
end
end Rt

set_option maxRecDepth 100000
set_option maxHeartbeats 4000000
/-! RtO: found.setdefault(k, []).append(i): lists of ints in a dict of the def's own. -/
namespace Rt
open PySem L2 Rt PyProof.Rows
/-- what the one statement does -/
def sGrp (fi mi pi : Nat) : TS := fun D σ H => ∃ (d : Addr) (kvs : List (Key × V)) (k pl : Int), σ[fi]? = some (some (.ref d)) ∧ σ[mi]? = some (some (.int k)) ∧ σ[pi]? = some (some (.int pl)) ∧ H d = some (.dK kvs) ∧ kvs.length < sizeLine ∧
  (∀ v, valV kvs (.inl k) = some v → ∃ q xs, v = .ref q ∧ H q = some (.lst xs) ∧ xs.length < sizeLine ∧ ∀ p, H p = none → D.nx σ (upd (upd H p (.lst [])) q (.lst (xs ++ [.int pl])))) ∧
  (valV kvs (.inl k) = none → ∀ p, H p = none → D.nx σ (upd (upd (upd H p (.lst [])) d (.dK (putK kvs (.inl k) (.ref p)))) p (.lst [.int pl])))
section
variable {X : Cx} {o f m pl : Expr} {fi mi pi : Nat} {kk : Nat} {b2 b4 b5 b6 b8 q2 : Pos}
theorem ps_grp (hf : PE X f (tVar fi)) (hm : PE X m (tVar mi)) (hp : PE X pl (tVar pi)) (M : M2 X f "setdefault" b2 m (.List [] b4) b5)
    (hbase : attributeBase (.Call (.Attribute f "setdefault" b2) [m, .List [] b4] [] b5) "append" X.env (eval (.Call (.Attribute f "setdefault" b2) [m, .List [] b4] [] b5) X.env) = eval (.Call (.Attribute f "setdefault" b2) [m, .List [] b4] [] b5) X.env)
    (hfew : ((backTo b8 (starEach [pl] X.env)).all (fun x => !x.1) && (backToKw b8 (keywordEach [] X.env)).all (fun x => x.1.isSome) && decide (([pl] : List Expr).length + ([] : List Keyword).length + (if ([] : List Keyword).isEmpty then 0 else 1) < 30)) = true)
    (hline : (b6.endLine == b8.line) = true) (hst : starEach [pl] X.env = (false, eval pl X.env) :: starEach [] X.env) (hpl : (backTo b8 (starEach [] X.env)).any (·.1) = false)
    (hs : swapsWith (.Call (.Attribute (.Call (.Attribute f "setdefault" b2) [m, .List [] b4] [] b5) "append" b6) [pl] [] b8) none q2.line X.env = pure false) :
    PS X (.Expr (.Call (.Attribute (.Call (.Attribute f "setdefault" b2) [m, .List [] b4] [] b5) "append" b6) [pl] [] b8) q2) (sGrp fi mi pi) :=
  ps_imp (ps_expr (pe_bm PySem.F.plainAttrs_list PySem.F.slot_list_append PySem.F.type_list_append mt_append (pe_dsetd hf hm (pe_lst pa_nil) M) (pa_cons hp pa_nil hst) hbase hfew hline hst hpl) hs) fun D σ H _ ⟨d, kvs, k, i, e1, e2, e3, hd, hl, w1, w2⟩ => by
    have nd : ∀ p, H p = none → d ≠ p := fun p hp z => by rw [← z, hd] at hp; cases hp
    refine ⟨.ref d, e1, d, rfl, .inl ⟨kvs, .inl hd⟩, .int k, e2, Nat.zero_le _, fun p hp => ⟨kvs, .inl k, by rw [upd_ne (nd p hp)]; exact hd, rfl, hl, fun v hv => ?_, fun hv => ?_⟩⟩
    · obtain ⟨q, xs, ev, hq, hx, w⟩ := w1 v hv
      subst ev
      have nq : q ≠ p := fun z => by rw [z, hp] at hq; cases hq
      refine ⟨.inl ⟨rfl, xs, .inl (.inl (by rw [upd_ne nq]; exact hq))⟩, .int i, e3, q, xs, .int i, rfl, rfl, by rw [upd_ne nq]; exact hq, hx, w p hp⟩
    · refine ⟨.inl ⟨rfl, [], .inl (.inl (by rw [upd_ne (nd p hp).symm, upd_same]))⟩, .int i, e3, p, [], .int i, rfl, rfl, by rw [upd_ne (nd p hp).symm, upd_same], ?_, w2 hv p hp⟩
      rw [sizeLine_eq]
      decide
end
/-- i put into the list of k -/
def grp1 : List (Int × List Int) → Int → Int → List (Int × List Int)
  | [], k, i => [(k, [i])]
  | g :: G, k, i => if g.1 = k then (g.1, g.2 ++ [i]) :: G else g :: grp1 G k i
/-- the dict's rows, the groups, the lists' addresses -/
def GL (H : Hp) : List (Key × V) → List (Int × List Int) → List Addr → Prop
  | [], [], [] => True
  | kv :: kvs, g :: G, q :: L => kv = (.inl g.1, .ref q) ∧ H q = some (.lst (g.2.map V.int)) ∧ GL H kvs G L
  | _, _, _ => False
theorem GL.keep {H H' : Hp} : ∀ {kvs : List (Key × V)} {G : List (Int × List Int)} {L : List Addr}, GL H kvs G L → (∀ q ∈ L, ∀ o, H q = some o → H' q = some o) → GL H' kvs G L
  | [], [], [], _, _ => True.intro
  | _ :: _, _ :: _, q :: _, ⟨h1, h2, h3⟩, k => ⟨h1, k q List.mem_cons_self _ h2, h3.keep fun q' m => k q' (List.mem_cons_of_mem _ m)⟩
  | [], [], _ :: _, h, _ => h.elim
  | [], _ :: _, _, h, _ => h.elim
  | _ :: _, [], _, h, _ => h.elim
  | _ :: _, _ :: _, [], h, _ => h.elim
theorem GL.len {H : Hp} : ∀ {kvs : List (Key × V)} {G : List (Int × List Int)} {L : List Addr}, GL H kvs G L → kvs.length = G.length ∧ L.length = G.length
  | [], [], [], _ => ⟨rfl, rfl⟩
  | _ :: _, _ :: _, _ :: _, ⟨_, _, h⟩ => by
    obtain ⟨a, b⟩ := h.len
    simp [a, b]
  | [], [], _ :: _, h => h.elim
  | [], _ :: _, _, h => h.elim
  | _ :: _, [], _, h => h.elim
  | _ :: _, _ :: _, [], h => h.elim
theorem GL.found {H : Hp} {k i : Int} {v : V} : ∀ {kvs : List (Key × V)} {G : List (Int × List Int)} {L : List Addr}, GL H kvs G L → L.Nodup → valV kvs (.inl k) = some v →
    ∃ q xs, v = .ref q ∧ q ∈ L ∧ H q = some (.lst (xs.map V.int)) ∧ (∀ g ∈ G, xs.length ≤ (G.map fun g => g.2.length).sum) ∧ ∀ H' : Hp, H' q = some (.lst ((xs ++ [i]).map V.int)) → (∀ q' ∈ L, q' ≠ q → ∀ o, H q' = some o → H' q' = some o) → GL H' kvs (grp1 G k i) L
  | [], [], [], _, _, h => nomatch h
  | kv :: kvs, g :: G, q :: L, ⟨h1, h2, h3⟩, nd, h => by
    subst h1
    obtain ⟨n1, n2⟩ := List.nodup_cons.mp nd
    by_cases z : g.1 = k
    · have e : valV ((Sum.inl g.1, V.ref q) :: kvs) (Sum.inl k : Key) = some (.ref q) := valV_pos (by rw [z])
      rw [e] at h
      cases h
      refine ⟨q, g.2, rfl, List.mem_cons_self, h2, fun _ _ => by simp, fun H' a b => ?_⟩
      unfold grp1
      rw [if_pos z]
      exact ⟨rfl, a, h3.keep fun q' m o e => b q' (List.mem_cons_of_mem _ m) (fun w => n1 (w ▸ m)) o e⟩
    · have e : valV ((Sum.inl g.1, V.ref q) :: kvs) (Sum.inl k : Key) = valV kvs (Sum.inl k) := valV_neg fun w => z (Sum.inl.inj w)
      rw [e] at h
      obtain ⟨q2, xs, e1, m, e2, e3, w⟩ := GL.found h3 n2 h
      refine ⟨q2, xs, e1, List.mem_cons_of_mem _ m, e2, fun _ _ => ?_, fun H' a b => ?_⟩
      · rw [List.map_cons, List.sum_cons]
        cases G with
        | nil =>
          cases L with
          | nil => cases m
          | cons _ _ => cases kvs <;> exact h3.elim
        | cons g2 G => exact Nat.le_trans (e3 g2 List.mem_cons_self) (Nat.le_add_left _ _)
      · unfold grp1
        rw [if_neg z]
        exact ⟨rfl, b q List.mem_cons_self (fun w => n1 (w ▸ m)) _ h2, w H' a fun q' m' ne o e => b q' (List.mem_cons_of_mem _ m') ne o e⟩
  | [], [], _ :: _, h, _, _ => h.elim
  | [], _ :: _, _, h, _, _ => h.elim
  | _ :: _, [], _, h, _, _ => h.elim
  | _ :: _, _ :: _, [], h, _, _ => h.elim
theorem GL.new {H : Hp} {k i : Int} {p : Addr} (hp : H p = some (.lst [V.int i])) : ∀ {kvs : List (Key × V)} {G : List (Int × List Int)} {L : List Addr}, GL H kvs G L → valV kvs (.inl k) = none → GL H (kvs ++ [(.inl k, .ref p)]) (grp1 G k i) (L ++ [p])
  | [], [], [], _, _ => ⟨rfl, hp, True.intro⟩
  | kv :: kvs, g :: G, q :: L, ⟨h1, h2, h3⟩, h => by
    subst h1
    have z : ¬ g.1 = k := fun z => by
      rw [valV_pos (by rw [z])] at h
      cases h
    rw [valV_neg fun w => z (Sum.inl.inj w)] at h
    unfold grp1
    rw [if_neg z]
    exact ⟨rfl, h2, GL.new hp h3 h⟩
  | [], [], _ :: _, h, _ => h.elim
  | [], _ :: _, _, h, _ => h.elim
  | _ :: _, [], _, h, _ => h.elim
  | _ :: _, _ :: _, [], h, _ => h.elim
theorem grp1_len : ∀ (G : List (Int × List Int)) (k i : Int), (grp1 G k i).length ≤ G.length + 1
  | [], _, _ => Nat.le_refl _
  | g :: G, k, i => by
    unfold grp1
    split
    · simp
    · have := grp1_len G k i
      simp only [List.length_cons]
      omega
theorem grp1_sum : ∀ (G : List (Int × List Int)) (k i : Int), ((grp1 G k i).map fun g => g.2.length).sum = (G.map fun g => g.2.length).sum + 1
  | [], _, _ => rfl
  | g :: G, k, i => by
    unfold grp1
    split
    · simp
      omega
    · have := grp1_sum G k i
      simp only [List.map_cons, List.sum_cons]
      omega
/-- all of them -/
def grps (ps : List (Int × Int)) (G : List (Int × List Int)) : List (Int × List Int) := ps.foldl (fun G p => grp1 G p.2 p.1) G
theorem grps_size : ∀ (ps : List (Int × Int)) (G : List (Int × List Int)), (grps ps G).length ≤ G.length + ps.length ∧ ((grps ps G).map fun g => g.2.length).sum = (G.map fun g => g.2.length).sum + ps.length
  | [], _ => ⟨Nat.le_refl _, rfl⟩
  | p :: ps, G => by
    obtain ⟨a, b⟩ := grps_size ps (grp1 G p.2 p.1)
    have c := grp1_len G p.2 p.1
    have d := grp1_sum G p.2 p.1
    refine ⟨?_, ?_⟩
    · show (grps ps (grp1 G p.2 p.1)).length ≤ _
      rw [List.length_cons]
      omega
    · show ((grps ps (grp1 G p.2 p.1)).map fun g => g.2.length).sum = _
      rw [b, d, List.length_cons]
      omega
theorem Fr.chain {C : Cs} {S H S' H' : Hp} {σ σ' : L2.St} {env env' : List Sl} (F : Fr C S H σ env) (G : Fr (Cs.at S H σ env) S' H' σ' env') : Fr C S' H' σ' env' := by
  refine ⟨F.e0.trans G.e0, G.e1, fun b o e n => G.e2 b o (F.e2 b o e n) fun z => ?_, fun b h1 h2 => G.nw b (F.nw b h1 h2) (F.al b h2), fun b h => G.al b (F.al b h), G.sl, fun p hp => ?_, G.nd, G.tc⟩
  · rcases F.ow b z with q | q
    · rw [q] at e; cases e
    · exact n q
  · rcases G.ow p hp with q | q
    · exact .inl (F.H0none q)
    · exact F.ow p q
theorem pi_ex {X : Cx} {tg e : Expr} {ι : Type} {wi : ι → TI} (h : ∀ a, PI X tg e (wi a)) : PI X tg e (fun σ H R => ∃ a, wi a σ H R) := ⟨fun pins s σ H R I ⟨a, q⟩ => (h a).run pins s σ H R I q⟩
/-- an object that no slot owns, and that the caller doesn't know -/
def Fre (C : Cs) (S : Hp) (σ : L2.St) (env : List Sl) (p : Addr) : Prop := S p = none ∧ C.H0 p = none ∧ p ∉ owns σ env
section
variable {X : Cx} {C : Cs} {env : List Sl} {tg iter : Expr} {st : Stmt} {fi mi pi : Nat} {mx : W (List (Int × Int))} {pos : Pos}
def sGrps (C : Cs) (env : List Sl) (fi : Nat) (mx : W (List (Int × Int))) : TS := fun D σ H => ∃ S g P d, Fr C S H σ env ∧ mx g P ∧ σ[fi]? = some (some (.ref d)) ∧ H d = some (.dK []) ∧ Fre C S σ env d ∧
  ∀ ps g', P ps g' → ∀ S' H' σ' kvs L, Fr C S' H' σ' env → Ex S S' → σ'[fi]? = some (some (.ref d)) → H' d = some (.dK kvs) → GL H' kvs (grps ps []) L → (d :: L).Nodup → (∀ q ∈ d :: L, Fre C S' σ' env q) → D.nx σ' H'
theorem ps_grps {up : Up (Int × Int)} (hp : PassesOwn (model X.prog X.w) X.A X.env X.xe) (hc : X.calm = true) (hi : ∀ C', PI X tg iter (tS C' (fun _ => env) (qW qI qI) mx)) (hg : PG X tg (tG (qW qI qI) up)) (hb : PS X st (sGrp fi mi pi))
    (hU : ∀ j ∈ up.js, env[j]? = some .un) (hL : ∀ a, Le (up.f a env) env) (hf : fi ∉ up.js) (hm : ∀ a, (up.f a env)[mi]? = some (.im qI a.2)) (hpi : ∀ a, (up.f a env)[pi]? = some (.im qI a.1)) (hs : ∀ x, foldedSetIterable iter X.env x = pure x := by intro _; rfl) :
    PS X (.For tg iter [st] [] pos) (sGrps C env fi mx) :=
  ps_imp (ps_for hp hc (pi_ex hi) hg (pss_cons hb pss_nil) hs) fun D σ H _ ⟨S, g0, P, d, F, em, ef, hd, hfd, q⟩ => ⟨Cs.at S H σ env, S, g0, P, F.here, em, fun ps g1 pm J S1 H1 F1' x1 W1 => by
    have F1 := F.chain F1'
    have hd1 : H1 d = some (.dK []) := F1'.e2 d _ hd hfd.2.2
    have sd1 : S1 d = none := F1'.nw d hfd.1 (by show H d ≠ none; rw [hd]; exact fun z => nomatch z)
    refine ⟨fun i m σ H => m = ps.length - i ∧ i ≤ ps.length ∧ ∃ S kvs L, Fr C S H σ env ∧ Ex S1 S ∧ σ[fi]? = some (some (.ref d)) ∧ H d = some (.dK kvs) ∧ GL H kvs (grps (ps.take i) []) L ∧ (d :: L).Nodup ∧ ∀ q ∈ d :: L, Fre C S σ env q,
      ⟨ps.length, rfl, Nat.zero_le _, S1, [], [], F1, Ex.refl S1, ef, hd1, True.intro, by simp, fun q hq => by rw [List.mem_singleton.mp hq]; exact ⟨sd1, hfd.2.1, hfd.2.2⟩⟩, ?_⟩
    rintro i m σ2 H2 ⟨rfl, hi2, S2, kvs, L, F2, x2, ef2, hd2, hG, nd, fr⟩
    by_cases hlt : i < ps.length
    · have hxi : ps[i]? = some ps[i] := List.getElem?_eq_getElem hlt
      refine .inr ⟨W1.go i hlt F2 x2, fun σ' H' => ∃ S kvs L, Fr C S H' σ' env ∧ Ex S1 S ∧ σ'[fi]? = some (some (.ref d)) ∧ H' d = some (.dK kvs) ∧ GL H' kvs (grps (ps.take (i + 1)) []) L ∧ (d :: L).Nodup ∧ ∀ q ∈ d :: L, Fre C S σ' env q, fun σ' H' h' => ⟨ps.length - (i + 1), by omega, rfl, hlt, h'⟩, fun x H3 hy3 => ?_⟩
      obtain ⟨S3, F3, x3, eH, nS, r3⟩ := W1.yld i x H3 ps[i] F2 x2 hy3 hxi
      refine ⟨C, S3, _, ps[i], F3, r3, fun σ4 hlen hsame F4 => ?_⟩
      have ef4 : σ4[fi]? = some (some (.ref d)) := by rw [hsame fi hf]; exact ef2
      have own4 : ∀ p, p ∈ owns σ4 env → p ∈ owns σ2 env := fun p hp => by
        obtain ⟨j, s, e1, e2, e3⟩ := owns_of hp
        by_cases z : j ∈ up.js
        · rw [hU j z] at e1
          cases e1
          cases e3
        · rw [hsame j z] at e2
          exact owns_mem_get j e1 e2 e3
      have F4' : Fr C S3 H3 σ4 env := F4.le (hL _)
      have hd3 := eH _ _ hd2
      have hG3 := hG.keep fun q _ o e => eH q o e
      have gp : ∀ q ∈ d :: L, ∃ o, H2 q = some o := fun q hq => by
        rcases List.mem_cons.mp hq with e | hq
        · exact ⟨_, e ▸ hd2⟩
        · have go : ∀ {kvs : List (Key × V)} {G : List (Int × List Int)} {L : List Addr}, GL H2 kvs G L → ∀ q ∈ L, ∃ o, H2 q = some o := by
            intro kvs
            induction kvs with
            | nil =>
              intro G L h q hq
              cases G with
              | nil => cases L with
                | nil => cases hq
                | cons _ _ => exact h.elim
              | cons _ _ => exact h.elim
            | cons kv kvs ih =>
              intro G L h q hq
              cases G with
              | nil => exact h.elim
              | cons g G =>
                cases L with
                | nil => cases hq
                | cons q2 L =>
                  rcases List.mem_cons.mp hq with e | hq
                  · rw [e]; exact ⟨_, h.2.1⟩
                  · exact ih h.2.2 q hq
          exact go hG q hq
      have fr4 : ∀ q ∈ d :: L, Fre C S3 σ4 env q := fun q hq => by
        obtain ⟨a, b, c⟩ := fr q hq
        obtain ⟨o, ho⟩ := gp q hq
        exact ⟨nS q a (by rw [ho]; exact fun z => nomatch z), b, fun z => c (own4 q z)⟩
      obtain ⟨k1, ek1, rk⟩ := F4.sl.get mi (hm ps[i])
      obtain ⟨xk, exk, hk⟩ := rk
      obtain ⟨k2, ek2, rp⟩ := F4.sl.get pi (hpi ps[i])
      obtain ⟨xp, exp, hpv⟩ := rp
      have hk : xk = V.int ps[i].2 := hk
      have hpv : xp = V.int ps[i].1 := hpv
      subst exk exp hk hpv
      have len := W1.len
      obtain ⟨l1, l2⟩ := hG.len
      obtain ⟨z1, z2⟩ := grps_size (ps.take i) []
      rw [List.length_take] at z1 z2
      have tk : grps (ps.take (i + 1)) [] = grp1 (grps (ps.take i) []) ps[i].2 ps[i].1 := by
        unfold grps
        rw [List.take_succ, hxi, Option.toList_some, List.foldl_append]
        rfl
      refine ⟨d, kvs, ps[i].2, ps[i].1, ef4, ek1, ek2, hd3, by simp at z1; omega, fun v hv => ?_, fun hv p hp => ?_⟩
      · obtain ⟨q, xs, ev, mq, hq, hb2, w⟩ := hG3.found (i := ps[i].1) (List.nodup_cons.mp nd).2 hv
        refine ⟨q, xs.map V.int, ev, hq, ?_, fun p hp => ?_⟩
        · have : (grps (ps.take i) []) ≠ [] := fun z => by
            rw [z] at l1 l2
            have : L = [] := List.eq_nil_of_length_eq_zero l2
            rw [this] at mq
            cases mq
          obtain ⟨g0, G0, eg⟩ := List.exists_cons_of_ne_nil this
          have := hb2 g0 (by rw [eg]; exact List.mem_cons_self)
          rw [List.length_map]
          simp at z2
          omega
        · have nq : q ≠ p := fun z => by rw [z, hp] at hq; cases hq
          have nd' : d ≠ q := fun z => (List.nodup_cons.mp nd).1 (z ▸ mq)
          have ndp : d ≠ p := fun z => by rw [z, hp] at hd3; cases hd3
          obtain ⟨a, b, c⟩ := fr4 q (List.mem_cons_of_mem _ mq)
          have F5 := (F4'.add hp (o := .lst [])).other (o' := .lst (xs.map V.int ++ [.int ps[i].1])) (p := q) (by rw [upd_ne nq]; exact hq) a b c
          refine ⟨S3, kvs, L, F5, x2.trans x3, ef4, by rw [upd_ne nd', upd_ne ndp]; exact hd3, ?_, nd, fr4⟩
          rw [tk]
          refine w _ (by rw [upd_same, List.map_append]; rfl) fun q' mq' ne o e => ?_
          have np : q' ≠ p := fun z => by rw [z, hp] at e; cases e
          rw [upd_ne ne, upd_ne np]
          exact e
      · have ndp : d ≠ p := fun z => by rw [z, hp] at hd3; cases hd3
        obtain ⟨a, b, c⟩ := fr4 d List.mem_cons_self
        have pn : p ∉ owns σ4 env := fun z => by
          obtain ⟨_, o, e⟩ := F4'.sl.own z
          rw [hp] at e
          cases e
        have F5 := F4'.add hp (o := .lst [])
        have F6 := F5.other (o' := .dK (putK kvs (Sum.inl ps[i].2) (.ref p))) (p := d) (by rw [upd_ne ndp]; exact hd3) a b c
        have F7 := F6.other (o' := .lst [.int ps[i].1]) (p := p) (by rw [upd_ne ndp.symm]; exact upd_same) (F4'.e1.back hp) (F4'.H0none hp) pn
        have pL : p ∉ L := fun z => by
          obtain ⟨o, ho⟩ := gp p (List.mem_cons_of_mem _ z)
          rw [eH _ _ ho] at hp
          cases hp
        have ek : putK kvs (Sum.inl ps[i].2 : Key) (.ref p) = kvs ++ [(Sum.inl ps[i].2, V.ref p)] := by
          unfold putK
          rw [if_neg]
          intro z
          obtain ⟨kv, m1, m2⟩ := List.any_eq_true.mp z
          have : (kvs.find? fun kv => decide (kv.1 = (Sum.inl ps[i].2 : Key))) ≠ none := fun y => by
            have := List.find?_eq_none.mp y kv m1
            exact this m2
          unfold valV at hv
          cases e : kvs.find? fun kv => decide (kv.1 = (Sum.inl ps[i].2 : Key)) with
          | none => exact this e
          | some w => rw [e] at hv; cases hv
        refine ⟨S3, _, L ++ [p], F7, x2.trans x3, ef4, by rw [upd_ne ndp, upd_same], ?_, ?_, fun q hq => ?_⟩
        · rw [tk, ek]
          refine GL.new upd_same (hG3.keep fun q mq o e => ?_) hv
          have n1 : q ≠ p := fun z => pL (z ▸ mq)
          have n2 : q ≠ d := fun z => (List.nodup_cons.mp nd).1 (z ▸ mq)
          rw [upd_ne n1, upd_ne n2, upd_ne n1]
          exact e
        · obtain ⟨n1, n2⟩ := List.nodup_cons.mp nd
          refine List.nodup_cons.mpr ⟨fun z => ?_, List.nodup_append.mpr ⟨n2, by simp, fun x hx y hy e => ?_⟩⟩
          · rcases List.mem_append.mp z with z | z
            · exact n1 z
            · exact ndp (List.mem_singleton.mp z)
          · rw [List.mem_singleton.mp hy] at e
            exact pL (e ▸ hx)
        · have hq : q ∈ d :: L ∨ q = p := by
            rcases List.mem_cons.mp hq with e | hq
            · exact .inl (e ▸ List.mem_cons_self)
            · rcases List.mem_append.mp hq with hq | hq
              · exact .inl (List.mem_cons_of_mem _ hq)
              · exact .inr (List.mem_singleton.mp hq)
          rcases hq with hq | hq
          · exact fr4 q hq
          · rw [hq]
            exact ⟨F4'.e1.back hp, F4'.H0none hp, pn⟩
    · have e : i = ps.length := by omega
      subst e
      rw [List.take_length] at hG
      exact .inl ⟨W1.stop _ (Nat.le_refl _) F2 x2, q ps g1 pm S2 H2 σ2 kvs L F2 (x1.trans x2) ef2 hd2 hG nd fr⟩⟩
end
/-! the dict and its lists, never changed again -/
def GS (S : Hp) : List (Key × V) → List (Int × List Int) → Prop
  | [], [] => True
  | kv :: kvs, g :: G => (∃ q, kv = (.inl g.1, .ref q) ∧ S q = some (.lst (g.2.map V.int))) ∧ GS S kvs G
  | _, _ => False
theorem GS.mono {S S' : Hp} (e : Ex S S') : ∀ {kvs : List (Key × V)} {G : List (Int × List Int)}, GS S kvs G → GS S' kvs G
  | [], [], _ => True.intro
  | _ :: _, _ :: _, ⟨⟨q, h1, h2⟩, h3⟩ => ⟨⟨q, h1, e _ _ h2⟩, h3.mono e⟩
  | [], _ :: _, h => h.elim
  | _ :: _, [], h => h.elim
theorem GS.len {S : Hp} : ∀ {kvs : List (Key × V)} {G : List (Int × List Int)}, GS S kvs G → kvs.length = G.length
  | [], [], _ => rfl
  | _ :: _, _ :: _, ⟨_, h⟩ => by rw [List.length_cons, List.length_cons, h.len]
  | [], _ :: _, h => h.elim
  | _ :: _, [], h => h.elim
theorem GS.at {S : Hp} : ∀ {kvs : List (Key × V)} {G : List (Int × List Int)} {i : Nat} {k : Key} {x : V} {g : Int × List Int}, GS S kvs G → kvs[i]? = some (k, x) → G[i]? = some g → ∃ q, x = .ref q ∧ S q = some (.lst (g.2.map V.int))
  | [], [], _, _, _, _, _, h, _ => nomatch h
  | kv :: kvs, g :: G, 0, k, x, g', ⟨⟨q, h1, h2⟩, _⟩, e1, e2 => by
    simp at e1 e2
    subst e2
    rw [h1] at e1
    cases e1
    exact ⟨q, rfl, h2⟩
  | kv :: kvs, g :: G, i + 1, k, x, g', ⟨_, h⟩, e1, e2 => by
    simp at e1 e2
    exact h.at e1 e2
  | [], _ :: _, _, _, _, _, h, _, _ => h.elim
  | _ :: _, [], _, _, _, _, h, _, _ => h.elim
theorem GL.gs {H S : Hp} : ∀ {kvs : List (Key × V)} {G : List (Int × List Int)} {L : List Addr}, GL H kvs G L → (∀ q ∈ L, S q = H q) → GS S kvs G
  | [], [], [], _, _ => True.intro
  | _ :: _, _ :: _, q :: _, ⟨h1, h2, h3⟩, k => ⟨⟨q, h1, (k q List.mem_cons_self).trans h2⟩, h3.gs fun q' m => k q' (List.mem_cons_of_mem _ m)⟩
  | [], [], _ :: _, h, _ => h.elim
  | [], _ :: _, _, h, _ => h.elim
  | _ :: _, [], _, h, _ => h.elim
  | _ :: _, _ :: _, [], h, _ => h.elim
def tLk (t : TS) : TS := fun D σ H => ∃ d u, H d = some u ∧ Mut (some u) ∧ ∀ od, t D σ (upd H d (.frz od u))
theorem pss_lk {X : Cx} {A : List Stmt} {t : TS} (h : PSs X A t) : PSs X A (tLk t) := by
  refine ⟨fun pins s σ H D I hw => ?_⟩
  obtain ⟨d, u, hd, mu, hw⟩ := hw
  obtain ⟨od, I1⟩ := I.lock hd mu
  exact h.run pins s σ _ _ I1 (hw od)
/-- a dict from ints to lists of ints, of which nobody changes anything -/
def qDL : Rp (List (Int × List Int)) := ⟨fun S v G => ∃ d od kvs, v = .ref d ∧ S d = some (.frz od (.dK kvs)) ∧ GS S kvs G, fun e ⟨d, od, kvs, h1, h2, h3⟩ => ⟨d, od, kvs, h1, e _ _ h2, h3.mono e⟩⟩
theorem Fr.settle {C : Cs} {S H : Hp} {σ : L2.St} {env : List Sl} (F : Fr C S H σ env) {L : List Addr} (hL : ∀ q ∈ L, Fre C S σ env q) : ∃ S', Fr C S' H σ env ∧ Ex S S' ∧ ∀ q ∈ L, S' q = H q := by
  refine ⟨fun b => if b ∈ L then H b else S b, ?_, ?_, fun q hq => if_pos hq⟩
  · have ex : Ex S (fun b => if b ∈ L then H b else S b) := fun b o e => by
      show (if b ∈ L then H b else S b) = some o
      split
      · exact F.e1 b o e
      · exact e
    refine ⟨F.e0.trans ex, fun b o e => ?_, F.e2, fun b h1 h2 => ?_, F.al, F.sl.mono ex (Ex.refl H) fun q hq => ?_, F.ow, F.nd, fun b vs e => ?_⟩
    · have e : (if b ∈ L then H b else S b) = some o := e
      split at e
      · exact e
      · exact F.e1 b o e
    · show (if b ∈ L then H b else S b) = none
      split
      · rename_i z
        exact absurd (hL b z).2.1 h2
      · exact F.nw b h1 h2
    · show (if q ∈ L then H q else S q) = none
      split
      · rename_i z
        exact absurd hq (hL q z).2.2
      · exact (F.sl.own hq).1
    · show (if b ∈ L then H b else S b) ≠ none
      split
      · rw [e]; exact fun z => nomatch z
      · exact F.tc b vs e
  · intro b o e
    show (if b ∈ L then H b else S b) = some o
    split
    · exact F.e1 b o e
    · exact e
section
variable {X : Cx} {C : Cs} {env : List Sl} {tg iter : Expr} {st : Stmt} {rest : List Stmt} {fi mi pi : Nat} {mx : W (List (Int × Int))} {pos pos0 p0 py : Pos} {x : Str} {β γ ρ : Type} {r : Rp ρ} {pn : β → Gh → List Sl} {pl : γ → Gh → List Sl} {kp : Gh → List Sl} {K : List (Int × List Int) → W (Fl ρ β γ)}
/-- x = {}; for i, k in ..: x.setdefault(k, []).append(i) -/
theorem xs_grps {up : Up (Int × Int)} (hp : PassesOwn (model X.prog X.w) X.A X.env X.xe) (hc : X.calm = true) (hi : ∀ C', PI X tg iter (tS C' (fun _ => env) (qW qI qI) mx)) (hg : PG X tg (tG (qW qI qI) up)) (hb : PS X st (sGrp fi mi pi))
    (hr : ∀ G, PSs X rest (tF C (fun _ => env.set fi (.im qDL G)) (K G) pn pl kp r))
    (hN : X.N.Nodup) (hx0 : X.N[fi]? = some x) (hx : Loc X.env.scope x) (hw : swapsWith (.Dict [] [] p0) (some (.Name x py)) pos0.line X.env = pure false) (hfn : X.fn x = true) (hsl : env[fi]? = some .un)
    (hU : ∀ j ∈ up.js, env[j]? = some .un) (hL : ∀ a, Le (up.f a env) env) (hf : fi ∉ up.js) (hm : ∀ a, (up.f a env)[mi]? = some (.im qI a.2)) (hpi : ∀ a, (up.f a env)[pi]? = some (.im qI a.1)) (hs : ∀ x, foldedSetIterable iter X.env x = pure x := by intro _; rfl) :
    PSs X (.Assign [.Name x py] (.Dict [] [] p0) pos0 :: .For tg iter [st] [] pos :: rest) (tF C (fun _ => env) (mx.bind fun ps => K (grps ps [])) pn pl kp r) :=
  pss_imp (pss_cons (ps_set hN hx0 hx pe_dnewK hw (.inl hfn)) (pss_cons (ps_grps (C := C) (env := env) hp hc hi hg hb hU hL hf hm hpi hs) (pss_lk (pss_ex hr)))) fun D σ H _ ⟨S, g0, P, F, em, q⟩ d hd => by
    have eu : env.set fi .un = env := by
      refine List.ext_getElem? fun j => ?_
      by_cases z : fi = j
      · subst z
        rw [hsl]
        have : fi < env.length := (List.getElem?_eq_some_iff.mp hsl).1
        rw [List.getElem?_set_self this]
      · rw [List.getElem?_set_ne z]
    have F0 := (F.add hd (o := .dK [])).setUn fi (some (V.ref d))
    rw [eu] at F0
    have hlt : fi < σ.length := by
      rw [F.sl.len]
      exact (List.getElem?_eq_some_iff.mp hsl).1
    have sd : σ.set fi (some (V.ref d)) = σ.set fi (some (V.ref d)) := rfl
    refine ⟨S, g0, _, d, F0, em, by rw [List.getElem?_set_self hlt], upd_same, ⟨F.e1.back hd, F.H0none hd, fun z => ?_⟩, fun ps g1 pm S1 H1 σ1 kvs L F1 x1 ef hd1 hG nd fr => ?_⟩
    · obtain ⟨j, s, e1, e2, e3⟩ := owns_of z
      by_cases w : fi = j
      · subst w
        rw [hsl] at e1
        cases e1
        cases e3
      · rw [List.getElem?_set_ne w] at e2
        obtain ⟨_, o, e⟩ := F.sl.own (owns_mem_get j e1 e2 e3)
        rw [hd] at e
        cases e
    · refine ⟨d, _, hd1, True.intro, fun od => ⟨grps ps [], ?_⟩⟩
      obtain ⟨n1, n2⟩ := List.nodup_cons.mp nd
      obtain ⟨a, b, c⟩ := fr d List.mem_cons_self
      have F2 := F1.other (o' := .frz od (.dK kvs)) hd1 a b c
      obtain ⟨S2, F3, x2, h3⟩ := F2.settle (L := d :: L) fr
      have hG2 : GS S2 kvs (grps ps []) := (hG.keep (H' := upd H1 d (.frz od (.dK kvs))) fun q mq o e => by rw [upd_ne (fun z : q = d => n1 (z ▸ mq))]; exact e).gs fun q mq => h3 q (List.mem_cons_of_mem _ mq)
      have sd2 : S2 d = some (.frz od (.dK kvs)) := (h3 d List.mem_cons_self).trans upd_same
      have F4 := F3.setIm fi (r := qDL) (v := V.ref d) (a := grps ps []) ⟨d, od, kvs, rfl, sd2, hG2⟩
      have es : σ1.set fi (some (V.ref d)) = σ1 := by
        refine List.ext_getElem? fun j => ?_
        by_cases z : fi = j
        · subst z
          rw [ef, List.getElem?_set_self (List.getElem?_eq_some_iff.mp ef).1]
        · rw [List.getElem?_set_ne z]
      rw [es] at F4
      exact ⟨S2, g1, P, F4, pm, fun o g9 po => (q o g9 po).mono (x1.trans x2)⟩
def DLk (H : Hp) : Prop := ∀ d od kvs, H d = some (.frz od (.dK kvs)) → kvs.length ≤ sizeLine
theorem DLk.of {pins : List (Addr × Obj)} {σ : L2.St} {H : Hp} {s : Shared} (I : Inv X pins σ H s) : DLk H := fun d od kvs h => (dk_rd I.hok (.inr ⟨od, h⟩)).1
theorem pe_dlk {e : Expr} {te : TE} (h : PE X e te) : PE X e (fun σ H Q => te σ H (fun v H' => DLk H' → Q v H')) := ⟨fun pins s σ H Q I q => thn (h.run pins s σ H _ I q) fun u s1 ⟨v, H1, I1, r1, k⟩ => ⟨v, H1, I1, r1, k (DLk.of I1)⟩⟩
theorem xi_vals {envf : Gh → List Sl} {e : Expr} {apos cpos : Pos} {md : W (List (Int × List Int))} (h : PE X e (tE C envf qDL md)) (hbase : attributeBase e "values" X.env (eval e X.env) = eval e X.env := by rfl) (hline : (apos.endLine == cpos.line) = true := by rfl) :
    PI X tg (.Call (.Attribute e "values" apos) [] [] cpos) (tS C envf (qL qI) (md.bind fun G => .ret (G.map (·.2)))) :=
  pi_imp (pi_values (pe_dlk h) hbase hline) fun σ H R _ ⟨S, g0, P, F, em, q⟩ => ⟨S, g0, _, F, em, fun G g1 pg v S1 H1 F1 x1 ⟨d, od, kvs, ev, hd, hG⟩ dl => by
    have ln := hG.len
    have hl : G.length ≤ sizeLine := by rw [← ln]; exact dl d od kvs (F1.e1 _ _ hd)
    refine ⟨d, od, kvs, ev, F1.e1 _ _ hd, q _ _ pg _ S1 H1 F1 x1 ⟨by rw [List.length_map]; exact hl, fun i hi F2 e => ⟨F2.e1 _ _ (e _ _ hd), by rw [List.length_map] at hi; omega⟩, fun {C2 S2 H2 σ2 env2} i y H3 a F2 e ⟨eH, k, hk⟩ ha => ?_, fun i hi F2 e => ⟨F2.e1 _ _ (e _ _ hd), by rw [List.length_map] at hi; omega⟩⟩⟩
    subst eH
    rw [List.getElem?_map, Option.map_eq_some_iff] at ha
    obtain ⟨g, hg, rfl⟩ := ha
    obtain ⟨q, ey, hq⟩ := hG.at hk hg
    exact ⟨S2, F2, Ex.refl _, Ex.refl _, fun b z _ => z, q, _, ey, e _ _ hq, All2.of_map (f := V.int) _⟩⟩
end
end Rt

set_option maxRecDepth 100000
set_option maxHeartbeats 4000000
/-! RtL: list(enumerate(t)) of a tuple: pairs whose objects are known. -/
namespace RtL
open PySem PySem.Spec PySem.Calls PyProof.Rows L2
/-- the pair that is handed out -/
abbrev two (i : Int) (t : Tok) (x : Value) : Obj := { cls := .type "tuple", data := .seq #[.int i t, x] }
section
variable {prog : Program} {w : World} {A : Around} {E : Value → Shared → Prop} {s : Shared} {e it T a S : Addr} {fp : List Addr} {n i : Nat} {P : Nat → Value → Prop} {St : Nat → Heap → Prop} {old : Value} {f : Bool} {oT : Obj}
/-- the pair that was handed out stands: a new one is made -/
theorem next_again {Q : Value → Shared → Prop} (D : Draws prog w A it fp n P St) (he : IsEnumHeld s.heap e it i old T f) (hT : s.heap.get? T = some oT) (hTe : T ≠ e) (hTi : T ≠ it) (hst : St i s.heap) (hlt : i < n) (hne : e ≠ it) (hef : e ∉ fp)
    (hQ : ∀ x h' tk, P i x → IsEnumHeld h' e it ((i : Int) + 1) old T true → St (i + 1) h' → h'.get? s.heap.objs.size = some (two i tk x) → (∀ b o, b ≠ e → b ≠ it → s.heap.get? b = some o → h'.get? b = some o) → Q (.ref s.heap.objs.size) { s with heap := h', toks := tk + 1 }) :
    wpAny (model prog w) A (Builtin.«enumerate.__next__» ⟨[.ref e], []⟩) (fun fin s' => ∃ v, fin = .done (.ret v) ∧ Q v s') E s := by
  obtain ⟨hp, g, d, tk₀, os⟩ := s
  show wpAny _ _ (field (.ref e) 2 >>= _) _ _ _
  refine wpAny_bind (wpAny_field he rfl (x := .ref it) rfl (wpAny_bind (D.item i _ _ _ hlt hst fun x h1 tk hPx st1 sb1 => ?_)))
  have sb1 : Heap.SameBut it hp h1 := sb1
  have e1 : IsEnumHeld h1 e it i old T f := (sb1.2 e hne).trans he
  show wpAny _ _ (field (.ref e) 3 >>= _) _ _ ⟨h1, g, d, tk, os⟩
  refine wpAny_bind (wpAny_field e1 rfl (x := rawInt i) rfl ?_)
  show wpAny _ _ (field (.ref e) 4 >>= _) _ _ ⟨h1, g, d, tk, os⟩
  refine wpAny_bind (wpAny_field e1 rfl (x := .none) rfl ?_)
  show wpAny _ _ (mkInt i >>= _) _ _ ⟨h1, g, d, tk, os⟩
  refine wpAny_bind (wpAny_mkInt ?_)
  show wpAny _ _ (setField (.ref e) 3 (rawInt ((i : Int) + 1)) >>= _) _ _ ⟨h1, g, d, tk + 1, os⟩
  refine wpAny_bind (wpAny_setField_rec e1 (by simp) fun h2 e2 sb2 => ?_)
  have sb2 : Heap.SameBut e h1 h2 := sb2
  have e2 : IsEnumHeld h2 e it ((i : Int) + 1) old T f := e2
  show wpAny _ _ (setField (.ref e) 4 .none >>= _) _ _ ⟨h2, g, d, tk + 1, os⟩
  refine wpAny_bind (wpAny_setField_rec e2 (by simp) fun h3 e3 sb3 => ?_)
  have sb3 : Heap.SameBut e h2 h3 := sb3
  have e3 : IsEnumHeld h3 e it ((i : Int) + 1) old T f := e3
  show wpAny _ _ (newTuple [.int i tk, x] >>= _) _ _ ⟨h3, g, d, tk + 1, os⟩
  refine wpAny_bind (wpAny_newTuple ?_)
  have sz : h3.objs.size = hp.objs.size := by rw [sb3.1, sb2.1, sb1.1]
  have hel : e < hp.objs.size := Heap.lt_size he
  have k3 : ∀ b o, b ≠ e → b ≠ it → hp.get? b = some o → (h3.push (two i tk x)).get? b = some o := fun b o n1 n2 q => Heap.get?_push_of_some _ (sb3.extBut b o n1 (sb2.extBut b o n1 (sb1.extBut b o n2 q)))
  have t4 : (h3.push (two i tk x)).get? hp.objs.size = some (two i tk x) := by rw [← sz]; exact Heap.get?_push_size _ rfl
  have st4 : St (i + 1) (h3.push (two i tk x)) := D.frame _ _ _ st1 fun b hb o y => by
    have n1 : b ≠ e := fun q => hef (q ▸ hb)
    exact Heap.get?_push_of_some _ (sb3.extBut b o n1 (sb2.extBut b o n1 y))
  show wpAny _ _ (Builtin.SmallTypes.ownedTupleIsFree (.ref e) >>= _) _ _ ⟨h3.push (two i tk x), g, d, tk + 1, os⟩
  refine wpAny_bind (wpAny_tupleHeld_enum (s := ⟨h3.push (two i tk x), g, d, tk + 1, os⟩) (Heap.get?_push_of_some _ e3) (k3 T oT hTe hTi hT) fun h5 e5 sb5 => ?_)
  have sb5 : Heap.SameBut e (h3.push (two i tk x)) h5 := sb5
  simp only [Bool.false_eq_true, if_false]
  rw [sz]
  exact wpAny_pure ⟨_, rfl, hQ x h5 tk hPx e5 (D.frame _ _ _ st4 fun b hb o y => sb5.extBut b o (fun q => hef (q ▸ hb)) y) (sb5.extBut _ _ (Nat.ne_of_gt hel) t4) fun b o n1 n2 q => sb5.extBut b o n1 (k3 b o n1 n2 q)⟩
theorem pyNext_again {Q : Option Value → Shared → Prop} (D : Draws prog w A.in1 it fp n P St) (he : IsEnumHeld s.heap e it i old T f) (hT : s.heap.get? T = some oT) (hTe : T ≠ e) (hTi : T ≠ it) (hst : St i s.heap) (hlt : i < n) (hne : e ≠ it) (hef : e ∉ fp)
    (hQ : ∀ x h' tk, P i x → IsEnumHeld h' e it ((i : Int) + 1) old T true → St (i + 1) h' → h'.get? s.heap.objs.size = some (two i tk x) → (∀ b o, b ≠ e → b ≠ it → s.heap.get? b = some o → h'.get? b = some o) → Q (some (.ref s.heap.objs.size)) { s with heap := h', toks := tk + 1 }) :
    wpAny (model prog w) A (pyNext (.ref e)) Q E s := by
  have ty : s.TypeIs (.ref e) "enumerate" := ⟨_, he, rfl⟩
  unfold pyNext
  exact wpAny_bind (wpAny_attempt (wpAny_callSpecial?_slot (name := Str.ofString "__next__") ty F.slot_enumerate_next (wpAny_call_entry F.slot_enumerate_next ty F.entry_enumerate_next
    (next_again D he hT hTe hTi hst hlt hne hef fun x h' tk a1 a2 a3 a4 a5 => wpAny_pure (hQ x h' tk a1 a2 a3 a4 a5)) (F.args_enumerate_next_1 _))))
theorem pyNext_over {k : Int} {Q : Option Value → Shared → Prop} (D : Draws prog w A.in1 it fp n P St) (he : IsEnumHeld s.heap e it k old T f) (hst : St n s.heap) (hQ : ∀ h', Heap.ExtBut it s.heap h' → Q none { s with heap := h' }) : wpAny (model prog w) A (pyNext (.ref e)) Q E s := by
  have ty : s.TypeIs (.ref e) "enumerate" := ⟨_, he, rfl⟩
  unfold pyNext
  refine wpAny_bind (wpAny_attempt (wpAny_callSpecial?_slot (name := Str.ofString "__next__") ty F.slot_enumerate_next (wpAny_call_entry F.slot_enumerate_next ty F.entry_enumerate_next ?_ (F.args_enumerate_next_1 _))))
  show wpAny _ _ (field (.ref e) 2 >>= _) _ _ _
  refine wpAny_bind (wpAny_field he rfl (x := .ref it) rfl (wpAny_bind (D.done _ _ _ hst fun h' x q1 ⟨o, ho, hc⟩ => ?_)))
  exact wpAny_bind (wpAny_isInstance (T := "StopIteration") (b := true) ⟨o, ho, hc⟩ isSubtype_stop (wpAny_pure (hQ _ q1)))
/-- nothing is out, or what is out stands -/
def EnSt (h : Heap) (e it : Addr) (i : Nat) (S : Addr) : Prop := (∃ old, IsEnum h e it i old) ∨ ∃ old T f oT, IsEnumHeld h e it i old T f ∧ h.get? T = some oT ∧ T ≠ e ∧ T ≠ it ∧ T ≠ S
/-- the pairs so far -/
def Got (h : Heap) (base S e it : Addr) (its : Array Value) (acc : Array Value) (i : Nat) : Prop := acc.size = i ∧ ∀ j, j < i → ∃ T t x, acc[j]? = some (.ref T) ∧ h.get? T = some (two j t x) ∧ its[j]? = some x ∧ base ≤ T ∧ T ≠ S ∧ T ≠ e ∧ T ≠ it
theorem Got.step {h h' : Heap} {base : Addr} {its acc : Array Value} (x : Got h base S e it its acc i) (k : ∀ b o, b ≠ S → b ≠ e → b ≠ it → h.get? b = some o → h'.get? b = some o) : Got h' base S e it its acc i :=
  ⟨x.1, fun j hj => by
    obtain ⟨T, t, y, a1, a2, a3, a4, a5, a6, a7⟩ := x.2 j hj
    exact ⟨T, t, y, a1, k T _ a5 a6 a7 a2, a3, a4, a5, a6, a7⟩⟩
theorem Got.push {h : Heap} {base : Addr} {its acc : Array Value} {x : Value} {t : Tok} (g : Got h base S e it its acc i) (hT : h.get? T = some (two i t x)) (hx : its[i]? = some x) (hb : base ≤ T) (n1 : T ≠ S) (n2 : T ≠ e) (n3 : T ≠ it) : Got h base S e it its (acc.push (.ref T)) (i + 1) := by
  refine ⟨by rw [Array.size_push, g.1], fun j hj => ?_⟩
  by_cases z : j = i
  · subst z
    exact ⟨T, t, x, by rw [Array.getElem?_push, if_pos g.1.symm], hT, hx, hb, n1, n2, n3⟩
  · obtain ⟨T2, t2, y, a1, r⟩ := g.2 j (by omega)
    refine ⟨T2, t2, y, ?_, r⟩
    rw [Array.getElem?_push, if_neg (by rw [g.1]; exact z)]
    exact a1
abbrev lstO (acc : Array Value) (c : Nat) : Obj := { cls := .type "list", dict := none, data := .seq acc c, slots := #[] }
theorem draws (hh : A.handled = none) (ha : a ≠ it) (its : Array Value) : Draws prog w A it [it, a] its.size (fun i v => its[i]? = some v) (fun i h => h.IsTupleIter it a i ∧ h.IsTuple a its) := Draws.tuple hh it a ha its
/-- the list is filled -/
theorem fill {R : Result → Shared → Prop} {its : Array Value} {base : Addr} {res : Value} (hh : A.handled = none) (hei : e ≠ it) (hai : a ≠ it) (hea : e ≠ a) (hSe : S ≠ e) (hSi : S ≠ it) (hSa : S ≠ a) (hz : its.size ≤ sizeLine) :
    ∀ (k i : Nat) (s : Shared) (acc : Array Value) (c : Nat), its.size - i = k → i ≤ its.size → EnSt s.heap e it i S → s.heap.IsTupleIter it a i → s.heap.IsTuple a its → s.heap.get? S = some (lstO acc c) → Got s.heap base S e it its acc i → base ≤ s.heap.objs.size →
      (∀ h' tk acc' c', (∀ b o, b ≠ S → b ≠ e → b ≠ it → s.heap.get? b = some o → h'.get? b = some o) → h'.get? S = some (lstO acc' c') → Got h' base S e it its acc' its.size → R (.ok (.ret res)) { s with heap := h', toks := tk }) →
      codeAny (model prog w) A (.builtin "list.extend.loop" ⟨[.ref S, .ref e, res], []⟩) R s := by
  have D := draws (prog := prog) (w := w) (A := A.in1.in1) hh hai its
  have hef : e ∉ [it, a] := by simp [hei, hea]
  intro k
  induction k with
  | zero =>
    intro i s acc c hk hi hs hit hat hS hg hb hR
    have hin : i = its.size := by omega
    subst hin
    refine codeAny_builtin F.entry_extend_loop ?_
    rw [Around.under_plainId F.plain_extend_loop _]
    show wpAny _ A.in1 (pyNext (.ref e) >>= _) _ _ s
    have fin : ∀ h', Heap.ExtBut it s.heap h' → R (.ok (.ret res)) { s with heap := h' } := fun h' q => hR h' s.toks acc c (fun b o _ _ n3 y => q b o n3 y) (q S _ hSi hS) (hg.step fun b o _ _ n3 y => q b o n3 y)
    rcases hs with ⟨old, hs⟩ | ⟨old, T, f, oT, hs, _⟩
    · exact wpAny_bind (wpAny_pyNext_enum_endD D hs ⟨hit, hat⟩ fun h' q => wpAny_pure (fin h' q))
    · exact wpAny_bind (pyNext_over D hs ⟨hit, hat⟩ fun h' q => wpAny_pure (fin h' q))
  | succ k ih =>
    intro i s acc c hk hi hs hit hat hS hg hb hR
    have hlt : i < its.size := by omega
    refine codeAny_builtin F.entry_extend_loop ?_
    rw [Around.under_plainId F.plain_extend_loop _]
    show wpAny _ A.in1 (pyNext (.ref e) >>= _) _ _ s
    have hSl : S < s.heap.objs.size := Heap.lt_size hS
    have hil : it < s.heap.objs.size := let ⟨_, q, _⟩ := hit; Heap.lt_size q
    have hal : a < s.heap.objs.size := let ⟨_, q, _⟩ := hat; Heap.lt_size q
    have ec : ((i + 1 : Nat) : Int) = (i : Int) + 1 := by omega
    -- behind a pair
    have go : ∀ x h' tk, its[i]? = some x → EnSt h' e it (i + 1) S → h'.IsTupleIter it a (i + 1) → h'.IsTuple a its → h'.get? s.heap.objs.size = some (two i tk x) → s.heap.objs.size ≠ e → (∀ b o, b ≠ e → b ≠ it → s.heap.get? b = some o → h'.get? b = some o) →
        wpAny (model prog w) A.in1 (updateSeq S (·.push (.ref s.heap.objs.size)) >>= fun _ => again (.builtin "list.extend.loop" ⟨[.ref S, .ref e, res], []⟩))
          (fun fin s' => match fin with | .done f => R (.ok f) s' | .again c' => c'.quiet = true ∧ codeAny (model prog w) A c' R s') (fun e s' => R (.error e) s') { s with heap := h', toks := tk + 1 } := by
      intro x h' tk hx hs' hit' hat' hT hne2 hk'
      have hS' : h'.get? S = some (lstO acc c) := hk' S _ hSe hSi hS
      have ko : ∀ b o, b ≠ S → h'.get? b = some o → (h'.update S (Obj.mapSeq (·.push (.ref s.heap.objs.size)))).get? b = some o := fun b o n1 y => (Heap.get?_update_other _ _ (Ne.symm n1)).trans y
      have hz2 : s.heap.objs.size ≠ S := Nat.ne_of_gt hSl
      refine wpAny_bind (wpAny_updateSeq hS' rfl (wpAny_pure ⟨plainId_quiet F.plain_extend_loop _, ih (i + 1) _ (acc.push (.ref s.heap.objs.size)) _ (by omega) hlt ?_ (hit'.at fun o y => ko it o (Ne.symm hSi) y) (hat'.at fun o y => ko a o (Ne.symm hSa) y)
        (Heap.get?_update_self _ hS' rfl) (((hg.step fun b o n1 n2 n3 y => hk' b o n2 n3 y).push hT hx hb hz2 hne2 (Nat.ne_of_gt hil)).step fun b o n1 _ _ y => ko b o n1 y) ?_ fun h2 tk2 acc2 c2 q1 q2 q3 => hR h2 tk2 acc2 c2 (fun b o n1 n2 n3 y => q1 b o n1 n2 n3 (ko b o n1 (hk' b o n2 n3 y))) q2 q3⟩) (by rw [hg.1]; omega) (by show (acc.push _).size ≤ sizeLine + 1; rw [Array.size_push, hg.1]; omega))
      · rcases hs' with ⟨old, z⟩ | ⟨old, T, f, oT, z, zT, z1, z2, z3⟩
        · exact .inl ⟨old, ko e _ (Ne.symm hSe) z⟩
        · exact .inr ⟨old, T, f, oT, ko e _ (Ne.symm hSe) z, ko T _ z3 zT, z1, z2, z3⟩
      · have h1 := Heap.lt_size (ko _ _ hz2 hT)
        exact Nat.le_of_lt (Nat.lt_of_le_of_lt hb h1)
    rcases hs with ⟨old, hs⟩ | ⟨old, T, f, oT, hs, hT, z1, z2, z3⟩
    · have hel : e < s.heap.objs.size := Heap.lt_size hs
      refine wpAny_bind (wpAny_pyNext_enum_itemD D hs ⟨hit, hat⟩ hlt hei hef fun x h' tk hx ho hst hT hsz hk' => ?_)
      refine go x h' tk hx (.inr ⟨x, s.heap.objs.size, false, _, ?_, hT, Nat.ne_of_gt hel, Nat.ne_of_gt hil, Nat.ne_of_gt hSl⟩) hst.1 hst.2 hT (Nat.ne_of_gt hel) hk'
      rw [ec]
      exact ho
    · have hel : e < s.heap.objs.size := Heap.lt_size hs
      refine wpAny_bind (pyNext_again D hs hT z1 z2 ⟨hit, hat⟩ hlt hei hef fun x h' tk hx ho hst hT2 hk' => ?_)
      refine go x h' tk hx (.inr ⟨old, T, true, oT, ?_, hk' T _ z1 z2 hT, z1, z2, z3⟩) hst.1 hst.2 hT2 (Nat.ne_of_gt hel) hk'
      rw [ec]
      exact ho
end
theorem en_no_len : typeLookup (.type "enumerate") "__len__" = pure none := am_miss_of_fast (by decide +kernel)
theorem en_no_hint : typeLookup (.type "enumerate") "__length_hint__" = pure none := am_miss_of_fast (by decide +kernel)
section
variable {prog : Program} {w : World} {A : Around} {E : Value → Shared → Prop} {s : Shared} {e it a S : Addr} {its : Array Value} {base : Addr}
theorem extend_en {R : Result → Shared → Prop} {res : Value} {c : Nat} (hh : A.handled = none) (hei : e ≠ it) (hai : a ≠ it) (hea : e ≠ a) (hSe : S ≠ e) (hSi : S ≠ it) (hSa : S ≠ a) (hz : its.size ≤ sizeLine) {old : Value} (he : IsEnum s.heap e it 0 old) (hit : s.heap.IsTupleIter it a 0) (hat : s.heap.IsTuple a its)
    (hS : s.heap.get? S = some { cls := .type "list", data := .seq #[] c }) (hb : base ≤ s.heap.objs.size)
    (hR : ∀ h' tk acc' c', (∀ b o, b ≠ S → b ≠ e → b ≠ it → s.heap.get? b = some o → h'.get? b = some o) → h'.get? S = some (lstO acc' c') → Got h' base S e it its acc' its.size → R (.ok (.ret res)) { s with heap := h', toks := tk }) :
    wpAny (model prog w) A.in1 (Builtin.List.listExtendWith (.ref S) (.ref e) res)
      (fun fin s' => match fin with | .done f => R (.ok f) s' | .again c' => c'.quiet = true ∧ codeAny (model prog w) A c' R s') (fun e s' => R (.error e) s') s := by
  have ty : s.TypeIs (.ref e) "enumerate" := ⟨_, he, rfl⟩
  unfold Builtin.List.listExtendWith
  refine wpAny_bind (wpAny_typeOf ty ?_)
  have h1 : Builtin.List.listSameRef (.ref S) (.ref e) = false := by simp [Builtin.List.listSameRef, hSe]
  have h2 : (Value.type "enumerate" == Value.type "list") = false := by decide
  have h3 : (Value.type "enumerate" == Value.type "tuple") = false := by decide
  simp only [h1, h2, h3, Bool.or_false, Bool.false_eq_true, if_false]
  refine wpAny_bind (wpAny_pyIter_enum he (wpAny_bind (wpAny_holding ?_)))
  unfold Builtin.List.listLengthHint
  refine wpAny_bind (wpAny_specialOf ty en_no_len ?_)
  show wpAny _ A.in1 (specialOf (Value.ref e) (Str.ofString "__length_hint__") >>= _) _ _ _
  refine wpAny_bind (wpAny_specialOf ty en_no_hint (wpAny_pure ?_))
  show wpAny _ A.in1 (rule "list.extend.makes-room" >>= fun _ => Builtin.List.listTouch (.ref S) >>= fun _ => again (.builtin "list.extend.loop" ⟨[.ref S, .ref e, res], []⟩)) _ _ _
  refine wpAny_bind (wpAny_rule (wpAny_bind ?_))
  show wpAny _ A.in1 (updateSeq S (·.push .none) >>= fun _ => updateSeq S (·.pop)) _ _ _
  refine wpAny_bind (wpAny_updateSeq hS rfl ?_)
  have g2 := Heap.get?_update_self (Obj.mapSeq (·.push Value.none)) hS rfl
  refine wpAny_updateSeq (hz := by seq_fits) g2 rfl ?_
  have g3 := Heap.get?_update_self (Obj.mapSeq (·.pop)) g2 rfl
  have ko : ∀ b o, b ≠ S → s.heap.get? b = some o → ((s.heap.update S (Obj.mapSeq (·.push Value.none))).update S (Obj.mapSeq (·.pop))).get? b = some o := fun b o n1 y => (Heap.get?_update_other _ _ (Ne.symm n1)).trans ((Heap.get?_update_other _ _ (Ne.symm n1)).trans y)
  refine wpAny_pure ⟨plainId_quiet F.plain_extend_loop _, fill hh hei hai hea hSe hSi hSa hz _ 0 _ #[] _ rfl (Nat.zero_le _) (.inl ⟨old, ko e _ (Ne.symm hSe) he⟩) (hit.at fun o y => ko it o (Ne.symm hSi) y) (hat.at fun o y => ko a o (Ne.symm hSa) y) g3 ⟨rfl, fun j hj => absurd hj (Nat.not_lt_zero _)⟩ ?_ fun h' tk acc' c' q1 q2 q3 => hR h' tk acc' c' (fun b o n1 n2 n3 y => q1 b o n1 n2 n3 (ko b o n1 y)) q2 q3⟩
  show base ≤ ((s.heap.update S (Obj.mapSeq (·.push Value.none))).update S (Obj.mapSeq (·.pop))).objs.size
  rw [Heap.size_update, Heap.size_update]
  exact hb
theorem init_en {R : Result → Shared → Prop} (hh : A.handled = none) (hei : e ≠ it) (hai : a ≠ it) (hea : e ≠ a) (hSe : S ≠ e) (hSi : S ≠ it) (hSa : S ≠ a) (hz : its.size ≤ sizeLine) {old : Value} (he : IsEnum s.heap e it 0 old) (hit : s.heap.IsTupleIter it a 0) (hat : s.heap.IsTuple a its)
    (hS : s.heap.get? S = some { cls := .type "list", data := .seq #[] }) (hb : base ≤ s.heap.objs.size)
    (hR : ∀ h' tk acc' c', (∀ b o, b ≠ S → b ≠ e → b ≠ it → s.heap.get? b = some o → h'.get? b = some o) → h'.get? S = some (lstO acc' c') → Got h' base S e it its acc' its.size → R (.ok (.ret .none)) { s with heap := h', toks := tk }) :
    wpAny (model prog w) A.in1 (Builtin.«list.__init__» ⟨[.ref S, .ref e], []⟩)
      (fun fin s' => match fin with | .done f => R (.ok f) s' | .again c' => c'.quiet = true ∧ codeAny (model prog w) A c' R s') (fun e s' => R (.error e) s') s := by
  show wpAny _ A.in1 (do let old ← Builtin.List.listItems (.ref S); Builtin.List.listUpdate (.ref S) (fun _ => #[]); letGo old.toList.reverse; Builtin.List.listExtendWith (.ref S) (.ref e) .none) _ _ s
  refine wpAny_bind ?_
  unfold Builtin.List.listItems
  refine wpAny_bind (wpAny_seqItems hS rfl (wpAny_pure ?_))
  show wpAny _ A.in1 (updateSeq S (fun _ => #[]) >>= fun _ => letGo (#[] : Array Value).toList.reverse >>= fun _ => Builtin.List.listExtendWith (.ref S) (.ref e) .none) _ _ s
  refine wpAny_bind (wpAny_updateSeq hS rfl (wpAny_bind (wpAny_letGo ?_)))
  have ko : ∀ b o, b ≠ S → s.heap.get? b = some o → (s.heap.update S (Obj.mapSeq (fun _ => (#[] : Array Value)))).get? b = some o := fun b o n1 y => (Heap.get?_update_other _ _ (Ne.symm n1)).trans y
  refine extend_en hh hei hai hea hSe hSi hSa hz (ko e _ (Ne.symm hSe) he) (hit.at fun o y => ko it o (Ne.symm hSi) y) (hat.at fun o y => ko a o (Ne.symm hSa) y) (Heap.get?_update_self (Obj.mapSeq (fun _ => (#[] : Array Value))) hS rfl) ?_ fun h' tk acc' c' q1 q2 q3 => hR h' tk acc' c' (fun b o n1 n2 n3 y => q1 b o n1 n2 n3 (ko b o n1 y)) q2 q3
  show base ≤ (s.heap.update S (Obj.mapSeq (fun _ => (#[] : Array Value)))).objs.size
  rw [Heap.size_update]
  exact hb
theorem call_list_en {Q : Value → Shared → Prop} (hh : A.handled = none) (hei : e ≠ it) (hai : a ≠ it) (hea : e ≠ a) (hz : its.size ≤ sizeLine) {old : Value} (he : IsEnum s.heap e it 0 old) (hit : s.heap.IsTupleIter it a 0) (hat : s.heap.IsTuple a its) (hb : base ≤ s.heap.objs.size)
    (hQ : ∀ h' tk acc' c', (∀ b o, b ≠ e → b ≠ it → s.heap.get? b = some o → h'.get? b = some o) → h'.get? s.heap.objs.size = some (lstO acc' c') → Got h' base s.heap.objs.size e it its acc' its.size → Q (.ref s.heap.objs.size) { s with heap := h', toks := tk }) :
    wpAny (model prog w) A (call (.type "list") [.ref e]) Q E s := by
  have lt : ∀ {b o}, s.heap.get? b = some o → b ≠ s.heap.objs.size := fun q => Nat.ne_of_lt (Heap.lt_size q)
  have e1 : s.heap.objs.size ≠ e := Ne.symm (lt he)
  have e2 : s.heap.objs.size ≠ it := let ⟨_, q, _⟩ := hit; Ne.symm (lt q)
  have e3 : s.heap.objs.size ≠ a := let ⟨_, q, _⟩ := hat; Ne.symm (lt q)
  refine callType_codes (Q₁ := fun obj s₁ => obj = .ref s.heap.objs.size ∧ s₁ = { s with heap := s.heap.push { cls := .type "list", data := .seq #[] } }) F.called_list (F.typeCall_list_1 _) F.entry_list_init (code_list_new _ ⟨rfl, rfl⟩) fun obj s₁ h₁ => ?_
  obtain ⟨rfl, rfl⟩ := h₁
  have hS : (s.heap.push { cls := .type "list", data := .seq #[] }).get? s.heap.objs.size = some { cls := .type "list", data := .seq #[] } := Heap.get?_push_size _ rfl
  have ko : ∀ b o, s.heap.get? b = some o → (s.heap.push { cls := .type "list", data := .seq #[] }).get? b = some o := fun b o y => Heap.get?_push_of_some _ y
  refine ⟨⟨_, hS, rfl⟩, F.args_list_init_2 _ _, init_en (A := A.in1) (base := base) hh hei hai hea e1 e2 e3 hz (ko e _ he) (hit.at fun o y => ko it o y) (hat.at fun o y => ko a o y) hS ?_ fun h' tk acc' c' q1 q2 q3 => ⟨rfl, hQ h' tk acc' c' (fun b o n2 n3 y => q1 b o (lt y) n2 n3 (ko b o y)) q2 q3⟩⟩
  show base ≤ (s.heap.push _).objs.size
  rw [Heap.size_push]
  exact Nat.le_succ_of_le hb
end
/-- pairs (i, x), one behind another, each a new known tuple -/
def Laid : Hp → Nat → List Addr → List V → Hp → Prop
  | H, _, [], [], H' => H' = H
  | H, i, T :: Ts, x :: xs, H' => H T = none ∧ ∃ o : Obj, o.dict = none ∧ Laid (upd H T (.frz o (.tup [.int (i : Nat), x]))) (i + 1) Ts xs H'
  | _, _, _, _, _ => False
section
variable {X : Cx} {pins : List (Addr × Obj)} {σ : L2.St} {H H' : Hp} {s : Shared}
/-- new objects laid and tracked, as many as there are -/
theorem inv_many {h' : Heap} {tk : Nat} (I : Inv X pins σ H s) (k : ∀ b o, s.heap.get? b = some o → h'.get? b = some o) (ext : ∀ b o, H b = some o → H' b = some o) (new : ∀ b o, H' b = some o → H b = none → s.heap.objs.size ≤ b ∧ ObjOk X.prog X.w H' h' b o) :
    Inv X pins σ H' { s with heap := h', toks := tk } := by
  refine I.un ⟨fun b o q _ _ _ => k b o q, fun b o q _ _ _ => ⟨o.slots, k b o q⟩, fun b o q n _ => ?_, fun b o q _ => ⟨o, k b o q⟩, fun b xs q => ext b _ q, fun b o u q => ext b _ q, fun b ps q => ⟨#[], by rw [ext b _ q]; simp⟩⟩ fun b o q => ?_
  · cases z : H' b with
    | none => rfl
    | some u => exact absurd (Nat.lt_of_lt_of_le (Heap.lt_size q) (new b u z n).1) (Nat.lt_irrefl _)
  · cases z : H b with
    | none => exact (new b o q z).2
    | some u =>
      have e := ext b u z
      rw [q] at e
      cases e
      exact (I.hok b o z).stay (fun c v _ y => k c v y) (fun c y => ext c _ y) fun c xs y => ext c _ y
theorem lay_all {P : Program} {w : World} {h' : Heap} {base S : Addr} : ∀ (us accl : List Value) (i : Nat) (xs : List V) (H : Hp), Vals xs us → accl.length = us.length →
    (∀ j, j < us.length → ∃ T t x, accl[j]? = some (.ref T) ∧ h'.get? T = some (two ((i + j : Nat) : Int) t x) ∧ us[j]? = some x ∧ H T = none ∧ base ≤ T ∧ T ≠ S) →
    ∃ (Ts : List Addr) (H2 : Hp), accl = Ts.map Value.ref ∧ Laid H i Ts xs H2 ∧ (∀ b o, H b = some o → H2 b = some o) ∧ ∀ b o, H2 b = some o → H b = none → base ≤ b ∧ b ≠ S ∧ ∀ H3, ObjOk P w H3 h' b o
  | [], accl, i, xs, H, r, hl, _ => by
    cases r
    have : accl = [] := List.eq_nil_of_length_eq_zero hl
    subst this
    exact ⟨[], H, rfl, rfl, fun _ _ q => q, fun b o q n => by rw [n] at q; cases q⟩
  | u :: us, accl, i, xs, H, r, hl, hg => by
    cases r with
    | @cons x _ xs _ r0 rt =>
    cases accl with
    | nil => cases hl
    | cons a0 accl =>
      obtain ⟨T, t, x', a1, a2, a3, a4, a5, a6⟩ := hg 0 (Nat.zero_lt_succ _)
      simp at a1 a3
      subst a1 a3
      have a2 : h'.get? T = some (two (i : Nat) t u) := a2
      obtain ⟨Ts, H2, b1, b2, b3, b4⟩ := lay_all (P := P) (w := w) (h' := h') (base := base) (S := S) us accl (i + 1) xs (upd H T (.frz (two (i : Nat) t u) (.tup [.int (i : Nat), x]))) rt (by simpa using hl) fun j hj => by
        obtain ⟨T2, t2, x2, c1, c2, c3, c4, c5, c6⟩ := hg (j + 1) (by simpa using hj)
        refine ⟨T2, t2, x2, by simpa using c1, by rw [show i + 1 + j = i + (j + 1) by omega]; exact c2, by simpa using c3, ?_, c5, c6⟩
        have ne : T2 ≠ T := fun z => by
          rw [z, a2] at c2
          have := congrArg Obj.data (Option.some.inj c2)
          simp at this
          omega
        rw [upd_ne ne]
        exact c4
      have nT : ∀ {b o}, H b = some o → b ≠ T := fun q => ne_of_none q a4
      refine ⟨T :: Ts, H2, by rw [b1]; rfl, ⟨a4, _, rfl, b2⟩, fun b o q => b3 b o (by rw [upd_ne (nT q)]; exact q), fun b o q n => ?_⟩
      by_cases z : b = T
      · subst z
        have e := b3 b _ upd_same
        rw [q] at e
        cases e
        exact ⟨a5, a6, fun H3 => ⟨a2, by show 2 ≤ sizeLine; decide, [.int (i : Nat) t, u], .cons ⟨_, rfl⟩ (.cons r0 .nil), ⟨_, a2, rfl, _, rfl⟩⟩⟩
      · exact b4 b o q (by rw [upd_ne z]; exact n)
end
def tLstEn (K : PySem.W.Frag) (ta : TA) : TE := fun σ H Q => ta σ H fun vs H1 => ∃ a xs, vs = [.ref a] ∧ SqT K H1 a xs ∧ ∀ Ts H2, Laid H1 0 Ts xs H2 → ∀ q, H2 q = none → Q (.ref q) (upd H2 q (.lst (Ts.map V.ref)))
theorem pe_listEn {X : Cx} {e : Expr} {ta : TA} {p p1 p2 pos : Pos} (hc : X.calm = true) (hg : Gl X "list") (hm : X.mg "list" = none) (hg2 : Gl X "enumerate") (hm2 : X.mg "enumerate" = none) (ha : PA X [e] ta) (hs : starEach [e] X.env = [(false, eval e X.env)] := by rfl)
    (na : starEach [.Call (.Name "enumerate" p1) [e] [] p2] X.env = (false, eval (.Call (.Name "enumerate" p1) [e] [] p2) X.env) :: starEach [] X.env := by rfl) :
    PE X (.Call (.Name "list" p) [.Call (.Name "enumerate" p1) [e] [] p2] [] pos) (tLstEn X.K ta) := by
  refine ⟨fun pins s σ H Q I h => ?_⟩
  refine Call_ (ld_blt I hg hm boot_list (PyProof.Rows.callWith_type1 (args_cons ?_ na) na))
  refine Call_ (ld_blt I hg2 hm2 boot_enumerate (PyProof.Rows.callWith_type1 (thn (ha.run p2 pins s σ H _ I h) fun us s1 ⟨vs, H1, I1, r1, q1⟩ => ?_) hs rfl))
  obtain ⟨a, xs, ex, hq, q⟩ := q1
  subst ex
  cases r1 with
  | cons r rr =>
    cases rr
    cases r
    obtain ⟨its, rv, p', hz⟩ := I1.tuple hq
    have p' : s1.heap.IsTuple a its.toArray := p'
    have hal : a < s1.heap.objs.size := let ⟨_, y, _⟩ := p'; Heap.lt_size y
    have ll := rv.length
    refine RtE.call_en p' fun h1 he hit hsz hk => args_nil ?_
    have I2 : Inv X pins σ H1 { s1 with heap := h1 } := I1.kept (t' := s1.toks) hk
    refine call_list_en (s := { s1 with heap := h1 }) (base := s1.heap.objs.size) (I2.ok.hd hc) (Nat.succ_ne_self _) (Nat.ne_of_lt hal) (Nat.ne_of_gt (Nat.lt_succ_of_lt hal)) (by rw [List.size_toArray, ← ll]; exact hz) he hit (p'.at fun o y => hk a o y) (by show s1.heap.objs.size ≤ h1.objs.size; rw [hsz]; exact Nat.le_add_right _ _) fun h2 tk acc c hk2 hS hG => ?_
    have k12 : ∀ b o, s1.heap.get? b = some o → h2.get? b = some o := fun b o y => hk2 b o (Nat.ne_of_lt (Nat.lt_succ_of_lt (Heap.lt_size y))) (Nat.ne_of_lt (Heap.lt_size y)) (hk b o y)
    have hS0 : s1.heap.objs.size ≤ h1.objs.size := by rw [hsz]; exact Nat.le_add_right _ _
    obtain ⟨Ts, H2, b1, b2, b3, b4⟩ := lay_all (P := X.prog) (w := X.w) (h' := h2) (base := s1.heap.objs.size) (S := h1.objs.size) its acc.toList 0 xs H1 rv (by rw [Array.length_toList, hG.1, List.size_toArray]) fun j hj => by
      obtain ⟨T, t, x, c1, c2, c3, c4, c5, _⟩ := hG.2 j (by simpa using hj)
      exact ⟨T, t, x, by simpa using c1, by rw [Nat.zero_add]; exact c2, by simpa using c3, I1.hok.fresh c4, c4, c5⟩
    have n2 : H2 h1.objs.size = none := by
      cases z : H2 h1.objs.size with
      | none => rfl
      | some u => exact absurd rfl (b4 _ u z (I1.hok.fresh hS0)).2.1
    have hlen : Ts.length = its.length := by
      have := hG.1
      rw [← Array.length_toList, b1, List.length_map] at this
      simpa using this
    have I3 : Inv X pins σ (upd H2 h1.objs.size (.lst (Ts.map V.ref))) { s1 with heap := h2, toks := tk } := inv_many I1 k12 (fun b o y => by
      have y2 := b3 b o y
      rw [upd_ne (ne_of_none y2 n2)]
      exact y2) fun b o y n => by
        by_cases z : b = h1.objs.size
        · subst z
          rw [upd_same] at y
          cases y
          refine ⟨hS0, show ObjOk X.prog X.w _ _ _ (.lst (Ts.map V.ref)) from ⟨by rw [List.length_map, hlen, ← ll]; exact hz, acc.toList, c, ?_, by rw [Array.toArray_toList]; exact hS⟩⟩
          rw [b1]
          clear b1 b2 hlen
          induction Ts with
          | nil => exact .nil
          | cons T Ts ih => exact .cons rfl ih
        · rw [upd_ne z] at y
          exact ⟨(b4 b o y n).1, (b4 b o y n).2.2 _⟩
    exact ⟨.ref h1.objs.size, _, I3, rfl, q Ts H2 b2 _ n2⟩
end RtL
namespace Rt
open PySem L2 Rt PyProof.Rows
/-- (i, x), (i + 1, x'), .. -/
def enumFrm {α : Type} : Nat → List α → List (Int × α)
  | _, [] => []
  | i, x :: xs => ((i : Nat), x) :: enumFrm (i + 1) xs
theorem enumFrm_eq {α : Type} (xs : List α) : enumFrm 0 xs = enumI xs := by
  have go : ∀ (xs : List α) (k : Nat), enumFrm k xs = (xs.zipIdx k).map fun p => (((p.2 : Nat) : Int), p.1) := by
    intro xs
    induction xs with
    | nil => intro k; rfl
    | cons x xs ih => intro k; rw [enumFrm, ih]; rfl
  exact go xs 0
theorem Fr.lay {α : Type} {re : Rp α} {C : Cs} {σ : L2.St} {env : List Sl} : ∀ {Ts : List Addr} {vs : List V} {xs : List α} {i : Nat} {S H H2 : Hp}, Fr C S H σ env → All2 (re.p S) vs xs → RtL.Laid H i Ts vs H2 → ∃ S2, Fr C S2 H2 σ env ∧ Ex S S2 ∧ All2 ((qP qI re).p S2) (Ts.map V.ref) (enumFrm i xs)
  | [], [], [], i, S, H, H2, F, _, h => by
    have h : H2 = H := h
    subst h
    exact ⟨S, F, Ex.refl S, True.intro⟩
  | T :: Ts, v :: vs, x :: xs, i, S, H, H2, F, ⟨a1, a2⟩, ⟨hT, o, ho, h⟩ => by
    have sT : S T = none := F.e1.back hT
    have F1 := F.new (o := .frz o (.tup [.int (i : Nat), v])) hT
    obtain ⟨S2, F2, e2, q⟩ := Fr.lay F1 (a2.mono fun _ _ z => re.mono (Ex.new sT) z) h
    exact ⟨S2, F2, (Ex.new sT).trans e2, ⟨T, .int (i : Nat), v, rfl, TupAt.mono e2 (TupAt.new ho), rfl, re.mono ((Ex.new sT).trans e2) a1⟩, q⟩
  | [], v :: vs, _, _, _, _, _, _, _, h => h.elim
  | T :: Ts, [], _, _, _, _, _, _, _, h => h.elim
  | _, [], _ :: _, _, _, _, _, _, h, _ => h.elim
  | _, _ :: _, [], _, _, _, _, _, h, _ => h.elim
theorem xn_listEn {X : Cx} {C : Cs} {env : Gh → List Sl} {α : Type} {re : Rp α} {a : Expr} {p p1 p2 pos : Pos} {mx : W (List α)} (hc : X.calm = true) (hg : Gl X "list") (hm : X.mg "list" = none) (hg2 : Gl X "enumerate") (hm2 : X.mg "enumerate" = none) (ha : PE X a (tE C env (qT re) mx))
    (hs : starEach [a] X.env = (false, eval a X.env) :: starEach [] X.env := by rfl) (hs' : starEach [a] X.env = [(false, eval a X.env)] := by rfl)
    (na : starEach [.Call (.Name "enumerate" p1) [a] [] p2] X.env = (false, eval (.Call (.Name "enumerate" p1) [a] [] p2) X.env) :: starEach [] X.env := by rfl) :
    PE X (.Call (.Name "list" p) [.Call (.Name "enumerate" p1) [a] [] p2] [] pos) (tN C env (qP qI re) (mx.bind fun xs => .ret (enumI xs))) :=
  pe_imp (RtL.pe_listEn hc hg hm hg2 hm2 (pa_cons ha pa_nil hs) hs' na) fun σ H Q _ ⟨S, g0, P, F, em, kk⟩ => ⟨S, g0, _, F, em, fun xs g1 px v S1 H1 F1 x1 ⟨p, vs, ev, hp, h2⟩ => by
    subst ev
    refine ⟨p, vs, rfl, TupAt.sq (TupAt.mono F1.e1 hp), fun Ts H2 hL q hq => ?_⟩
    obtain ⟨S2, F2, e2, hA⟩ := Fr.lay F1 h2 hL
    rw [enumFrm_eq] at hA
    exact fun _ => kk _ _ px q _ S2 H2 F2 (x1.trans e2) hq hA⟩
end Rt
namespace Rt
open PySem L2 Rt PyProof.Rows
section
variable {X : Cx} {C : Cs} {env : List Sl} {tg iter : Expr} {st : Stmt} {rest : List Stmt} {fi mi pi : Nat} {mx : W (List (Int × Int))} {pos pos0 p0 py : Pos} {x : Str} {β γ ρ : Type} {r : Rp ρ} {pn : β → Gh → List Sl} {pl : γ → Gh → List Sl} {kp : Gh → List Sl} {K : List (Int × List Int) → W (Fl ρ β γ)}
theorem xs_grpsB {up : Up (Int × Int)} (hp : PassesOwn (model X.prog X.w) X.A X.env X.xe) (hc : X.calm = true) (hi : ∀ C', PI X tg iter (tS C' (fun _ => env) (qW qI qI) mx)) (hg : PG X tg (tG (qW qI qI) up)) (hb : PS X st (sGrp fi mi pi))
    (hr : ∀ G, PSs X rest (tF C (fun _ => env.set fi (.im qDL G)) (K G) pn pl kp r))
    (hN : X.N.Nodup) (hx0 : X.N[fi]? = some x) (hx : Loc X.env.scope x) (hw : swapsWith (.Dict [] [] p0) (some (.Name x py)) pos0.line X.env = pure false) (hfn : X.fn x = true) (hsl : env[fi]? = some .un)
    (hU : ∀ j ∈ up.js, env[j]? = some .un) (hL : ∀ a, Le (up.f a env) env) (hf : fi ∉ up.js) (hm : ∀ a, (up.f a env)[mi]? = some (.im qI a.2)) (hpi : ∀ a, (up.f a env)[pi]? = some (.im qI a.1)) (hs : ∀ x, foldedSetIterable iter X.env x = pure x := by intro _; rfl) :
    PSs X (.Assign [.Name x py] (.Dict [] [] p0) pos0 :: .For tg iter [st] [] pos :: rest) (tF C (fun _ => env) (mx.bind fun ps => (W.ret (grps ps [])).bind K) pn pl kp r) :=
  xs_grps hp hc hi hg hb hr hN hx0 hx hw hfn hsl hU hL hf hm hpi hs
end
end Rt

set_option maxRecDepth 100000
set_option maxHeartbeats 4000000
/-! RtT: dicts whose keys are tuples, of any depth, and whose values are any: what stands in the heap; lookups, stores. -/
namespace Rt
open PySem L2 Rt PyProof.Rows
/-! ### a value that is a key -/
mutual
def NkV (H : Hp) : NestedKey → V → Prop
  | .none, v => v = .non
  | .num i, v => v = .int i
  | .text x, v => v = .str x
  | .tup ks, v => ∃ p vs, v = .ref p ∧ TupAt H p vs ∧ NkVs H ks vs
def NkVs (H : Hp) : List NestedKey → List V → Prop
  | [], vs => vs = []
  | k :: ks, vs => ∃ v ws, vs = v :: ws ∧ NkV H k v ∧ NkVs H ks ws
end
mutual
theorem NkV.mono {H H' : Hp} (e : Ex H H') : ∀ (k : NestedKey) (v : V), NkV H k v → NkV H' k v
  | .none, v, h => by unfold NkV at h ⊢; exact h
  | .num _, v, h => by unfold NkV at h ⊢; exact h
  | .text _, v, h => by unfold NkV at h ⊢; exact h
  | .tup ks, v, h => by
    unfold NkV at h ⊢
    obtain ⟨p, vs, h1, h2, h3⟩ := h
    exact ⟨p, vs, h1, h2.mono e, NkVs.mono e ks vs h3⟩
theorem NkVs.mono {H H' : Hp} (e : Ex H H') : ∀ (ks : List NestedKey) (vs : List V), NkVs H ks vs → NkVs H' ks vs
  | [], vs, h => by unfold NkVs at h ⊢; exact h
  | k :: ks, vs, h => by
    unfold NkVs at h ⊢
    obtain ⟨v, ws, h1, h2, h3⟩ := h
    exact ⟨v, ws, h1, NkV.mono e k v h2, NkVs.mono e ks ws h3⟩
end
section
variable {X : Cx} {pins : List (Addr × Obj)} {σ : L2.St} {H : Hp} {s : Shared}
mutual
theorem nk_is (I : Inv X pins σ H s) : ∀ (k : NestedKey) (v : V) (u : Value), NkV H k v → RelV v u → NestedIs s.heap k u
  | .none, v, u, h, r => by
    unfold NkV at h
    subst h
    cases (show u = Value.none from r)
    exact .none
  | .num i, v, u, h, r => by
    unfold NkV at h
    subst h
    obtain ⟨t, rfl⟩ := r
    exact .int _ _
  | .text x, v, u, h, r => by
    unfold NkV at h
    subst h
    obtain ⟨t, rfl⟩ := r
    exact .text _ _
  | .tup ks, v, u, h, r => by
    unfold NkV at h
    obtain ⟨p, vs, h1, h2, h3⟩ := h
    subst h1
    cases (show u = Value.ref p from r)
    obtain ⟨its, rv, ⟨ob, ho, hc, n, hd⟩, _⟩ := I.tuple h2.sq
    exact .tup ho hc hd (nks_is I ks vs its h3 rv)
theorem nks_is (I : Inv X pins σ H s) : ∀ (ks : List NestedKey) (vs : List V) (us : List Value), NkVs H ks vs → Vals vs us → NestedAll s.heap ks us
  | [], vs, us, h, r => by
    unfold NkVs at h
    subst h
    cases r
    exact .nil
  | k :: ks, vs, us, h, r => by
    unfold NkVs at h
    obtain ⟨v, ws, h1, h2, h3⟩ := h
    subst h1
    cases r with
    | cons r1 r2 => exact .cons (nk_is I k v _ h2 r1) (nks_is I ks ws _ h3 r2)
end
end
/-! ### keys of data -/
structure Kv {κ : Type} (r : Rp κ) (d : Nat) where
  enc : κ → NestedKey
  inj : ∀ {a b : κ}, enc a = enc b → a = b
  rep : ∀ {H : Hp} {v : V} {k : κ}, r.p H v k → NkV H (enc k) v
  dep : ∀ k, (enc k).depth ≤ d
def kvI : Kv qI 0 := ⟨.num, fun e => by injection e, fun h => by unfold NkV; exact h, fun _ => Nat.le_refl _⟩
def kvS : Kv qS 0 := ⟨.text, fun e => by injection e, fun h => by unfold NkV; exact h, fun _ => Nat.le_refl _⟩
section
variable {κ ι : Type} {r : Rp κ} {q : Rp ι} {d e : Nat}
theorem map_inj {f : κ → NestedKey} (hf : ∀ {a b : κ}, f a = f b → a = b) : ∀ {xs ys : List κ}, xs.map f = ys.map f → xs = ys
  | [], [], _ => rfl
  | x :: xs, y :: ys, h => by
    rw [List.map_cons, List.map_cons, List.cons.injEq] at h
    rw [hf h.1, map_inj hf h.2]
  | [], _ :: _, h => by cases h
  | _ :: _, [], h => by cases h
theorem depths (E : Kv r d) : ∀ ks : List κ, NestedKey.depthAll (ks.map E.enc) ≤ d
  | [] => Nat.zero_le _
  | k :: ks => by
    rw [List.map_cons, NestedKey.depthAll]
    exact Nat.max_le.mpr ⟨E.dep k, depths E ks⟩
theorem reps (E : Kv r d) {H : Hp} : ∀ {vs : List V} {ks : List κ}, All2 (r.p H) vs ks → NkVs H (ks.map E.enc) vs
  | [], [], _ => by unfold NkVs; rfl
  | v :: vs, k :: ks, ⟨a, b⟩ => by
    rw [List.map_cons]
    unfold NkVs
    exact ⟨v, vs, rfl, E.rep a, reps E b⟩
  | [], _ :: _, z => z.elim
  | _ :: _, [], z => z.elim
def kvT (E : Kv r d) : Kv (qT r) (d + 1) :=
  ⟨fun ks => .tup (ks.map E.enc), fun h => by injection h with h; exact map_inj E.inj h, fun ⟨p, vs, h1, h2, h3⟩ => by unfold NkV; exact ⟨p, vs, h1, h2, reps E h3⟩, fun ks => by
    rw [NestedKey.depth]
    exact Nat.succ_le_succ (depths E ks)⟩
def kvP (E : Kv r d) (F : Kv q e) : Kv (qP r q) (max d e + 1) :=
  ⟨fun x => .tup [E.enc x.1, F.enc x.2], fun {a b} h => by
    injection h with h
    injection h with h1 h
    injection h with h2 _
    exact Prod.ext (E.inj h1) (F.inj h2), fun ⟨p, x, y, h1, h2, h3, h4⟩ => by
    unfold NkV NkVs NkVs NkVs
    exact ⟨p, [x, y], h1, h2, x, [y], rfl, E.rep h3, y, [], rfl, F.rep h4, rfl⟩, fun x => by
    rw [NestedKey.depth, NestedKey.depthAll, NestedKey.depthAll, NestedKey.depthAll]
    have := E.dep x.1
    have := F.dep x.2
    omega⟩
end
/-- a kind of keys that are tuples -/
structure Kx {κ : Type} (r : Rp κ) where
  d : Nat
  kv : Kv r d
  le : d ≤ 8
  ref : ∀ {H : Hp} {v : V} {k : κ}, r.p H v k → ∃ b, v = .ref b
def kxT {κ : Type} {r : Rp κ} {d : Nat} (E : Kv r d) (h : d + 1 ≤ 8) : Kx (qT r) := ⟨d + 1, kvT E, h, fun ⟨p, _, h, _⟩ => ⟨p, h⟩⟩
def kxP {κ ι : Type} {r : Rp κ} {q : Rp ι} {d e : Nat} (E : Kv r d) (F : Kv q e) (h : max d e + 1 ≤ 8) : Kx (qP r q) := ⟨max d e + 1, kvP E F, h, fun ⟨p, _, _, h, _⟩ => ⟨p, h⟩⟩
/-- the address b in H is the key k -/
def KyA (H : Hp) (k : NestedKey) (b : Addr) : Prop := NkV H k (.ref b) ∧ k.depth ≤ 8
theorem Kx.at {κ : Type} {r : Rp κ} (E : Kx r) {H : Hp} {b : Addr} {k : κ} (h : r.p H (.ref b) k) : KyA H (E.kv.enc k) b := ⟨E.kv.rep h, Nat.le_trans (E.kv.dep k) E.le⟩
theorem KyA.is {X : Cx} {pins : List (Addr × Obj)} {σ : L2.St} {H : Hp} {s : Shared} (I : Inv X pins σ H s) {k : NestedKey} {b : Addr} (h : KyA H k b) : (nestedKind X.prog X.w).is s.heap k b := ⟨nk_is I k _ _ h.1 rfl, h.2⟩
/-! ### the object -/
abbrev Tl := List (Addr × NestedKey × V)
def T0 (P : Program) (w : World) (h : Heap) (a : Addr) (xs : List (NestedKey × Addr × Value)) : Prop :=
  (a == sysModules) = false ∧ xs.length ≤ sizeLine ∧ ∃ o es ep, h.get? a = some o ∧ o.ExactDict ∧ o.data = .dict es ep ∧ es.toList = xs.map (entryOfKey (nestedKind P w)) ∧ (xs.map (·.1)).Nodup
def RT (l : Addr × NestedKey × V) (x : NestedKey × Addr × Value) : Prop := x.1 = l.2.1 ∧ x.2.1 = l.1 ∧ RelV l.2.2 x.2.2
def DTO (P : Program) (w : World) (a : Addr) (L : Tl) : HO := .ext fun h => ∃ xs, All2 RT L xs ∧ T0 P w h a xs
theorem dto_new {P : Program} {w : World} {H : Hp} {h : Heap} {a : Addr} {L : Tl} (R : ∃ xs, All2 RT L xs ∧ T0 P w h a xs) : ObjOk P w H h a (DTO P w a L) := by
  obtain ⟨xs, h1, h2, h3, o, es, ep, ho, r⟩ := R
  refine ⟨⟨xs, h1, h2, h3, o, es, ep, ho, r⟩, ⟨o, ho⟩, fun g1 g2 ⟨ys, k1, k2, k3, o', es', ep', ho', r'⟩ k => ?_⟩
  exact ⟨ys, k1, k2, k3, o', es', ep', k o' ho', r'⟩
def valT (L : Tl) (k : NestedKey) : Option V := (L.find? fun l => decide (l.2.1 = k)).map (·.2.2)
def putT (L : Tl) (k : NestedKey) (b : Addr) (v : V) : Tl := if (valT L k).isSome = true then L.map (fun l => if l.2.1 = k then (l.1, l.2.1, v) else l) else L ++ [(b, k, v)]
theorem atT_rel (k : NestedKey) : ∀ {L : Tl} {xs : List (NestedKey × Addr × Value)}, All2 RT L xs → (∀ v, valT L k = some v → ∃ b u, atKey xs k = some (b, u) ∧ RelV v u) ∧ (valT L k = none → atKey xs k = none)
  | [], [], _ => ⟨(fun n h => nomatch h), fun _ => rfl⟩
  | l :: L, x :: xs, ⟨⟨h1, h2, h3⟩, h4⟩ => by
    obtain ⟨i1, i2⟩ := atT_rel k h4
    obtain ⟨x1, x2, x3⟩ := x
    simp only at h1 h2 h3
    subst h1 h2
    by_cases z : l.2.1 = k
    · have e1 : valT (l :: L) k = some l.2.2 := by unfold valT; rw [List.find?_cons_of_pos (by simpa using z)]; rfl
      have e2 : atKey ((l.2.1, l.1, x3) :: xs) k = some (l.1, x3) := by unfold atKey; rw [List.find?_cons_of_pos (by simpa using z)]; rfl
      rw [e1, e2]
      exact ⟨fun n h => by cases h; exact ⟨_, _, rfl, h3⟩, (fun h => nomatch h)⟩
    · have e1 : valT (l :: L) k = valT L k := by unfold valT; rw [List.find?_cons_of_neg (by simpa using z)]
      have e2 : atKey ((l.2.1, l.1, x3) :: xs) k = atKey xs k := by unfold atKey; rw [List.find?_cons_of_neg (by simpa using z)]
      rw [e1, e2]
      exact ⟨i1, i2⟩
  | [], _ :: _, z => z.elim
  | _ :: _, [], z => z.elim
theorem putT_rel {L : Tl} {xs : List (NestedKey × Addr × Value)} {k : NestedKey} {b : Addr} {v : V} {u : Value} (hv : RelV v u) (h : All2 RT L xs) : All2 RT (putT L k b v) (storedH xs k b u) := by
  obtain ⟨i1, i2⟩ := atT_rel k h
  unfold putT storedH
  cases e : valT L k with
  | none =>
    rw [i2 e, if_neg (by decide), if_neg (by decide)]
    exact h.snoc ⟨rfl, rfl, hv⟩
  | some m =>
    obtain ⟨b', u', e2, _⟩ := i1 m e
    rw [e2]
    simp only [Option.isSome_some, if_true]
    have go : ∀ {L : Tl} {xs : List (NestedKey × Addr × Value)}, All2 RT L xs → All2 RT (L.map (fun l => if l.2.1 = k then (l.1, l.2.1, v) else l)) (xs.map (putAt k u)) := by
      intro L
      induction L with
      | nil => intro xs h; cases xs with | nil => exact True.intro | cons _ _ => exact h.elim
      | cons l L ih =>
        intro xs h
        cases xs with
        | nil => exact h.elim
        | cons x xs =>
          obtain ⟨⟨h1, h2, h3⟩, h4⟩ := h
          refine ⟨?_, ih h4⟩
          show RT (if l.2.1 = k then (l.1, l.2.1, v) else l) (putAt k u x)
          unfold putAt
          by_cases z : l.2.1 = k
          · rw [if_pos z, if_pos (h1.trans z)]
            exact ⟨h1, h2, hv⟩
          · rw [if_neg z, if_neg fun y => z (h1.symm.trans y)]
            exact ⟨h1, h2, h3⟩
    exact go h
theorem putT_len (L : Tl) (k : NestedKey) (b : Addr) (v : V) : (putT L k b v).length ≤ L.length + 1 := by
  unfold putT
  split <;> simp
/-- the keys stand -/
def KysA (H : Hp) (L : Tl) : Prop := ∀ l ∈ L, KyA H l.2.1 l.1
section
variable {X : Cx} {pins : List (Addr × Obj)} {σ : L2.St} {H : Hp} {s : Shared} {a p b : Addr} {L : Tl}
theorem dto_ok (h : ObjOk X.prog X.w H s.heap p (DTO X.prog X.w a L)) : p = a ∧ ∃ xs, All2 RT L xs ∧ T0 X.prog X.w s.heap a xs := by
  obtain ⟨⟨xs, h1, h2⟩, ⟨o, ho⟩, h3⟩ := h
  refine ⟨?_, xs, h1, h2⟩
  rcases Classical.em (p = a) with z | z
  · exact z
  · obtain ⟨G, g1, g2⟩ := restrict s.heap fun b => decide (b ≠ a)
    obtain ⟨ys, k1, k2, k3, o2, es, ep, k4, _⟩ := h3 s.heap G ⟨xs, h1, h2⟩ fun o e => (g1 p (by simpa using z)).trans e
    rw [g2 a (by simp)] at k4
    cases k4
theorem dto_at (I : Inv X pins σ H s) (hp : Rd H p (DTO X.prog X.w a L)) : p = a ∧ ∃ xs, All2 RT L xs ∧ T0 X.prog X.w s.heap a xs := dto_ok (hp.ok I.hok)
theorem dto_full {xs : List (NestedKey × Addr × Value)} (I : Inv X pins σ H s) (h : T0 X.prog X.w s.heap a xs) (r : All2 RT L xs) (hk : KysA H L) : s.heap.DictOfH (nestedKind X.prog X.w) a xs := by
  obtain ⟨_, _, o, es, ep, h1, h2, h3, h4, h5⟩ := h
  refine ⟨o, es, ep, h1, h2, h3, h4, fun x hx => ?_, h5⟩
  have go : ∀ {L : Tl} {xs : List (NestedKey × Addr × Value)}, All2 RT L xs → ∀ x ∈ xs, ∃ l ∈ L, x.1 = l.2.1 ∧ x.2.1 = l.1 := by
    intro L
    induction L with
    | nil => intro xs h x hx; cases xs with | nil => cases hx | cons _ _ => exact h.elim
    | cons l L ih =>
      intro xs h x hx
      cases xs with
      | nil => cases hx
      | cons y xs =>
        rcases List.mem_cons.mp hx with e | hx
        · subst e
          exact ⟨l, List.mem_cons_self, h.1.1, h.1.2.1⟩
        · obtain ⟨l', m, r⟩ := ih h.2 x hx
          exact ⟨l', List.mem_cons_of_mem _ m, r⟩
  obtain ⟨l, hl, e1, e2⟩ := go r x hx
  rw [e1, e2]
  exact (hk l hl).is I
/-- d.get(k, e) -/
def rGetT (P : Program) (w : World) : V → List V → Hp → VK → Prop := fun x xs H Q => ∃ (p a : Addr) (L : Tl) (b : Addr) (k : NestedKey) (z : V), x = V.ref p ∧ xs = [V.ref b, z] ∧ Rd H p (DTO P w a L) ∧ KysA H L ∧ KyA H k b ∧
  (∀ v, valT L k = some v → Q v H) ∧ (valT L k = none → Q z H)
theorem mt_getT (hu : X.A.units + 9 < cLine) : MtR X "dict.get" (rGetT X.prog X.w) := by
  intro pins s σ H x xs v us Q I rx rxs ⟨p, a, L, b, k, z, e1, e2, hp, hL, hb, q1, q2⟩
  subst e1 e2
  obtain ⟨e, ys, r, d⟩ := dto_at I hp
  subst e
  obtain ⟨u1, u2, rfl, r1, r2⟩ := vals2 rxs
  cases rx
  cases (show u1 = Value.ref b from r1)
  have D := dto_full I d r hL
  refine call_meetsIn PySem.F.slot_dict_get D.typeIs PySem.F.entry_dict_get (PySem.F.args_dict_get_3 _ _ _) (meetsH_dict_get_default (nestedKind X.prog X.w) p b d.1 u2) ⟨hu, k, ys, hb.is I, D, ?_⟩
  obtain ⟨i1, i2⟩ := atT_rel k r
  cases hv : valT L k with
  | some n =>
    obtain ⟨b', t, e, rn⟩ := i1 n hv
    rw [e]
    exact ⟨n, H, I.tok _, rn, q1 n hv⟩
  | none =>
    rw [i2 hv]
    exact ⟨z, H, I.tok _, r2, q2 hv⟩
/-- d[k] = v -/
def rPutT (P : Program) (w : World) : TSet := fun o i v H Q => ∃ (p a : Addr) (L : Tl) (b : Addr) (k : NestedKey), o = V.ref p ∧ i = V.ref b ∧ H p = some (DTO P w a L) ∧ KysA H L ∧ KyA H k b ∧ L.length < sizeLine ∧ Q (upd H p (DTO P w a (putT L k b v)))
theorem set_putT (hu : X.A.units + 9 < cLine) : PSet X (rPutT X.prog X.w) := by
  intro pins s σ H o i v ov iv u Q I ro ri rv ⟨p, a, L, b, k, e1, e2, hp, hL, hb, hz, q⟩
  subst e1 e2
  obtain ⟨e, ys, r, d⟩ := dto_at I (.of hp)
  subst e
  cases (show ov = Value.ref p from ro)
  cases (show iv = Value.ref b from ri)
  have D := dto_full I d r hL
  refine wpAny_setItem_heap (hsz := d.2.1) hu (hb.is I) D fun h' ⟨o', es, ep, h1, h2, h3, h4, _, h5⟩ hs => ⟨_, ?_, q⟩
  have hlen := (putT_rel (k := k) (b := b) rv r).length
  have hll := putT_len L k b v
  exact I.write (e := p) (by rw [hp]; trivial) (.inl rfl) (fun c u hc e => (hs.2 c hc).trans e) ⟨o', h1⟩ (dto_new ⟨_, putT_rel rv r, d.1, by omega, o', es, ep, h1, h2, h3, h4, h5⟩)
/-- d[k] -/
def rSubT (P : Program) (w : World) : V → V → Hp → VK → Prop := fun x y H Q => ∃ (p a : Addr) (L : Tl) (b : Addr) (k : NestedKey) (v : V), x = V.ref p ∧ y = V.ref b ∧ Rd H p (DTO P w a L) ∧ KysA H L ∧ KyA H k b ∧ valT L k = some v ∧ Q v H
theorem get_subT (hu : X.A.units + 9 < cLine) : PGet X (rSubT X.prog X.w) := by
  intro pins s σ H o i ov iv Q I ro ri ⟨p, a, L, b, k, v, e1, e2, hp, hL, hb, hv, q⟩
  subst e1 e2
  obtain ⟨e, ys, r, d⟩ := dto_at I hp
  subst e
  cases (show ov = Value.ref p from ro)
  cases (show iv = Value.ref b from ri)
  have D := dto_full I d r hL
  obtain ⟨b', t, e, rn⟩ := (atT_rel k r).1 v hv
  exact wpAny_getItem_heap hu (hb.is I) D e ⟨v, H, I.tok _, rn, q⟩
def tSubT (P : Program) (w : World) (ta tb : TE) : TE := fun σ H Q => ta σ H fun x H1 => tb σ H1 fun y H2 => rSubT P w x y H2 Q
theorem pe_subT {o i : Expr} {td ty : TE} {pos : Pos} (hu : X.A.units + 9 < cLine) (ho : PE X o td) (hi : PE X i ty) (hs : NoSl i) : PE X (.Subscript o i pos) (tSubT X.prog X.w td ty) := by
  refine ⟨fun pins s σ H Q I h => ?_⟩
  refine subD_of PySem.F.slot_dict_getitem.lookup hs (thn (ho.run pins s σ H _ I h) fun u s1 ⟨x, H1, I1, rx, q1⟩ => thn (hi.run pins s1 σ H1 _ I1 q1) fun iv s2 ⟨y, H2, I2, ry, q⟩ => ?_)
  refine ⟨?_, get_subT hu pins s2 σ H2 x y u iv _ I2 rx ry q⟩
  obtain ⟨p, a, L, b, k, v, e1, e2, hp, _⟩ := q
  subst e1
  obtain ⟨e, ys, r, d⟩ := dto_at I2 hp
  subst e
  cases (show u = Value.ref p from rx)
  obtain ⟨_, _, o, _, _, h1, h2, _⟩ := d
  exact ⟨o, h1, h2.1⟩
/-- k in d, k not in d -/
def rInDT (P : Program) (w : World) (yes : Bool) : R2 := fun y x H Q => ∃ (p a : Addr) (L : Tl) (b : Addr) (k : NestedKey), x = V.ref p ∧ y = V.ref b ∧ Rd H p (DTO P w a L) ∧ KysA H L ∧ KyA H k b ∧ Q (.bl (if yes = true then (valT L k).isSome else !(valT L k).isSome)) H
theorem isSome_rel {L : Tl} {xs : List (NestedKey × Addr × Value)} (r : All2 RT L xs) (k : NestedKey) : (atKey xs k).isSome = (valT L k).isSome := by
  obtain ⟨i1, i2⟩ := atT_rel k r
  cases hv : valT L k with
  | some n =>
    obtain ⟨b', t, e, _⟩ := i1 n hv
    rw [e]
    rfl
  | none => rw [i2 hv]; rfl
theorem op_inDT (hu : X.A.units + 9 < cLine) : OpR X (compareOp .In) (rInDT X.prog X.w true) := by
  intro pins s σ H y x u v Q I ry rx ⟨p, a, L, b, k, e1, e2, hp, hL, hb, q⟩
  subst e1 e2
  obtain ⟨e, ys, r, d⟩ := dto_at I hp
  subst e
  cases (show v = Value.ref p from rx)
  cases (show u = Value.ref b from ry)
  have D := dto_full I d r hL
  rw [if_pos rfl, ← isSome_rel r k] at q
  exact wpAny_in_heap hu (hb.is I) d.1 D ⟨.bl (atKey ys k).isSome, H, I.tok _, rfl, q⟩
theorem op_ninDT (hu : X.A.units + 9 < cLine) : OpR X (compareOp .NotIn) (rInDT X.prog X.w false) := by
  intro pins s σ H y x u v Q I ry rx ⟨p, a, L, b, k, e1, e2, hp, hL, hb, q⟩
  subst e1 e2
  obtain ⟨e, ys, r, d⟩ := dto_at I hp
  subst e
  cases (show v = Value.ref p from rx)
  cases (show u = Value.ref b from ry)
  have D : s.heap.DictKeyed (nestedKind X.prog X.w) p (pairsH ys) := ⟨ys, dto_full I d r hL, rfl⟩
  rw [if_neg (by decide), ← isSome_rel r k] at q
  exact notIn_keyed hu (hb.is I) d.1 D ⟨.bl (!(atKey ys k).isSome), H, I.tok _, by rw [valueAt_pairsH, Option.isSome_map]; rfl, q⟩
/-- {} -/
def tNewT (P : Program) (w : World) : TE := fun _ H Q => ∀ p, H p = none → Q (.ref p) (upd H p (DTO P w p []))
theorem pe_dnewT {pos : Pos} : PE X (.Dict [] [] pos) (tNewT X.prog X.w) := ⟨fun pins s σ H Q I h =>
  wpAny_Dict_empty ⟨.ref s.heap.objs.size, _, I.laid (a := s.heap.objs.size) (o := DTO X.prog X.w s.heap.objs.size []) (t' := s.toks) (fun _ _ q => Heap.get?_push_of_some _ q) (Nat.le_refl _)
    (dto_new ⟨[], True.intro, beq_eq_false_iff_ne.mpr (Ne.symm (Nat.ne_of_lt I.big)), Nat.zero_le _, _, #[], 0, Heap.get?_push_size _ rfl, ⟨rfl, rfl, rfl⟩, rfl, rfl, List.nodup_nil⟩), rfl, h _ (I.hok.fresh (Nat.le_refl _))⟩⟩
/-- a method of such a dict -/
def tBMT (P : Program) (w : World) (r : V → List V → Hp → VK → Prop) (to : TE) (t : TA) : TE := fun σ H Q => to σ H fun x H1 => (∃ p a L, x = .ref p ∧ Rd H1 p (DTO P w a L)) ∧ t σ H1 fun xs H2 => r x xs H2 Q
theorem pe_bmT {o e : Expr} {es : List Expr} {name : Str} {id : String} {apos cpos : Pos} {r : V → List V → Hp → VK → Prop} {to : TE} {t : TA} (slot : Slot "dict" name id) (hty : typeOf (.builtin id) = pure (.type "method_descriptor")) (hm : MtR X id r) (ho : PE X o to) (ha : PA X (e :: es) t)
    (hbase : attributeBase o name X.env (eval o X.env) = eval o X.env := by rfl) (hfew : ((backTo cpos (starEach (e :: es) X.env)).all (fun x => !x.1) && (backToKw cpos (keywordEach [] X.env)).all (fun x => x.1.isSome) && decide ((e :: es).length + ([] : List Keyword).length + (if ([] : List Keyword).isEmpty then 0 else 1) < 30)) = true := by rfl)
    (hline : (apos.endLine == cpos.line) = true := by rfl) (hs : starEach (e :: es) X.env = (false, eval e X.env) :: starEach es X.env := by rfl) (hplain : (backTo cpos (starEach es X.env)).any (·.1) = false := by rfl) : PE X (.Call (.Attribute o name apos) (e :: es) [] cpos) (tBMT X.prog X.w r to t) := by
  refine ⟨fun pins s σ H Q I h => wpAny_Call_method_late hbase hfew hline rfl (thn (ho.run pins s σ H _ I h) fun v s1 ⟨x, H1, I1, r1, ⟨p, a, L, ex, hp⟩, q1⟩ => ?_)⟩
  subst ex
  cases r1
  obtain ⟨e, ys, _, d⟩ := dto_at I1 hp
  subst e
  obtain ⟨_, _, ob, _, _, h1, h2, _⟩ := d
  refine ⟨"dict", id, PySem.F.plainAttrs_dict, slot, hty, ⟨ob, h1, h2.1⟩, fun a ea => by cases ea; exact ⟨ob, h1, h2.2.1⟩, ?_⟩
  have hA := ha.run cpos pins s1 σ H1 _ I1 q1
  rw [hs] at hA ⊢
  exact Calls.callWith_builtin (by show (false || (backTo cpos (starEach es X.env)).any (·.1)) = false; rw [hplain]; rfl) (Calls.evalArgs_plain (thn hA fun us s2 ⟨vs2, H2, I2, r2, q2⟩ => hm pins s2 σ H2 (.ref p) vs2 _ us Q I2 rfl r2 q2))
end
end Rt

set_option maxRecDepth 100000
set_option maxHeartbeats 4000000
/-! RtTa: such dicts as data: {}, {k: v}, d[k] = v, d.get(k, z), d[k], k in d; changed no more. -/
namespace Rt
open PySem L2 Rt PyProof.Rows
section
variable {κ β : Type} [DecidableEq κ]
def tget (d : List (κ × β)) (k : κ) : Option β := (d.find? fun p => decide (p.1 = k)).map (·.2)
def tput (d : List (κ × β)) (k : κ) (v : β) : List (κ × β) := if (tget d k).isSome = true then d.map (fun p => if p.1 = k then (p.1, v) else p) else d ++ [(k, v)]
def tputC (d : List (κ × β)) (k : κ) (v : β) : Option (List (κ × β)) := if d.length ≤ 1000000 then some (tput d k v) else none
variable {rk : Rp κ} (E : Kx rk) (rv : Rp β)
def EnT (S : Hp) (l : Addr × NestedKey × V) (ab : κ × β) : Prop := l.2.1 = E.kv.enc ab.1 ∧ rk.p S (.ref l.1) ab.1 ∧ rv.p S l.2.2 ab.2
variable {E rv}
theorem EnT.mono {S S' : Hp} (e : Ex S S') {l : Addr × NestedKey × V} {ab : κ × β} (h : EnT E rv S l ab) : EnT E rv S' l ab := ⟨h.1, rk.mono e h.2.1, rv.mono e h.2.2⟩
theorem valT_rel {S : Hp} (k : κ) : ∀ {L : Tl} {d : List (κ × β)}, All2 (EnT E rv S) L d → (∀ v, tget d k = some v → ∃ x, valT L (E.kv.enc k) = some x ∧ rv.p S x v) ∧ (tget d k = none → valT L (E.kv.enc k) = none)
  | [], [], _ => ⟨(fun _ h => nomatch h), fun _ => rfl⟩
  | l :: L, ab :: d, ⟨⟨h1, h2, h3⟩, h4⟩ => by
    obtain ⟨i1, i2⟩ := valT_rel k h4
    by_cases z : ab.1 = k
    · have e1 : valT (l :: L) (E.kv.enc k) = some l.2.2 := by unfold valT; rw [List.find?_cons_of_pos (by simp [h1, z])]; rfl
      have e2 : tget (ab :: d) k = some ab.2 := by unfold tget; rw [List.find?_cons_of_pos (by simpa using z)]; rfl
      rw [e1, e2]
      exact ⟨fun v h => by cases h; exact ⟨_, rfl, h3⟩, (fun h => nomatch h)⟩
    · have z2 : ¬ l.2.1 = E.kv.enc k := fun w => z (E.kv.inj (h1.symm.trans w))
      have e1 : valT (l :: L) (E.kv.enc k) = valT L (E.kv.enc k) := by unfold valT; rw [List.find?_cons_of_neg (by simpa using z2)]
      have e2 : tget (ab :: d) k = tget d k := by unfold tget; rw [List.find?_cons_of_neg (by simpa using z)]
      rw [e1, e2]
      exact ⟨i1, i2⟩
  | [], _ :: _, z => z.elim
  | _ :: _, [], z => z.elim
theorem someT_rel {S : Hp} (k : κ) {L : Tl} {d : List (κ × β)} (h : All2 (EnT E rv S) L d) : (valT L (E.kv.enc k)).isSome = (tget d k).isSome := by
  obtain ⟨i1, i2⟩ := valT_rel k h
  cases e : tget d k with
  | some v =>
    obtain ⟨x, e2, _⟩ := i1 v e
    rw [e2]
    rfl
  | none => rw [i2 e]; rfl
theorem putT_data {S : Hp} {k : κ} {b : Addr} {x : V} {v : β} {L : Tl} {d : List (κ × β)} (h : All2 (EnT E rv S) L d) (hk : rk.p S (.ref b) k) (hx : rv.p S x v) : All2 (EnT E rv S) (putT L (E.kv.enc k) b x) (tput d k v) := by
  unfold putT tput
  rw [someT_rel k h]
  split
  · have go : ∀ {L : Tl} {d : List (κ × β)}, All2 (EnT E rv S) L d → All2 (EnT E rv S) (L.map (fun l => if l.2.1 = E.kv.enc k then (l.1, l.2.1, x) else l)) (d.map (fun p => if p.1 = k then (p.1, v) else p)) := by
      intro L
      induction L with
      | nil => intro d h; cases d with | nil => exact True.intro | cons _ _ => exact h.elim
      | cons l L ih =>
        intro d h
        cases d with
        | nil => exact h.elim
        | cons ab d =>
          obtain ⟨⟨h1, h2, h3⟩, h4⟩ := h
          refine ⟨?_, ih h4⟩
          show EnT E rv S (if l.2.1 = E.kv.enc k then (l.1, l.2.1, x) else l) (if ab.1 = k then (ab.1, v) else ab)
          by_cases z : ab.1 = k
          · rw [if_pos z, if_pos (by rw [h1, z])]
            exact ⟨h1, h2, hx⟩
          · rw [if_neg z, if_neg fun w => z (E.kv.inj (h1.symm.trans w))]
            exact ⟨h1, h2, h3⟩
    exact go h
  · exact h.snoc ⟨rfl, hk, hx⟩
theorem kysA {S H : Hp} (e : Ex S H) : ∀ {L : Tl} {d : List (κ × β)}, All2 (EnT E rv S) L d → KysA H L
  | [], [], _ => (fun _ h => nomatch h)
  | l :: L, ab :: d, ⟨⟨h1, h2, _⟩, h4⟩ => fun m hm => by
    rcases List.mem_cons.mp hm with w | hm
    · subst w
      rw [h1]
      exact E.at (rk.mono e h2)
    · exact kysA e h4 m hm
  | [], _ :: _, z => z.elim
  | _ :: _, [], z => z.elim
end
def oTb (P : Program) (w : World) {κ β : Type} [DecidableEq κ] {rk : Rp κ} (E : Kx rk) (rv : Rp β) : Og (List (κ × β)) := ⟨fun H u d => ∃ a L, u = DTO P w a L ∧ All2 (EnT E rv H) L d, fun e ⟨a, L, h1, h2⟩ => ⟨a, L, h1, h2.mono fun _ _ z => z.mono e⟩⟩
def qTb (P : Program) (w : World) {κ β : Type} [DecidableEq κ] {rk : Rp κ} (E : Kx rk) (rv : Rp β) : Rp (List (κ × β)) := ⟨fun S v d => ∃ p ob a L, v = .ref p ∧ S p = some (.frz ob (DTO P w a L)) ∧ All2 (EnT E rv S) L d, fun e ⟨p, ob, a, L, h1, h2, h3⟩ => ⟨p, ob, a, L, h1, e _ _ h2, h3.mono fun _ _ z => z.mono e⟩⟩
theorem upd_delT {H : Hp} {p : Addr} {o : HO} : upd (Rt.del H p) p o = upd H p o := by
  funext b
  by_cases z : b = p
  · rw [z, upd_same, upd_same]
  · rw [upd_ne z, upd_ne z]
    unfold Rt.del
    rw [if_neg z]
section
variable {C : Cs} {S S' H H' : Hp} {σ : L2.St} {env : List Sl}
theorem Fr.writeToT (F : Fr C S H σ env) {i : Nat} {α : Type} {q q' : Og α} {a : α} {p : Addr} {u : HO} (hi : env[i]? = some (.ob q a)) (hp : σ[i]? = some (some (.ref p))) (h : q'.p S u a) (nt : ∀ vs, u ≠ .tup vs) :
    Fr C S (upd H p u) σ (env.set i (.ob q' a)) := by
  have m : p ∈ owns σ env := owns_mem_get i hi hp rfl
  obtain ⟨sp, o, ho⟩ := F.sl.own m
  have eo : owns σ (env.set i (.ob q' a)) = owns σ env := owns_same hi hp rfl rfl
  refine ⟨F.e0, F.e1.mut sp, fun b u e n => ?_, F.nw, fun b h0 => ?_, F.sl.mutOne F.nd hi hp rfl ⟨p, u, rfl, sp, upd_same, h⟩, by rw [eo]; exact F.ow, by rw [eo]; exact F.nd, F.tc.up nt⟩
  · have nb : b ≠ p := fun z => by
      subst z
      rcases F.ow b m with q | q
      · rw [q] at e
        cases e
      · exact n q
    rw [upd_ne nb]
    exact F.e2 b u e n
  · by_cases z : b = p
    · rw [z, upd_same]
      exact fun z => nomatch z
    · rw [upd_ne z]
      exact F.al b h0
end
section
variable {X : Cx} {C : Cs} {env kp : Gh → List Sl} {e a b c : Expr} {A rest : List Stmt} {pos p px : Pos} {κ α β γ δ ρ : Type} [DecidableEq κ] {r : Rp ρ} {rk : Rp κ} {E : Kx rk} {rv : Rp δ} {mk : W κ} {mv : W δ} {md : W (List (κ × δ))} {pn : β → Gh → List Sl} {pl : γ → Gh → List Sl} {i j : Nat}
theorem key_at {S : Hp} {y : V} {k : κ} (E : Kx rk) (h : rk.p S y k) : ∃ b, y = V.ref b ∧ rk.p S (.ref b) k := by
  obtain ⟨b, e⟩ := E.ref h
  subst e
  exact ⟨b, rfl, h⟩
/-- x = {} -/
theorem xs_setT0 {x : Str} {py : Pos} {K : W (Fl ρ β γ)} (hr : PSs X rest (tF C (fun g => (env g).set i (.ob (oTb X.prog X.w E rv) [])) K pn pl kp r)) (hN : X.N.Nodup) (hi : X.N[i]? = some x) (hx : Loc X.env.scope x) (hs : swapsWith (.Dict [] [] p) (some (.Name x py)) pos.line X.env = pure false)
    (hf : X.fn x = true) : PSs X (.Assign [.Name x py] (.Dict [] [] p) pos :: rest) (tF C env K pn pl kp r) :=
  pss_imp (pss_cons (ps_set hN hi hx pe_dnewT hs (.inl hf)) hr) fun D σ H _ ⟨S, g0, P, F, em, q⟩ q0 hq =>
    ⟨S, g0, P, F.setOb i hq ⟨q0, [], rfl, True.intro⟩ (fun _ z => nomatch z), em, q⟩
/-- x[k] = v -/
theorem xs_putT {x : Str} {ps : Pos} {d : List (κ × δ)} {K : List (κ × δ) → W (Fl ρ β γ)} (hu : X.A.units + 9 < cLine) (hv : PE X e (tE C env rv mv)) (hd : PE X (.Name x px) (tVar i)) (hb : PE X b (tE C env rk mk)) (hr : ∀ ys, PSs X rest (tF C (fun g => (env g).set i (.ob (oTb X.prog X.w E rv) ys)) (K ys) pn pl kp r)) (hi : ∀ g, (env g)[i]? = some (.ob (oTb X.prog X.w E rv) d) := by intro _; rfl)
    (ha : ∀ v, assign (.Subscript (.Name x px) b ps) X.env v = (do
      let ov ← holding [v] (eval (.Name x px) X.env)
      let iv ← holding [v, ov] (eval b X.env)
      standAt ps
      holding [v, ov, iv] (setItem ov iv v)
      release [v, ov, iv] []) := by intro _; rfl)
    (hs : swapsWithSole [.Subscript (.Name x px) b ps] e pos.line X.env = pure false := by rfl) (hw : swappedStores [.Subscript (.Name x px) b ps] e X.env = pure none := by rfl) (h1 : (assignEach [.Subscript (.Name x px) b ps] X.env).map (·.2) = [assign (.Subscript (.Name x px) b ps) X.env] := by rfl) :
    PSs X (.Assign [.Subscript (.Name x px) b ps] e pos :: rest) (tF C env (mv.bind fun v => mk.bind fun k => (ofO (tputC d k v)).bind K) pn pl kp r) :=
  pss_imp (pss_cons (ps_asg hv (pg_sub hd hb (set_putT hu) ha) hs hw h1) (pss_ex hr)) fun D σ H _ ⟨S, g0, P, F, em, q⟩ => ⟨S, g0, _, F, em, fun v g1 pv u S1 H1 F1 x1 hu => by
    obtain ⟨w1, ew1, p1, u1, e1, sp1, hp1, _⟩ := F1.sl.get i (hi _)
    subst e1
    refine ⟨.ref p1, ew1, S1, g1, _, F1, pv, fun k g2 ⟨ys, ey, py⟩ y S2 H2 F2 x2 hy => ?_⟩
    obtain ⟨w2, ew2, p2, u2, e2, sp2, hp2, a2, L, eu2, hL⟩ := F2.sl.get i (hi _)
    subst e2
    rw [ew1] at ew2
    cases ew2
    subst eu2
    unfold tputC at ey
    split at ey
    case isFalse => cases ey
    rename_i hl
    cases ey
    obtain ⟨b2, eb, hb2⟩ := key_at E hy
    have hlen := All2.length hL
    refine ⟨p1, a2, L, b2, E.kv.enc k, rfl, eb, hp2, kysA F2.e1 hL, E.at (rk.mono F2.e1 hb2), by rw [sizeLine_eq]; omega, tput d k v, S2, g2, P, ?_, py, fun o g9 po => (q o g9 po).mono (x1.trans x2)⟩
    exact F2.writeOb (hi _) ew1 ⟨a2, _, rfl, putT_data hL hb2 (rv.mono x2 hu)⟩ (fun _ z => nomatch z)⟩
/-- x.get(k, z), x the def's own -/
theorem xe_getT {x : Str} {pa pc : Pos} {d : List (κ × δ)} (hu : X.A.units + 9 < cLine) (hd : PE X (.Name x px) (tVar i)) (hb : PE X b (tE C env rk mk)) (hc : PE X c (tE C env rv mv)) (hi : ∀ g, (env g)[i]? = some (.ob (oTb X.prog X.w E rv) d) := by intro _; rfl)
    (hbase : attributeBase (.Name x px) "get" X.env (eval (.Name x px) X.env) = eval (.Name x px) X.env := by rfl) (hfew : ((backTo pc (starEach [b, c] X.env)).all (fun x => !x.1) && (backToKw pc (keywordEach [] X.env)).all (fun x => x.1.isSome) && decide (([b, c] : List Expr).length + ([] : List Keyword).length + (if ([] : List Keyword).isEmpty then 0 else 1) < 30)) = true := by rfl)
    (hline : (pa.endLine == pc.line) = true := by rfl) (hs : starEach [b, c] X.env = (false, eval b X.env) :: starEach [c] X.env := by rfl) (hs2 : starEach [c] X.env = (false, eval c X.env) :: starEach [] X.env := by rfl) (hplain : (backTo pc (starEach [c] X.env)).any (·.1) = false := by rfl) :
    PE X (.Call (.Attribute (.Name x px) "get" pa) [b, c] [] pc) (tE C env rv (mk.bind fun k => mv.bind fun z => .ret ((tget d k).getD z))) :=
  pe_imp (pe_bmT PySem.F.slot_dict_get PySem.F.type_dict_get (mt_getT hu) hd (pa_cons hb (pa_cons hc pa_nil hs2) hs) hbase hfew hline hs hplain) fun σ H Q _ ⟨S, g0, P, F, em, kk⟩ => by
    obtain ⟨w1, ew1, p1, u1, e1, sp1, hp1, a1, L1, eu1, _⟩ := F.sl.get i (hi _)
    subst e1 eu1
    refine ⟨.ref p1, ew1, ⟨p1, a1, L1, rfl, .of hp1⟩, S, g0, _, F, em, fun k g1 pk y S1 H1 F1 x1 hy => ⟨S1, g1, _, F1, pk, fun z g2 pz v2 S2 H2 F2 x2 hz => ?_⟩⟩
    obtain ⟨w2, ew2, p2, u2, e2, sp2, hp2, a2, L, eu2, hL⟩ := F2.sl.get i (hi _)
    subst e2
    rw [ew1] at ew2
    cases ew2
    subst eu2
    obtain ⟨b2, eb, hb2⟩ := key_at E (rk.mono x2 hy)
    subst eb
    obtain ⟨i1, i2⟩ := valT_rel k hL
    refine ⟨p1, a2, L, b2, E.kv.enc k, _, rfl, rfl, .of hp2, kysA F2.e1 hL, E.at (rk.mono F2.e1 hb2), fun v hv => ?_, fun hv => ?_⟩
    · cases et : tget d k with
      | none => rw [i2 et] at hv; cases hv
      | some t =>
        obtain ⟨x, ex, hx⟩ := i1 t et
        rw [ex] at hv
        cases hv
        exact fun _ => kk _ _ pz _ S2 H2 F2 (x1.trans x2) (by rw [et]; exact hx)
    · cases et : tget d k with
      | none => exact fun _ => kk _ _ pz _ S2 H2 F2 (x1.trans x2) (by rw [et]; exact hz)
      | some t =>
        obtain ⟨x, ex, _⟩ := i1 t et
        rw [ex] at hv
        cases hv
/-- d.get(k, z), d changed no more -/
theorem xe_getF {pa pc : Pos} (hu : X.A.units + 9 < cLine) (hd : PE X a (tE C env (qTb X.prog X.w E rv) md)) (hb : PE X b (tE C env rk mk)) (hc : PE X c (tE C env rv mv))
    (hbase : attributeBase a "get" X.env (eval a X.env) = eval a X.env := by rfl) (hfew : ((backTo pc (starEach [b, c] X.env)).all (fun x => !x.1) && (backToKw pc (keywordEach [] X.env)).all (fun x => x.1.isSome) && decide (([b, c] : List Expr).length + ([] : List Keyword).length + (if ([] : List Keyword).isEmpty then 0 else 1) < 30)) = true := by rfl)
    (hline : (pa.endLine == pc.line) = true := by rfl) (hs : starEach [b, c] X.env = (false, eval b X.env) :: starEach [c] X.env := by rfl) (hs2 : starEach [c] X.env = (false, eval c X.env) :: starEach [] X.env := by rfl) (hplain : (backTo pc (starEach [c] X.env)).any (·.1) = false := by rfl) :
    PE X (.Call (.Attribute a "get" pa) [b, c] [] pc) (tE C env rv (md.bind fun d => mk.bind fun k => mv.bind fun z => .ret ((tget d k).getD z))) :=
  pe_imp (pe_bmT PySem.F.slot_dict_get PySem.F.type_dict_get (mt_getT hu) hd (pa_cons hb (pa_cons hc pa_nil hs2) hs) hbase hfew hline hs hplain) fun σ H Q _ ⟨S, g0, P, F, em, kk⟩ => ⟨S, g0, _, F, em, fun d g0' pd x0 S0 H0 F0 x0' ⟨p1, ob, a1, L, e1, hp1, hL⟩ => by
    subst e1
    refine ⟨⟨p1, a1, L, rfl, .inr ⟨ob, F0.e1 _ _ hp1⟩⟩, S0, g0', _, F0, pd, fun k g1 pk y S1 H1 F1 x1 hy => ⟨S1, g1, _, F1, pk, fun z g2 pz v2 S2 H2 F2 x2 hz => ?_⟩⟩
    obtain ⟨b2, eb, hb2⟩ := key_at E (rk.mono x2 hy)
    subst eb
    have hL := hL.mono fun _ _ z => EnT.mono (x1.trans x2) z
    obtain ⟨i1, i2⟩ := valT_rel k hL
    refine ⟨p1, a1, L, b2, E.kv.enc k, _, rfl, rfl, .inr ⟨ob, F2.e1 _ _ ((x1.trans x2) _ _ hp1)⟩, kysA F2.e1 hL, E.at (rk.mono F2.e1 hb2), fun v hv => ?_, fun hv => ?_⟩
    · cases et : tget d k with
      | none => rw [i2 et] at hv; cases hv
      | some t =>
        obtain ⟨x, ex, hx⟩ := i1 t et
        rw [ex] at hv
        cases hv
        exact fun _ => kk _ _ pz _ S2 H2 F2 (x0'.trans (x1.trans x2)) (by rw [et]; exact hx)
    · cases et : tget d k with
      | none => exact fun _ => kk _ _ pz _ S2 H2 F2 (x0'.trans (x1.trans x2)) (by rw [et]; exact hz)
      | some t =>
        obtain ⟨x, ex, _⟩ := i1 t et
        rw [ex] at hv
        cases hv⟩
/-- d[k], d changed no more -/
theorem xe_subF (hu : X.A.units + 9 < cLine) (hd : PE X a (tE C env (qTb X.prog X.w E rv) md)) (hb : PE X b (tE C env rk mk)) (hs : NoSl b := by intro _ _; rfl) : PE X (.Subscript a b pos) (tE C env rv (md.bind fun d => mk.bind fun k => ofO (tget d k))) :=
  pe_imp (pe_subT hu hd hb hs) fun σ H Q _ ⟨S, g0, P, F, em, kk⟩ => ⟨S, g0, _, F, em, fun d g0' pd x0 S0 H0 F0 x0' ⟨p1, ob, a1, L, e1, hp1, hL⟩ => by
    subst e1
    refine ⟨S0, g0', _, F0, pd, fun k g1 ⟨v, ev, pv⟩ y S1 H1 F1 x1 hy => ?_⟩
    obtain ⟨b2, eb, hb2⟩ := key_at E hy
    subst eb
    have hL := hL.mono fun _ _ z => EnT.mono x1 z
    obtain ⟨x, ex, hx⟩ := (valT_rel k hL).1 v ev
    exact ⟨p1, a1, L, b2, E.kv.enc k, x, rfl, rfl, .inr ⟨ob, F1.e1 _ _ (x1 _ _ hp1)⟩, kysA F1.e1 hL, E.at (rk.mono F1.e1 hb2), ex, fun _ => kk _ _ pv _ S1 H1 F1 (x0'.trans x1) hx⟩⟩
/-- x[k], x the def's own -/
theorem xe_subO {x : Str} {d : List (κ × δ)} (hu : X.A.units + 9 < cLine) (hd : PE X (.Name x px) (tVar i)) (hb : PE X b (tE C env rk mk)) (hi : ∀ g, (env g)[i]? = some (.ob (oTb X.prog X.w E rv) d) := by intro _; rfl) (hs : NoSl b := by intro _ _; rfl) : PE X (.Subscript (.Name x px) b pos) (tE C env rv (mk.bind fun k => ofO (tget d k))) :=
  pe_imp (pe_subT hu hd hb hs) fun σ H Q _ ⟨S, g0, P, F, em, kk⟩ => by
    obtain ⟨w1, ew1, p1, u1, e1, sp1, hp1, a1, L1, eu1, _⟩ := F.sl.get i (hi _)
    subst e1 eu1
    refine ⟨.ref p1, ew1, S, g0, _, F, em, fun k g1 ⟨v, ev, pv⟩ y S1 H1 F1 x1 hy => ?_⟩
    obtain ⟨w2, ew2, p2, u2, e2, sp2, hp2, a2, L, eu2, hL⟩ := F1.sl.get i (hi _)
    subst e2
    rw [ew1] at ew2
    cases ew2
    subst eu2
    obtain ⟨b2, eb, hb2⟩ := key_at E hy
    subst eb
    obtain ⟨x, ex, hx⟩ := (valT_rel k hL).1 v ev
    exact ⟨p1, a2, L, b2, E.kv.enc k, x, rfl, rfl, .of hp2, kysA F1.e1 hL, E.at (rk.mono F1.e1 hb2), ex, fun _ => kk _ _ pv _ S1 H1 F1 x1 hx⟩
/-- changed no more -/
theorem lkT_at {S H : Hp} {σ : L2.St} {en : List Sl} {d : List (κ × δ)} (F : Fr C S H σ en) (hi : en[i]? = some (.ob (oTb X.prog X.w E rv) d)) (h0 : ∀ p, σ[i]? = some (some (.ref p)) → p ∉ C.A0) :
    ∃ p u, H p = some u ∧ Mut (some u) ∧ ∀ od, ∃ S', Ex S S' ∧ Fr C S' (upd H p (.frz od u)) σ (en.set i (.im (qTb X.prog X.w E rv) d)) := by
  obtain ⟨v, ev, p1, u1, e1, sp1, hp1, a1, L1, eu1, ha1⟩ := F.sl.get i hi
  subst e1 eu1
  have hlt : i < en.length := by
    rcases Nat.lt_or_ge i en.length with h | h
    · exact h
    · rw [List.getElem?_eq_none h] at hi
      cases hi
  refine ⟨p1, _, hp1, True.intro, fun od => ?_⟩
  have F1 := F.writeToT (q' := (⟨fun H u d => ∃ ob a L, u = .frz ob (DTO X.prog X.w a L) ∧ All2 (EnT E rv H) L d, fun e ⟨ob, a, L, h1, h2⟩ => ⟨ob, a, L, h1, h2.mono fun _ _ z => z.mono e⟩⟩ : Og (List (κ × δ)))) (u := .frz od (DTO X.prog X.w a1 L1)) (a := d) hi ev ⟨od, a1, L1, rfl, ha1⟩ (fun _ z => nomatch z)
  obtain ⟨S', x1, F2⟩ := F1.freezeOb (i := i) (by rw [List.getElem?_set_self hlt]) h0
  rw [List.set_set] at F2
  refine ⟨S', x1, ?_⟩
  obtain ⟨v2, ev2, hv2⟩ := F2.sl.get i (List.getElem?_set_self hlt)
  obtain ⟨x2, ex2, p2, u2, q1, q2, ob, a, L, q3, q4⟩ := hv2
  subst ex2 q1 q3
  have F3 := F2.setIm i (r := qTb X.prog X.w E rv) (v := .ref p2) (a := d) ⟨p2, ob, a, L, rfl, q2, q4⟩
  rw [List.set_set] at F3
  have es : σ.set i (some (V.ref p2)) = σ := by
    refine List.ext_getElem? fun j => ?_
    by_cases z : i = j
    · subst z
      rw [ev2, List.getElem?_set_self (List.getElem?_eq_some_iff.mp ev2).1]
    · rw [List.getElem?_set_ne z]
  rw [es] at F3
  exact F3
theorem xs_lkT (i : Nat) {d : List (κ × δ)} {m : W (Fl ρ β γ)} (hA : C.A0 = []) (hr : PSs X A (tF C (fun g => (env g).set i (.im (qTb X.prog X.w E rv) d)) m pn pl kp r)) (hi : ∀ g, (env g)[i]? = some (.ob (oTb X.prog X.w E rv) d) := by intro _; rfl) : PSs X A (tF C env m pn pl kp r) :=
  pss_imp (pss_lk hr) fun D σ H _ ⟨S, g0, P, F, em, q⟩ => by
    obtain ⟨p, u, hp, mu, h⟩ := lkT_at F (hi _) fun p _ => by rw [hA]; simp
    refine ⟨p, u, hp, mu, fun od => ?_⟩
    obtain ⟨S', x1, F2⟩ := h od
    exact ⟨S', g0, P, F2, em, fun o g9 po => (q o g9 po).mono x1⟩
/-! k in d -/
theorem xe_inO {x : Str} {d : List (κ × δ)} {pos' : Pos} (hu : X.A.units + 9 < cLine) (hb : PE X b (tE C env rk mk)) (hd : PE X (.Name x px) (tVar i)) (hi : ∀ g, (env g)[i]? = some (.ob (oTb X.prog X.w E rv) d) := by intro _; rfl) (hm : behindInMarks .In (.Name x px) = false := by rfl) :
    PE X (.Compare b [.In] [.Name x px] pos) (tE C env qB (mk.bind fun k => .ret (tget d k).isSome)) :=
  pe_imp (pe_cmpR (op_inDT hu) hb hd hm) fun σ H Q _ ⟨S, g0, P, F, em, kk⟩ => ⟨S, g0, _, F, em, fun k g1 pk y S1 H1 F1 x1 hy => by
    obtain ⟨w2, ew2, p2, u2, e2, sp2, hp2, a2, L, eu2, hL⟩ := F1.sl.get i (hi _)
    subst e2 eu2
    obtain ⟨b2, eb, hb2⟩ := key_at E hy
    subst eb
    exact ⟨.ref p2, ew2, p2, a2, L, b2, E.kv.enc k, rfl, rfl, .of hp2, kysA F1.e1 hL, E.at (rk.mono F1.e1 hb2), by rw [if_pos rfl, someT_rel k hL]; exact fun _ => kk _ _ pk _ S1 H1 F1 x1 rfl⟩⟩
theorem xe_ninO {x : Str} {d : List (κ × δ)} (hu : X.A.units + 9 < cLine) (hb : PE X b (tE C env rk mk)) (hd : PE X (.Name x px) (tVar i)) (hi : ∀ g, (env g)[i]? = some (.ob (oTb X.prog X.w E rv) d) := by intro _; rfl) (hm : behindInMarks .NotIn (.Name x px) = false := by rfl) :
    PE X (.Compare b [.NotIn] [.Name x px] pos) (tE C env qB (mk.bind fun k => .ret (!(tget d k).isSome))) :=
  pe_imp (pe_cmpR (op_ninDT hu) hb hd hm) fun σ H Q _ ⟨S, g0, P, F, em, kk⟩ => ⟨S, g0, _, F, em, fun k g1 pk y S1 H1 F1 x1 hy => by
    obtain ⟨w2, ew2, p2, u2, e2, sp2, hp2, a2, L, eu2, hL⟩ := F1.sl.get i (hi _)
    subst e2 eu2
    obtain ⟨b2, eb, hb2⟩ := key_at E hy
    subst eb
    exact ⟨.ref p2, ew2, p2, a2, L, b2, E.kv.enc k, rfl, rfl, .of hp2, kysA F1.e1 hL, E.at (rk.mono F1.e1 hb2), by rw [if_neg (by decide), someT_rel k hL]; exact fun _ => kk _ _ pk _ S1 H1 F1 x1 rfl⟩⟩
theorem xe_inF (hu : X.A.units + 9 < cLine) (hb : PE X b (tE C env rk mk)) (hd : PE X a (tE C env (qTb X.prog X.w E rv) md)) (hm : behindInMarks .In a = false := by rfl) :
    PE X (.Compare b [.In] [a] pos) (tE C env qB (mk.bind fun k => md.bind fun d => .ret (tget d k).isSome)) :=
  pe_imp (pe_cmpR (op_inDT hu) hb hd hm) fun σ H Q _ ⟨S, g0, P, F, em, kk⟩ => ⟨S, g0, _, F, em, fun k g1 pk y S1 H1 F1 x1 hy => ⟨S1, g1, _, F1, pk, fun d g2 pd x S2 H2 F2 x2 ⟨p1, ob, a1, L, e1, hp1, hL⟩ => by
    subst e1
    obtain ⟨b2, eb, hb2⟩ := key_at E (rk.mono x2 hy)
    subst eb
    exact ⟨p1, a1, L, b2, E.kv.enc k, rfl, rfl, .inr ⟨ob, F2.e1 _ _ hp1⟩, kysA F2.e1 hL, E.at (rk.mono F2.e1 hb2), by rw [if_pos rfl, someT_rel k hL]; exact fun _ => kk _ _ pd _ S2 H2 F2 (x1.trans x2) rfl⟩⟩⟩
/-! {k: v} -/
end
def tDisp1T (P : Program) (w : World) (tk tv : TE) : TE := fun σ H Q => ∀ p, H p = none → tk σ (upd H p (DTO P w p [])) fun x H1 => tv σ H1 fun y H2 => H2 p = some (DTO P w p []) ∧ ∃ (k : NestedKey) (b : Addr), x = .ref b ∧ KyA H2 k b ∧ ∀ ob, Q (.ref p) (upd H2 p (.frz ob (DTO P w p [(b, k, y)])))
theorem pe_disp1T {X : Cx} {pos : Pos} {k v : Expr} {tk tv : TE} (hu : X.A.units + 9 < cLine) (hk : PE X k tk) (hv : PE X v tv) : PE X (.Dict [some k] [v] pos) (tDisp1T X.prog X.w tk tv) := by
  refine ⟨fun pins s σ H Q I q => ?_⟩
  have hn := I.hok.fresh (Nat.le_refl s.heap.objs.size)
  have hsys : (s.heap.objs.size == sysModules) = false := beq_eq_false_iff_ne.mpr (Ne.symm (Nat.ne_of_lt I.big))
  have I1 := I.laid (a := s.heap.objs.size) (o := DTO X.prog X.w s.heap.objs.size []) (h' := s.heap.push { cls := .type "dict", data := .dict #[] }) (t' := s.toks) (fun _ _ q => Heap.get?_push_of_some _ q) (Nat.le_refl _)
    (dto_new ⟨[], True.intro, hsys, Nat.zero_le _, _, #[], 0, Heap.get?_push_size _ rfl, ⟨rfl, rfl, rfl⟩, rfl, rfl, List.nodup_nil⟩)
  have hl : (pairTrees [some k] [v] X.env pos).length = 1 := pairTrees_length [some k] [v] X.env pos rfl rfl
  rw [arm_eval_Dict, zip_pairTrees [some k] [v] X.env pos (by rfl) rfl, dictDisplay_pairs (pairTrees [some k] [v] X.env pos) (by intro z; cases z) (by rw [hl]; decide)]
  refine wpAny_bind (wpAny_standAt (wpAny_bind (wpAny_subDictH (knd := nestedKind X.prog X.w) (Q := fun d s' => wpAny (model X.prog X.w) X.A (pure (Value.ref d)) (EP X pins σ Q) X.xe s') (show X.A.units + 8 < cLine by omega) (by rw [hl]; decide) ?_)))
  refine thn ((pps_cons hk hv pps_nil).run pins _ σ _ (fun ps H2 => match ps with
    | [(x, y)] => H2 s.heap.objs.size = some (DTO X.prog X.w s.heap.objs.size []) ∧ ∃ (kk : NestedKey) (b : Addr), x = .ref b ∧ KyA H2 kk b ∧ ∀ ob, Q (.ref s.heap.objs.size) (upd H2 s.heap.objs.size (.frz ob (DTO X.prog X.w s.heap.objs.size [(b, kk, y)])))
    | _ => False) I1 (q _ hn)) fun ws s2 ⟨ps, H2, I2, rel, q2⟩ => ?_
  match ps, rel, q2 with
  | [(x, y)], .cons (b := (u, r)) hh .nil, ⟨e, kk, b, ex, hb, q2⟩ =>
    subst ex
    obtain ⟨hh1, hh2⟩ := hh
    cases (show u = Value.ref b from hh1)
    obtain ⟨_, xs, rel, d0⟩ := dto_at I2 (.of e)
    have dd := dto_full I2 d0 rel (fun _ h => nomatch h)
    cases xs with
    | cons _ _ => exact rel.elim
    | nil =>
    refine ⟨[(kk, b, r)], ⟨rfl, rfl, hb.is I2, True.intro⟩, dd, fun h' tk dd' hs => ?_⟩
    obtain ⟨qo, es, ep, hq, h2, h3, h4, _, h5⟩ := dd'
    have I3 : Inv X pins σ (upd H2 s.heap.objs.size (.frz qo (DTO X.prog X.w s.heap.objs.size [(b, kk, y)]))) { s2 with heap := h', toks := tk } :=
      I2.write (e := s.heap.objs.size) (by rw [e]; exact True.intro) (.inl rfl) (fun c u hc e => (hs.2 c hc).trans e) ⟨qo, hq⟩ ⟨hq, dto_new ⟨[(kk, b, r)], ⟨⟨rfl, rfl, hh2⟩, True.intro⟩, hsys, by show 1 ≤ sizeLine; decide, qo, es, ep, hq, h2, h3, h4, h5⟩⟩
    exact wpAny_pure ⟨.ref s.heap.objs.size, _, I3, rfl, q2 qo⟩
section
variable {X : Cx} {C : Cs} {env kp : Gh → List Sl} {e a b c : Expr} {A rest : List Stmt} {pos p px : Pos} {κ α β γ δ ρ : Type} [DecidableEq κ] {r : Rp ρ} {rk : Rp κ} {E : Kx rk} {rv : Rp δ} {mk : W κ} {mv : W δ} {md : W (List (κ × δ))} {pn : β → Gh → List Sl} {pl : γ → Gh → List Sl} {i j : Nat}
theorem xe_disp1 (hu : X.A.units + 9 < cLine) (hk : ∀ C', PE X a (tE C' env rk mk)) (hv : ∀ C', PE X b (tE C' env rv mv)) (hE : ∀ g g', Gs (env g) (env g') := by intro _ _; repeat (first | exact Gs.nil | apply Gs.keep | apply Gs.gh)) :
    PE X (.Dict [some a] [b] pos) (tE C env (qTb X.prog X.w E rv) (mk.bind fun k => mv.bind fun v => .ret [(k, v)])) :=
  pe_imp (pe_disp1T hu (pe_ex hk) (pe_ex hv)) fun σ H Q _ ⟨S, g0, P, F, em, q⟩ => fun p hp => by
    have G0 := F.add hp (o := DTO X.prog X.w p []) (by intro _ z; cases z)
    have np : ∀ g, p ∉ owns σ (env g) := fun g z => by
      obtain ⟨_, o, e⟩ := F.sl.own ((hE g g0).owns σ ▸ z)
      rw [hp] at e
      cases e
    refine ⟨_, S, g0, _, G0.here, em, fun k g1 pk x S1 H1 F1 x1 hx => ⟨_, S1, g1, _, F1, pk, fun v g2 pv y S2 H2 F2 x2 hy => ?_⟩⟩
    have hp2 : H2 p = some (DTO X.prog X.w p []) := F2.e2 p _ upd_same (np g0)
    have sp2 : S2 p = none := F2.nw p (F.e1.back hp) (by show upd H p (DTO X.prog X.w p []) p ≠ none; rw [upd_same]; exact fun z => nomatch z)
    have G2 : Fr C S2 H2 σ (env g2) := G0.backG ((hE g2 g0).owns σ) F2
    obtain ⟨b2, eb, hb2⟩ := key_at E (rk.mono x2 hx)
    refine ⟨hp2, E.kv.enc k, b2, eb, E.at (rk.mono F2.e1 hb2), fun ob => ?_⟩
    have G3 := (G2.del sp2 (F.H0none hp) (np g2)).new (p := p) (o := .frz ob (DTO X.prog X.w p [(b2, E.kv.enc k, y)])) (by unfold Rt.del; simp)
    rw [upd_delT] at G3
    have ex := Ex.new (o := .frz ob (DTO X.prog X.w p [(b2, E.kv.enc k, y)])) sp2
    exact fun _ => q [(k, v)] g2 pv _ _ _ G3 ((x1.trans x2).trans ex) ⟨p, ob, p, _, rfl, upd_same, ⟨rfl, rk.mono ex hb2, rv.mono ex hy⟩, True.intro⟩
end
end Rt

set_option maxRecDepth 100000
set_option maxHeartbeats 4000000
/-! RtTb: such dicts walked: by keys, by items; their length. -/
namespace Rt
open PySem L2 Rt PyProof.Rows
section
variable {X : Cx} {pins : List (Addr × Obj)} {σ : L2.St} {H : Hp} {s : Shared} {a p b : Addr} {L : Tl} {ob : Obj}
structure FzT (X : Cx) (s : Shared) (p : Addr) (ob : Obj) (L : Tl) (es : Array DictEntry) (ep : Nat) : Prop where
  sys : (p == sysModules) = false
  raw : s.heap.DictRaw p es ep
  sz : es.size = L.length
  len : L.length ≤ sizeLine
  ent : ∀ (i : Nat) (hi : i < es.size), ∃ l, L[i]? = some l ∧ es[i].key = .ref l.1 ∧ RelV l.2.2 es[i].val
theorem all2_ix {α β : Type} {R : α → β → Prop} : ∀ {xs : List α} {ys : List β} (i : Nat) (h : i < ys.length), All2 R xs ys → ∃ x, xs[i]? = some x ∧ R x ys[i] := fun i h r => r.get i (List.getElem?_eq_getElem h)
theorem frzT (I : Inv X pins σ H s) {es : Array DictEntry} {ep : Nat} (hd : ob.data = .dict es ep) (hp : H p = some (.frz ob (DTO X.prog X.w a L))) : FzT X s p ob L es ep := by
  obtain ⟨g, hd0⟩ := (show _ ∧ ObjOk X.prog X.w H s.heap p (DTO X.prog X.w a L) from I.hok p _ hp)
  obtain ⟨e, xs, r, d1, d2, o, es', ep', h1, h2, h3, h4, h5⟩ := dto_ok hd0
  subst e
  rw [g] at h1
  cases h1
  rw [hd] at h3
  cases h3
  have hsz := size_of_entries h4
  have hl := All2.length r
  refine ⟨d1, ⟨_, g, h2, hd⟩, by rw [hsz, hl], by rw [hl]; exact d2, fun i hi => ?_⟩
  have hx : i < xs.length := hsz ▸ hi
  obtain ⟨l, e1, e2, e3, e4⟩ := all2_ix i hx r
  have ee := entry_at h4 i
  rw [List.getElem?_eq_getElem hx, Array.getElem?_eq_getElem hi] at ee
  have ee := Option.some.inj ee
  refine ⟨l, e1, ?_, ?_⟩
  · rw [ee]
    show Value.ref xs[i].2.1 = _
    rw [e3]
  · rw [ee]
    exact e4
theorem frz_data (I : Inv X pins σ H s) (hp : H p = some (.frz ob (DTO X.prog X.w a L))) : ∃ es ep, ob.data = .dict es ep := by
  obtain ⟨g, hd0⟩ := (show _ ∧ ObjOk X.prog X.w H s.heap p (DTO X.prog X.w a L) from I.hok p _ hp)
  obtain ⟨e, xs, r, d1, d2, o, es', ep', h1, h2, h3, _⟩ := dto_ok hd0
  subst e
  rw [g] at h1
  cases h1
  exact ⟨_, _, h3⟩
end
/-! by keys -/
def ItKT (P : Program) (w : World) (p : Addr) (ob : Obj) (a : Addr) (L : Tl) : It :=
  ⟨fun i H => H p = some (.frz ob (DTO P w a L)) ∧ i < L.length, fun i H x H' => H' = H ∧ ∃ l, L[i]? = some l ∧ x = .ref l.1, fun i H => H p = some (.frz ob (DTO P w a L)) ∧ L.length ≤ i⟩
/-- the items, each a new tuple -/
def ItIT (P : Program) (w : World) (p : Addr) (ob : Obj) (a : Addr) (L : Tl) : It :=
  ⟨fun i H => H p = some (.frz ob (DTO P w a L)) ∧ i < L.length, fun i H x H' => ∃ T l, L[i]? = some l ∧ x = .ref T ∧ H T = none ∧ H' = upd H T (.tup [.ref l.1, l.2.2]), fun i H => H p = some (.frz ob (DTO P w a L)) ∧ L.length ≤ i⟩
section
variable {P : Program} {w : World} {K : PySem.W.Frag} {tg : Expr} {p a : Addr} {ob : Obj} {L : Tl} {es : Array DictEntry} {ep : Nat}
theorem turn_keysN (it : Addr) (hod : ob.data = .dict es ep) : Turn P w K tg (ItKT P w p ob a L) [it] it (fun i h => h.IsKeyIter it p i es.size ep) where
  mem := by simp
  obj := fun i h st b hb => by
    cases (show b = it by simpa using hb)
    obtain ⟨oi, e, c, dd⟩ := st
    exact ⟨oi, e, fun v z => by rw [dd] at z; cases z⟩
  keep := fun i h h' st k => st.at fun oi e => k it (by simp) oi e
  item := by
    intro X hP hw hK hc i pins s σ H E I hf st hg
    subst hP hw hK
    obtain ⟨hd, hi⟩ := hg
    obtain ⟨f0, f1, f2, f3, f4, f5⟩ := hf it (by simp)
    have Z := frzT I hod hd
    have hi2 : i < es.size := by rw [Z.sz]; exact hi
    obtain ⟨l, e1, e2, e3⟩ := Z.ent i hi2
    refine wpAny_pyNext_keys_item_raw st Z.raw hi2 fun h' st' sb => ?_
    have I1 : Inv X pins σ H { s with heap := h' } := I.turned (t' := s.toks) (fun b o hb e => (sb.2 b hb).trans e) f0 f1 f3 f4 f5
    obtain ⟨oi, e, c, dd⟩ := id st'
    exact ⟨_, rfl, go_of (s := { s with heap := h' }) e c dd (by decide) ⟨.ref l.1, H, I1, e2, ⟨rfl, l, e1, rfl⟩, st', fun b hb => (hf b hb).1⟩⟩
  done := by
    intro X hP hw hK hc i pins s σ H E I hf st hg
    subst hP hw hK
    obtain ⟨hd, hi⟩ := hg
    obtain ⟨f0, f1, f2, f3, f4, f5⟩ := hf it (by simp)
    have Z := frzT I hod hd
    exact wpAny_pyNext_keys_end_raw (I.ok.hd hc) st Z.raw (by rw [Z.sz]; exact hi) fun h' eb => ⟨rfl, I.turned (t' := s.toks) (fun b o hb e => eb b o hb e) f0 f1 f3 f4 f5⟩
  self := fun A i s Q E st h => wpAny_pyIter_keyiter st h
theorem turn_itemsN {elts : List Expr} {kk : Nat} {tpos : Pos} (it : Addr) (hod : ob.data = .dict es ep) : Turn P w K (.Tuple elts kk tpos) (ItIT P w p ob a L) [it] it (fun i h => ∃ ok ov, IsItemIter h it p i es.size ep ok ov) where
  mem := by simp
  obj := fun i h st b hb => by
    cases (show b = it by simpa using hb)
    obtain ⟨ok, ov, e⟩ := st
    exact ⟨_, e, fun v z => nomatch z⟩
  keep := fun i h h' st k => let ⟨ok, ov, e⟩ := st; ⟨ok, ov, k it (by simp) _ e⟩
  item := by
    intro X hP hw hK hc i pins s σ H E I hf st hg
    subst hP hw hK
    obtain ⟨hd, hi⟩ := hg
    have Z := frzT I hod hd
    have hi2 : i < es.size := by rw [Z.sz]; exact hi
    obtain ⟨l, e1, e2, e3⟩ := Z.ent i hi2
    obtain ⟨ok, ov, he⟩ := st
    have hlt : it < s.heap.objs.size := Heap.lt_size he
    refine wpAny_pyNext_items_item_raw he Z.raw hi2 fun h' ho hT hz hk => ?_
    refine ⟨_, rfl, wpAny_letOwnedTupleGo_items (s := { s with heap := h' }) ho fun h'' he' sb => ?_⟩
    have hT2 := (sb.2 _ (Nat.ne_of_gt hlt)).trans hT
    have new : ObjOk X.prog X.w (upd H s.heap.objs.size (.tup [.ref l.1, l.2.2])) h'' s.heap.objs.size (.tup [.ref l.1, l.2.2]) :=
      ⟨by show 2 ≤ sizeLine; decide, [es[i].key, es[i].val], .cons e2 (.cons e3 .nil), ⟨_, hT2, rfl, _, rfl⟩⟩
    have I1 : Inv X pins σ (upd H s.heap.objs.size (.tup [.ref l.1, l.2.2])) { s with heap := h'' } :=
      I.turnedNew (t' := s.toks) (ch := [it]) (fun b o hb e => (sb.2 b (by simpa using hb)).trans (hk b o (by simpa using hb) e)) hf (Nat.le_refl _) new
    refine ⟨.ref s.heap.objs.size, _, I1, rfl, ⟨_, l, e1, rfl, I.hok.fresh (Nat.le_refl _), rfl⟩, ⟨_, _, he'⟩, fun b hb => ?_⟩
    have e : b = it := by simpa using hb
    rw [e, upd_ne (Nat.ne_of_lt hlt)]
    exact (hf it (by simp)).1
  done := by
    intro X hP hw hK hc i pins s σ H E I hf st hg
    subst hP hw hK
    obtain ⟨hd, hi⟩ := hg
    obtain ⟨f0, f1, f2, f3, f4, f5⟩ := hf it (by simp)
    have Z := frzT I hod hd
    obtain ⟨ok, ov, he⟩ := st
    exact wpAny_pyNext_items_end_raw (I.ok.hd hc) he Z.raw (by rw [Z.sz]; exact hi) fun h' eb => ⟨rfl, I.turned (t' := s.toks) (fun b o hb e => eb b o hb e) f0 f1 f3 f4 f5⟩
  self := fun A i s Q E st h => let ⟨_, _, e⟩ := st; PySem.W.kcp_self e h
end
def iKeysT (P : Program) (w : World) (td : TE) : TI := fun σ H R => td σ H fun x H1 => ∃ p ob a L, x = .ref p ∧ H1 p = some (.frz ob (DTO P w a L)) ∧ R (ItKT P w p ob a L) H1
def iItemsT (P : Program) (w : World) (td : TE) : TI := fun σ H R => td σ H fun x H1 => ∃ p ob a L, x = .ref p ∧ H1 p = some (.frz ob (DTO P w a L)) ∧ R (ItIT P w p ob a L) H1
section
variable {X : Cx} {tg e : Expr} {td : TE} {apos cpos : Pos}
theorem pi_keysT (he : PE X e td) : PI X tg e (iKeysT X.prog X.w td) := by
  refine ⟨fun pins s σ H R I h => ?_⟩
  refine thn (he.run pins s σ H _ I h) fun u s1 ⟨x, H1, I1, rx, p, ob, a, L, ex, hd, q⟩ => ?_
  subst ex
  obtain rfl : u = Value.ref p := rx
  obtain ⟨es, ep, hod⟩ := frz_data I1 hd
  have Z := frzT I1 hod hd
  exact wpAny_pyIter_dict_raw Z.sys Z.raw (pi_one (tk := s1.toks) I1 _ (turn_keysN _ hod) ⟨_, Heap.get?_push_size _ rfl, rfl, rfl⟩ q)
theorem pi_itemsT {elts : List Expr} {kk : Nat} {tpos : Pos} (he : PE X e td) (hbase : attributeBase e "items" X.env (eval e X.env) = eval e X.env := by rfl) (hline : (apos.endLine == cpos.line) = true := by rfl) :
    PI X (.Tuple elts kk tpos) (.Call (.Attribute e "items" apos) [] [] cpos) (iItemsT X.prog X.w td) := by
  refine ⟨fun pins s σ H R I h => ?_⟩
  refine wpAny_Call_method (T := "dict") (id := "dict.items") hbase rfl hline F.plainAttrs_dict F.slot_dict_items F.type_dict_items (thn (he.run pins s σ H _ I h) fun u s1 ⟨x, H1, I1, rx, p, ob, a, L, ex, hd, q⟩ => ?_)
  subst ex
  obtain rfl : u = Value.ref p := rx
  obtain ⟨es, ep, hod⟩ := frz_data I1 hd
  have Z := frzT I1 hod hd
  have ho : s1.heap.get? p = some ob := (show _ ∧ _ from I1.hok p _ hd).1
  obtain ⟨o', g', hx, hdat⟩ := id Z.raw
  rw [ho] at g'
  cases g'
  refine ⟨Z.raw.typeIs, fun a e => by cases e; exact ⟨_, ho, hx.2.1⟩, ?_⟩
  have I2 : Inv X pins σ H1 { s1 with heap := s1.heap.push { cls := .type "dict_items", data := .fields #[.ref p] } } := I1.kept (t' := s1.toks) fun b ob q => Heap.get?_push_of_some _ q
  have fin : wpAny (model X.prog X.w) X.A (pyIter (.ref s1.heap.objs.size)) (PIE X pins σ (.Tuple elts kk tpos) R) X.xe { s1 with heap := s1.heap.push { cls := .type "dict_items", data := .fields #[.ref p] } } :=
    wpAny_pyIter_items_raw (d := p) ⟨_, Heap.get?_push_size _ rfl, rfl, rfl⟩ (Z.raw.push _) (pi_one (tk := s1.toks) I2 _ (turn_itemsN _ hod) ⟨.none, .none, Heap.get?_push_size _ rfl⟩ q)
  show wpAny _ _ (callWith cpos (.builtin "dict.items") [.ref p] [] []) _ X.xe s1
  exact method_meetsIn F.slot_dict_items F.entry_dict_items rfl (PySem.evalArgs_none ⟨rfl, Z.raw.typeIs, F.args_dict_items_1 _, _, meets_dict_items_raw p Z.sys, ⟨es, ep, Z.raw⟩, fin⟩)
end
def TLens (P : Program) (w : World) (H : Hp) : Prop := ∀ p ob a L, H p = some (.frz ob (DTO P w a L)) → L.length ≤ sizeLine
theorem pe_tlen {X : Cx} {e : Expr} {te : TE} (h : PE X e te) : PE X e (fun σ H Q => te σ H (fun v H' => TLens X.prog X.w H' → Q v H')) := ⟨fun pins s σ H Q I q =>
  thn (h.run pins s σ H _ I q) fun _ _ ⟨v, H', I', r, z⟩ => ⟨v, H', I', r, z fun p ob a L hp => by
    obtain ⟨es, ep, hod⟩ := frz_data I' hp
    exact (frzT I' hod hp).len⟩⟩
section
variable {X : Cx} {C : Cs} {env kp : Gh → List Sl} {e a b c : Expr} {A rest : List Stmt} {pos p px apos cpos : Pos} {κ α β γ δ ρ : Type} [DecidableEq κ] {r : Rp ρ} {rk : Rp κ} {E : Kx rk} {rv : Rp δ} {mk : W κ} {mv : W δ} {md : W (List (κ × δ))} {pn : β → Gh → List Sl} {pl : γ → Gh → List Sl} {i j : Nat}
theorem wk_keysN {P : Program} {w : World} {d a : Addr} {od : Obj} {L : Tl} {xs : List (κ × δ)} {S0 : Hp} (hl : xs.length ≤ sizeLine) (hp : S0 d = some (.frz od (DTO P w a L))) (h : All2 (EnT E rv S0) L xs) : Wk (ItKT P w d od a L) rk (xs.map (·.1)) S0 := by
  have l := All2.length h
  refine ⟨by rw [List.length_map]; exact hl, fun {C S H σ env} i hi F e => ⟨F.e1 _ _ (e _ _ hp), by rw [List.length_map] at hi; omega⟩, fun {C S H σ env} i x H' y F e hy ha => ?_, fun {C S H σ env} i hi F e => ⟨F.e1 _ _ (e _ _ hp), by rw [List.length_map] at hi; omega⟩⟩
  obtain ⟨eH, q, e1, e2⟩ := hy
  subst eH e2
  rw [List.getElem?_map, Option.map_eq_some_iff] at ha
  obtain ⟨ab, z, rfl⟩ := ha
  obtain ⟨q', e4, e5⟩ := All2.get i h z
  rw [e1] at e4
  cases e4
  exact ⟨S, F, Ex.refl S, Ex.refl _, fun _ z _ => z, rk.mono e e5.2.1⟩
theorem xi_keysT {tg iter : Expr} (h : PE X iter (tE C env (qTb X.prog X.w E rv) md)) : PI X tg iter (tS C env rk (md.bind fun d => .ret (d.map (·.1)))) :=
  pi_imp (pi_keysT (pe_tlen h)) fun σ H R _ ⟨S, g0, P, F, em, q⟩ => ⟨S, g0, _, F, em, fun d g1 pd x S1 H1 F1 x1 ⟨p1, ob, a1, L, e1, hp1, hL⟩ dl => by
    subst e1
    have hp := F1.e1 _ _ hp1
    exact ⟨p1, ob, a1, L, rfl, hp, q _ _ pd _ S1 H1 F1 x1 (wk_keysN (by rw [← All2.length hL]; exact dl _ _ _ _ hp) hp1 hL)⟩⟩
theorem xi_itemsT {elts : List Expr} {kk : Nat} {tpos : Pos} (h : PE X a (tE C env (qTb X.prog X.w E rv) md)) (hbase : attributeBase a "items" X.env (eval a X.env) = eval a X.env := by rfl) (hline : (apos.endLine == cpos.line) = true := by rfl) :
    PI X (.Tuple elts kk tpos) (.Call (.Attribute a "items" apos) [] [] cpos) (tS C env (qW rk rv) md) :=
  pi_imp (pi_itemsT (pe_tlen h) hbase hline) fun σ H R _ ⟨S, g0, P, F, em, q⟩ => ⟨S, g0, _, F, em, fun d g1 pd x S1 H1 F1 x1 ⟨p1, ob, a1, L, e1, hp1, hL⟩ dl => by
    subst e1
    have hp := F1.e1 _ _ hp1
    have ll := All2.length hL
    refine ⟨p1, ob, a1, L, rfl, hp, q _ _ pd _ S1 H1 F1 x1 (wk_new (by rw [← ll]; exact dl _ _ _ _ hp) (fun {C S H σ env} i hi F e => ⟨F.e1 _ _ (e _ _ hp1), by omega⟩) (fun {C S H σ env} i hi F e => ⟨F.e1 _ _ (e _ _ hp1), by omega⟩) fun {C S H σ env} i x H' y F e hy ha => ?_)⟩
    obtain ⟨T, l, e1, e2, hT, eH⟩ := hy
    obtain ⟨l', e4, e5⟩ := All2.get i hL ha
    rw [e1] at e4
    cases e4
    have ex := e.trans (Ex.new (o := .tup [.ref l.1, l.2.2]) (F.e1.back hT))
    exact ⟨T, _, e2, hT, eH, T, .ref l.1, l.2.2, e2, .inl upd_same, rk.mono ex e5.2.1, rv.mono ex e5.2.2⟩⟩
end
end Rt

set_option maxRecDepth 100000
set_option maxHeartbeats 4000000
/-! RtTc: list(d.items()) of such a dict; dict(a list of pairs). -/
namespace RtTc
open PySem PySem.Spec PySem.Calls PyProof.Rows L2 PySem.W Rt
abbrev prO (e : DictEntry) : Obj := { cls := .type "tuple", data := .seq #[e.key, e.val] }
abbrev lstO (acc : Array Value) (c : Nat) : Obj := { cls := .type "list", dict := none, data := .seq acc c, slots := #[] }
abbrev itO (d n ep : Nat) : Obj := { cls := .type "dict_itemiterator", data := .fields #[.none, .bool false, .ref d, .int 0 0, .int n 0, .int ep 0, .none, .none] }
section
variable {prog : Program} {w : World} {A : Around} {E : Value → Shared → Prop} {s : Shared} {it d S r : Addr} {es : Array DictEntry} {ep : Nat} {base : Addr}
/-- nothing is out, or what is out stands -/
def St (h : Heap) (it d S i n ep : Nat) : Prop := (∃ ok ov, IsItemIter h it d i n ep ok ov) ∨ ∃ ok ov a f oa, KdxIt h it d i n ep ok ov a f ∧ h.get? a = some oa ∧ a ≠ it ∧ a ≠ S
theorem St.keep {h h' : Heap} {i n : Nat} (x : St h it d S i n ep) (hk : ∀ b o, b ≠ S → h.get? b = some o → h'.get? b = some o) (hI : it ≠ S) : St h' it d S i n ep := by
  rcases x with ⟨ok, ov, z⟩ | ⟨ok, ov, a, f, oa, z, ha, z1, z2⟩
  · exact .inl ⟨ok, ov, hk _ _ hI z⟩
  · exact .inr ⟨ok, ov, a, f, oa, hk _ _ hI z, hk _ _ z2 ha, z1, z2⟩
structure Got (h : Heap) (base S it : Addr) (es : Array DictEntry) (acc : Array Value) (as : List Addr) : Prop where
  acc : acc.toList = as.map Value.ref
  up : as.Pairwise (· < ·)
  off : ∀ a ∈ as, base ≤ a ∧ a ≠ S ∧ a ≠ it
  ent : ∀ (j : Nat) (a : Addr), as[j]? = some a → ∃ e, es[j]? = some e ∧ h.get? a = some (prO e)
theorem Got.keep {h h' : Heap} {acc : Array Value} {as : List Addr} (g : Got h base S it es acc as) (k : ∀ b o, b ≠ S → b ≠ it → h.get? b = some o → h'.get? b = some o) : Got h' base S it es acc as :=
  ⟨g.acc, g.up, g.off, fun j a ha => by
    obtain ⟨e, e1, e2⟩ := g.ent j a ha
    have m := g.off a (List.mem_of_getElem? ha)
    exact ⟨e, e1, k a _ m.2.1 m.2.2 e2⟩⟩
theorem Got.size {h : Heap} {acc : Array Value} {as : List Addr} (g : Got h base S it es acc as) : acc.size = as.length := by rw [← Array.length_toList, g.acc, List.length_map]
theorem Got.lt {h : Heap} {acc : Array Value} {as : List Addr} (g : Got h base S it es acc as) {a : Addr} (ha : a ∈ as) : a < h.objs.size := by
  obtain ⟨j, hj⟩ := List.mem_iff_getElem?.mp ha
  obtain ⟨_, _, e⟩ := g.ent j a hj
  exact Heap.lt_size e
theorem Got.push {h : Heap} {acc : Array Value} {as : List Addr} {T : Addr} {e : DictEntry} (g : Got h base S it es acc as) (hup : ∀ a ∈ as, a < T) (hT : h.get? T = some (prO e)) (he : es[as.length]? = some e) (hb : base ≤ T) (n1 : T ≠ S) (n2 : T ≠ it) : Got h base S it es (acc.push (.ref T)) (as ++ [T]) := by
  refine ⟨by rw [Array.toList_push, g.acc, List.map_append]; rfl, List.pairwise_append.mpr ⟨g.up, List.pairwise_singleton _ _, fun a ha b hb => by rw [List.mem_singleton.mp hb]; exact hup a ha⟩, fun a ha => ?_, fun j a hj => ?_⟩
  · rcases List.mem_append.mp ha with ha | ha
    · exact g.off a ha
    · rw [List.mem_singleton.mp ha]; exact ⟨hb, n1, n2⟩
  · by_cases z : j < as.length
    · rw [List.getElem?_append_left z] at hj
      exact g.ent j a hj
    · rw [List.getElem?_append_right (by omega)] at hj
      have : j - as.length = 0 := by
        rcases Nat.eq_zero_or_pos (j - as.length) with h | h
        · exact h
        · rw [List.getElem?_eq_none (by simp; omega)] at hj
          cases hj
      rw [this] at hj
      have := Option.some.inj hj
      subst this
      exact ⟨e, by rw [show j = as.length by omega]; exact he, hT⟩
theorem fill {R : Result → Shared → Prop} {res : Value} (hh : A.handled = none) (hSi : S ≠ it) (hSd : S ≠ d) (hid : it ≠ d) (hz : es.size ≤ sizeLine) :
    ∀ (k i : Nat) (s : Shared) (acc : Array Value) (c : Nat) (as : List Addr), es.size - i = k → i ≤ es.size → St s.heap it d S i es.size ep → s.heap.DictRaw d es ep → s.heap.get? S = some (lstO acc c) → Got s.heap base S it es acc as → as.length = i → base ≤ s.heap.objs.size →
      (∀ h' tk acc' c' as', (∀ b o, b ≠ S → b ≠ it → s.heap.get? b = some o → h'.get? b = some o) → h'.get? S = some (lstO acc' c') → Got h' base S it es acc' as' → as'.length = es.size → R (.ok (.ret res)) { s with heap := h', toks := tk }) →
      codeAny (model prog w) A (.builtin "list.extend.loop" ⟨[.ref S, .ref it, res], []⟩) R s := by
  intro k
  induction k with
  | zero =>
    intro i s acc c as hk hi hs hm hS hg hl hb hR
    have hin : i = es.size := by omega
    subst hin
    refine codeAny_builtin PySem.F.entry_extend_loop ?_
    rw [Around.under_plainId PySem.F.plain_extend_loop _]
    show wpAny _ A.in1 (pyNext (.ref it) >>= _) _ _ s
    have fin : ∀ h', Heap.ExtBut it s.heap h' → R (.ok (.ret res)) { s with heap := h' } := fun h' q => hR h' s.toks acc c as (fun b o _ n y => q b o n y) (q S _ hSi hS) (hg.keep fun b o _ n y => q b o n y) hl
    rcases hs with ⟨ok, ov, z⟩ | ⟨ok, ov, a, f, oa, z, _⟩
    · exact wpAny_bind (wpAny_pyNext_items_end_raw hh z hm (Nat.le_refl _) fun h' q => wpAny_pure (fin h' q))
    · exact wpAny_bind (wpAny_pyNext_items_end_out_raw hh z hm (Nat.le_refl _) fun h' q => wpAny_pure (fin h' q))
  | succ k ih =>
    intro i s acc c as hk hi hs hm hS hg hl hb hR
    have hlt : i < es.size := by omega
    refine codeAny_builtin PySem.F.entry_extend_loop ?_
    rw [Around.under_plainId PySem.F.plain_extend_loop _]
    show wpAny _ A.in1 (pyNext (.ref it) >>= _) _ _ s
    have hSl : S < s.heap.objs.size := Heap.lt_size hS
    have go : ∀ h', St h' it d S (i + 1) es.size ep → h'.get? s.heap.objs.size = some (prO es[i]) → s.heap.objs.size ≠ it → (∀ b o, b ≠ it → s.heap.get? b = some o → h'.get? b = some o) →
        wpAny (model prog w) A.in1 (updateSeq S (·.push (.ref s.heap.objs.size)) >>= fun _ => again (.builtin "list.extend.loop" ⟨[.ref S, .ref it, res], []⟩))
          (fun fin s' => match fin with | .done f => R (.ok f) s' | .again c' => c'.quiet = true ∧ codeAny (model prog w) A c' R s') (fun e s' => R (.error e) s') { s with heap := h' } := by
      intro h' hs' hT hne hk'
      have hS' : h'.get? S = some (lstO acc c) := hk' S _ hSi hS
      have ko : ∀ b o, b ≠ S → h'.get? b = some o → (h'.update S (Obj.mapSeq (·.push (.ref s.heap.objs.size)))).get? b = some o := fun b o n1 y => (Heap.get?_update_other _ _ (Ne.symm n1)).trans y
      have hz2 : s.heap.objs.size ≠ S := Nat.ne_of_gt hSl
      have hgs := hg.size
      have g1 : Got h' base S it es acc as := hg.keep fun b o _ n y => hk' b o n y
      have g2 := g1.push (T := s.heap.objs.size) (e := es[i]) (fun a ha => hg.lt ha) hT (by rw [hl]; exact Array.getElem?_eq_getElem hlt) hb hz2 hne
      refine wpAny_bind (wpAny_updateSeq hS' rfl (wpAny_pure ⟨plainId_quiet PySem.F.plain_extend_loop _, ih (i + 1) _ (acc.push (.ref s.heap.objs.size)) _ (as ++ [s.heap.objs.size]) (by omega) hlt (hs'.keep ko (Ne.symm hSi)) (hm.at fun o y => ko d o (Ne.symm hSd) (hk' d o (Ne.symm hid) y))
        (Heap.get?_update_self _ hS' rfl) (g2.keep fun b o n1 _ y => ko b o n1 y) (by simp [hl]) ?_ fun h2 tk2 acc2 c2 as2 q1 q2 q3 q4 => hR h2 tk2 acc2 c2 as2 (fun b o n1 n2 y => q1 b o n1 n2 (ko b o n1 (hk' b o n2 y))) q2 q3 q4⟩) (by omega) (by show (acc.push _).size ≤ sizeLine + 1; rw [Array.size_push]; omega))
      have h1 := Heap.lt_size (ko _ _ hz2 hT)
      exact Nat.le_of_lt (Nat.lt_of_le_of_lt hb h1)
    rcases hs with ⟨ok, ov, z⟩ | ⟨ok, ov, a, f, oa, z, ha, z1, z2⟩
    · have hil : it < s.heap.objs.size := Heap.lt_size z
      refine wpAny_bind (wpAny_pyNext_items_item_raw z hm hlt fun h' ho hT _ hk' => ?_)
      exact go h' (.inr ⟨_, _, s.heap.objs.size, false, _, ho, hT, Nat.ne_of_gt hil, Nat.ne_of_gt hSl⟩) hT (Nat.ne_of_gt hil) hk'
    · have hil : it < s.heap.objs.size := Heap.lt_size z
      refine wpAny_bind (wpAny_pyNext_items_item_out_raw z ha z1 hm hlt fun h' ho hT _ hk' => ?_)
      exact go h' (.inr ⟨ok, ov, a, true, oa, ho, hk' a _ z1 ha, z1, z2⟩) hT (Nat.ne_of_gt hil) hk'
theorem extend_it {R : Result → Shared → Prop} {res : Value} {c : Nat} (hh : A.handled = none) (hv : s.heap.IsItemsView r d) (hm : s.heap.DictRaw d es ep) (hSr : S ≠ r) (hSd : S ≠ d) (hz : es.size ≤ sizeLine) (hS : s.heap.get? S = some { cls := .type "list", data := .seq #[] c }) (hb : base ≤ s.heap.objs.size)
    (hR : ∀ h' tk acc' c' as', (∀ b o, b ≠ S → s.heap.get? b = some o → h'.get? b = some o) → h'.get? S = some (lstO acc' c') → Got h' base S s.heap.objs.size es acc' as' → as'.length = es.size → R (.ok (.ret res)) { s with heap := h', toks := tk }) :
    wpAny (model prog w) A.in1 (Builtin.List.listExtendWith (.ref S) (.ref r) res)
      (fun fin s' => match fin with | .done f => R (.ok f) s' | .again c' => c'.quiet = true ∧ codeAny (model prog w) A c' R s') (fun e s' => R (.error e) s') s := by
  have hSI : S < s.heap.objs.size := Heap.lt_size hS
  have hdI : d < s.heap.objs.size := hm.lt_size
  have key : ∀ (h : Heap) (c₁ tk : Nat), (∀ b o, b ≠ S → (s.heap.push (itO d es.size ep)).get? b = some o → h.get? b = some o) → h.get? S = some { cls := .type "list", data := .seq #[] c₁ } → base ≤ h.objs.size →
      codeAny (model prog w) A (.builtin "list.extend.loop" ⟨[.ref S, .ref s.heap.objs.size, res], []⟩) R { s with heap := h, toks := tk } := by
    intro h c₁ tk hk hS₁ hb1
    have hI := hk s.heap.objs.size _ (Nat.ne_of_gt hSI) (Heap.get?_push_size _ rfl)
    exact fill (base := base) hh (Nat.ne_of_lt hSI) hSd (Nat.ne_of_gt hdI) hz _ 0 { s with heap := h, toks := tk } #[] c₁ [] rfl (Nat.zero_le _) (.inl ⟨.none, .none, hI⟩) (hm.at fun o e => hk d o (Ne.symm hSd) (Heap.get?_push_of_some _ e)) hS₁ ⟨rfl, .nil, (fun _ h => nomatch h), fun j a hj => by simp at hj⟩ rfl hb1
      fun h' tk' acc' c' as' q1 q2 q3 q4 => hR h' tk' acc' c' as' (fun b o hb e => q1 b o hb (Nat.ne_of_lt (Heap.lt_size e)) (hk b o hb (Heap.get?_push_of_some _ e))) q2 q3 q4
  unfold Builtin.List.listExtendWith
  refine wpAny_bind (wpAny_typeOf (T := "dict_items") hv.typeIs ?_)
  have h1 : Builtin.List.listSameRef (.ref S) (.ref r) = false := by simp [Builtin.List.listSameRef, hSr]
  have h2 : (Value.type "dict_items" == Value.type "list") = false := by decide
  have h3 : (Value.type "dict_items" == Value.type "tuple") = false := by decide
  simp only [h1, h2, h3, Bool.or_false, Bool.false_eq_true, if_false]
  refine wpAny_bind (wpAny_pyIter_items_raw hv hm ?_)
  have g1 := Heap.get?_push_of_some (itO d es.size ep) hS
  refine wpAny_bind (wpAny_holding (kdx_hint (let ⟨o, ho, hc, _⟩ := hv; ⟨o, Heap.get?_push_of_some _ ho, hc⟩) ?_))
  refine wpAny_ite_split (fun _ => ?_) (fun _ => wpAny_pure ⟨plainId_quiet PySem.F.plain_extend_loop _, key _ c _ (fun b o _ e => e) g1 (by rw [Heap.size_push]; exact Nat.le_succ_of_le hb)⟩)
  refine wpAny_bind (wpAny_rule (wpAny_bind ?_))
  show wpAny _ _ (updateSeq S (·.push .none) >>= fun _ => updateSeq S (·.pop)) _ _ _
  refine wpAny_bind (wpAny_updateSeq g1 rfl ?_)
  have g2 := Heap.get?_update_self (Obj.mapSeq (·.push Value.none)) g1 rfl
  refine wpAny_updateSeq (hz := by seq_fits) g2 rfl ?_
  have g3 := Heap.get?_update_self (Obj.mapSeq (·.pop)) g2 rfl
  refine wpAny_pure ⟨plainId_quiet PySem.F.plain_extend_loop _, key _ _ _ (fun b o n1 e => (Heap.get?_update_other _ _ (Ne.symm n1)).trans ((Heap.get?_update_other _ _ (Ne.symm n1)).trans e)) g3 ?_⟩
  rw [Heap.size_update, Heap.size_update, Heap.size_push]
  exact Nat.le_succ_of_le hb
theorem init_it {R : Result → Shared → Prop} (hh : A.handled = none) (hv : s.heap.IsItemsView r d) (hm : s.heap.DictRaw d es ep) (hSr : S ≠ r) (hSd : S ≠ d) (hz : es.size ≤ sizeLine) (hS : s.heap.get? S = some { cls := .type "list", data := .seq #[] }) (hb : base ≤ s.heap.objs.size)
    (hR : ∀ h' tk acc' c' as' I, (∀ b o, b ≠ S → s.heap.get? b = some o → h'.get? b = some o) → h'.get? S = some (lstO acc' c') → Got h' base S I es acc' as' → as'.length = es.size → R (.ok (.ret .none)) { s with heap := h', toks := tk }) :
    wpAny (model prog w) A.in1 (Builtin.«list.__init__» ⟨[.ref S, .ref r], []⟩)
      (fun fin s' => match fin with | .done f => R (.ok f) s' | .again c' => c'.quiet = true ∧ codeAny (model prog w) A c' R s') (fun e s' => R (.error e) s') s := by
  show wpAny _ A.in1 (do let old ← Builtin.List.listItems (.ref S); Builtin.List.listUpdate (.ref S) (fun _ => #[]); letGo old.toList.reverse; Builtin.List.listExtendWith (.ref S) (.ref r) .none) _ _ s
  refine wpAny_bind ?_
  unfold Builtin.List.listItems
  refine wpAny_bind (wpAny_seqItems hS rfl (wpAny_pure ?_))
  show wpAny _ A.in1 (updateSeq S (fun _ => #[]) >>= fun _ => letGo (#[] : Array Value).toList.reverse >>= fun _ => Builtin.List.listExtendWith (.ref S) (.ref r) .none) _ _ s
  refine wpAny_bind (wpAny_updateSeq hS rfl (wpAny_bind (wpAny_letGo ?_)))
  have ko : ∀ b o, b ≠ S → s.heap.get? b = some o → (s.heap.update S (Obj.mapSeq (fun _ => (#[] : Array Value)))).get? b = some o := fun b o n1 y => (Heap.get?_update_other _ _ (Ne.symm n1)).trans y
  refine extend_it (base := base) hh (let ⟨o, ho, x⟩ := hv; ⟨o, ko r _ (Ne.symm hSr) ho, x⟩) (hm.at fun o y => ko d o (Ne.symm hSd) y) hSr hSd hz (Heap.get?_update_self (Obj.mapSeq (fun _ => (#[] : Array Value))) hS rfl) ?_ fun h' tk acc' c' as' q1 q2 q3 q4 => hR h' tk acc' c' as' _ (fun b o n1 y => q1 b o n1 (ko b o n1 y)) q2 q3 q4
  show base ≤ (s.heap.update S (Obj.mapSeq (fun _ => (#[] : Array Value)))).objs.size
  rw [Heap.size_update]
  exact hb
theorem call_it {Q : Value → Shared → Prop} (hh : A.handled = none) (hv : s.heap.IsItemsView r d) (hm : s.heap.DictRaw d es ep) (hz : es.size ≤ sizeLine) (hb : base ≤ s.heap.objs.size)
    (hQ : ∀ h' tk acc' c' as' I, (∀ b o, s.heap.get? b = some o → h'.get? b = some o) → h'.get? s.heap.objs.size = some (lstO acc' c') → Got h' base s.heap.objs.size I es acc' as' → as'.length = es.size → Q (.ref s.heap.objs.size) { s with heap := h', toks := tk }) :
    wpAny (model prog w) A (call (.type "list") [.ref r]) Q E s := by
  have lt : ∀ {b o}, s.heap.get? b = some o → b ≠ s.heap.objs.size := fun q => Nat.ne_of_lt (Heap.lt_size q)
  have e2 : s.heap.objs.size ≠ r := let ⟨_, q, _⟩ := hv; Ne.symm (lt q)
  have e3 : s.heap.objs.size ≠ d := let ⟨_, q, _⟩ := hm; Ne.symm (lt q)
  refine callType_codes (Q₁ := fun obj s₁ => obj = .ref s.heap.objs.size ∧ s₁ = { s with heap := s.heap.push { cls := .type "list", data := .seq #[] } }) PySem.F.called_list (PySem.F.typeCall_list_1 _) PySem.F.entry_list_init (code_list_new _ ⟨rfl, rfl⟩) fun obj s₁ h₁ => ?_
  obtain ⟨rfl, rfl⟩ := h₁
  have hS : (s.heap.push { cls := .type "list", data := .seq #[] }).get? s.heap.objs.size = some { cls := .type "list", data := .seq #[] } := Heap.get?_push_size _ rfl
  have ko : ∀ b o, s.heap.get? b = some o → (s.heap.push { cls := .type "list", data := .seq #[] }).get? b = some o := fun b o y => Heap.get?_push_of_some _ y
  refine ⟨⟨_, hS, rfl⟩, PySem.F.args_list_init_2 _ _, init_it (A := A.in1) (base := base) hh (let ⟨o, ho, x⟩ := hv; ⟨o, ko r _ ho, x⟩) (hm.at fun o y => ko d o y) e2 e3 hz hS ?_ fun h' tk acc' c' as' I q1 q2 q3 q4 => ⟨rfl, hQ h' tk acc' c' as' I (fun b o y => q1 b o (lt y) (ko b o y)) q2 q3 q4⟩⟩
  show base ≤ (s.heap.push _).objs.size
  rw [Heap.size_push]
  exact Nat.le_succ_of_le hb
end
/-- pairs (k, v), each a new known tuple -/
def LaidP : Hp → List Addr → Tl → Hp → Prop
  | H, [], [], H' => H' = H
  | H, T :: Ts, l :: L, H' => H T = none ∧ ∃ o : Obj, o.dict = none ∧ LaidP (upd H T (.frz o (.tup [.ref l.1, l.2.2]))) Ts L H'
  | _, _, _, _ => False
theorem layP {P : Program} {w : World} {h' : Heap} {base S : Addr} : ∀ (as : List Addr) (L : Tl) (H : Hp), as.length = L.length → as.Pairwise (· < ·) →
    (∀ (j : Nat) (a : Addr), as[j]? = some a → ∃ (e : DictEntry) (l : Addr × NestedKey × V), L[j]? = some l ∧ e.key = .ref l.1 ∧ RelV l.2.2 e.val ∧ h'.get? a = some (prO e) ∧ H a = none ∧ base ≤ a ∧ a ≠ S) →
    ∃ H2 : Hp, LaidP H as L H2 ∧ (∀ b o, H b = some o → H2 b = some o) ∧ ∀ b o, H2 b = some o → H b = none → base ≤ b ∧ b ≠ S ∧ ∀ H3, ObjOk P w H3 h' b o
  | [], [], H, _, _, _ => ⟨H, rfl, fun _ _ q => q, fun b o q n => by rw [n] at q; cases q⟩
  | [], _ :: _, _, h, _, _ => by cases h
  | _ :: _, [], _, h, _, _ => by cases h
  | T :: as, l :: L, H, hl, hp, hg => by
    obtain ⟨e, l', a1, a2, a3, a4, a5, a6, a7⟩ := hg 0 T rfl
    have := Option.some.inj a1
    subst this
    obtain ⟨p1, p2⟩ := List.pairwise_cons.mp hp
    obtain ⟨H2, b1, b2, b3⟩ := layP (P := P) (w := w) (h' := h') (base := base) (S := S) as L (upd H T (.frz (prO e) (.tup [.ref l.1, l.2.2]))) (Nat.succ.inj hl) p2 fun j a hj => by
      obtain ⟨e2, l2, c1, c2, c3, c4, c5, c6⟩ := hg (j + 1) a (by simpa using hj)
      refine ⟨e2, l2, by simpa using c1, c2, c3, c4, ?_, c6⟩
      rw [upd_ne (Nat.ne_of_gt (p1 a (List.mem_of_getElem? hj)))]
      exact c5
    have nT : ∀ {b o}, H b = some o → b ≠ T := fun q => ne_of_none q a5
    refine ⟨H2, ⟨a5, _, rfl, b1⟩, fun b o q => b2 b o (by rw [upd_ne (nT q)]; exact q), fun b o q n => ?_⟩
    by_cases z : b = T
    · subst z
      have ee := b2 b _ upd_same
      rw [q] at ee
      cases ee
      exact ⟨a6, a7, fun H3 => ⟨a4, by show 2 ≤ sizeLine; decide, [e.key, e.val], .cons a2 (.cons a3 .nil), ⟨_, a4, rfl, _, rfl⟩⟩⟩
    · exact b3 b o q (by rw [upd_ne z]; exact n)
def tLstIt (P : Program) (w : World) (te : TE) : TE := fun σ H Q => te σ H fun x H1 => ∃ p ob a L, x = .ref p ∧ H1 p = some (.frz ob (DTO P w a L)) ∧ ∀ Ts H2, LaidP H1 Ts L H2 → ∀ q, H2 q = none → Q (.ref q) (upd H2 q (.lst (Ts.map V.ref)))
theorem vals_refs : ∀ as : List Addr, Vals (as.map V.ref) (as.map Value.ref)
  | [] => .nil
  | _ :: as => .cons rfl (vals_refs as)
theorem pe_listItT {X : Cx} {e : Expr} {te : TE} {p apos cpos pos : Pos} (hc : X.calm = true) (he : PE X e te) (hg : Gl X "list") (hm : X.mg "list" = none) (hbase : attributeBase e "items" X.env (eval e X.env) = eval e X.env := by rfl) (hline : (apos.endLine == cpos.line) = true := by rfl)
    (hs : starEach [.Call (.Attribute e "items" apos) [] [] cpos] X.env = (false, eval (.Call (.Attribute e "items" apos) [] [] cpos) X.env) :: starEach [] X.env := by rfl) :
    PE X (.Call (.Name "list" p) [.Call (.Attribute e "items" apos) [] [] cpos] [] pos) (tLstIt X.prog X.w te) := by
  refine ⟨fun pins s σ H Q I hq => ?_⟩
  refine wpAny_Call_Name_kw (ld_blt I hg hm boot_list ?_)
  refine PyProof.Rows.callWith_type1 ?_ hs rfl
  rw [hs]
  show wpAny _ _ (spliced ((false, eval (.Call (.Attribute e "items" apos) [] [] cpos) X.env) :: backTo pos (starEach [] X.env))) _ _ s
  refine Calls.spliced_cons (wpAny_Call_method (T := "dict") (id := "dict.items") hbase rfl hline PySem.F.plainAttrs_dict PySem.F.slot_dict_items PySem.F.type_dict_items (thn (he.run pins s σ H _ I hq) fun u s1 ⟨x, H1, I1, rx, d, ob, a, L, ex, hd, q⟩ => ?_))
  subst ex
  obtain rfl : u = Value.ref d := rx
  obtain ⟨es, ep, hod⟩ := frz_data I1 hd
  have Z := frzT I1 hod hd
  have ho : s1.heap.get? d = some ob := (show _ ∧ _ from I1.hok d _ hd).1
  obtain ⟨o', g', hx, hdat⟩ := id Z.raw
  rw [ho] at g'
  cases g'
  refine ⟨Z.raw.typeIs, fun a e => by cases e; exact ⟨_, ho, hx.2.1⟩, ?_⟩
  have I2 : Inv X pins σ H1 { s1 with heap := s1.heap.push { cls := .type "dict_items", data := .fields #[.ref d] } } := I1.kept (t' := s1.toks) fun b ob q => Heap.get?_push_of_some _ q
  show wpAny _ _ (callWith cpos (.builtin "dict.items") [.ref d] [] []) _ X.xe s1
  refine method_meetsIn PySem.F.slot_dict_items PySem.F.entry_dict_items rfl (PySem.evalArgs_none ⟨rfl, Z.raw.typeIs, PySem.F.args_dict_items_1 _, _, meets_dict_items_raw d Z.sys, ⟨es, ep, Z.raw⟩, ?_⟩)
  refine Calls.spliced_nil ?_
  have zl : es.size ≤ sizeLine := by rw [Z.sz]; exact Z.len
  refine call_it (s := { s1 with heap := s1.heap.push { cls := .type "dict_items", data := .fields #[.ref d] } }) (base := (s1.heap.push { cls := .type "dict_items", data := .fields #[.ref d] }).objs.size) (I1.ok.hd hc) ⟨_, Heap.get?_push_size _ rfl, rfl, rfl⟩ (Z.raw.push _) zl (Nat.le_refl _) fun h' tk acc c as It k hS G hl => ?_
  generalize hs0 : s1.heap.push { cls := .type "dict_items", data := .fields #[.ref d] } = h0 at I2 k hS G
  obtain ⟨H2, b1, b2, b3⟩ := layP (P := X.prog) (w := X.w) (h' := h') (base := h0.objs.size) (S := h0.objs.size) as L H1 (by rw [hl, Z.sz]) G.up fun j a hj => by
    obtain ⟨e, e1, e2⟩ := G.ent j a hj
    have m := G.off a (List.mem_of_getElem? hj)
    obtain ⟨hi, ei⟩ := Array.getElem?_eq_some_iff.mp e1
    obtain ⟨l, f1, f2, f3⟩ := Z.ent j hi
    rw [ei] at f2 f3
    exact ⟨e, l, f1, f2, f3, e2, I2.hok.fresh m.1, m.1, m.2.1⟩
  have n2 : H2 h0.objs.size = none := by
    cases z : H2 h0.objs.size with
    | none => rfl
    | some u => exact absurd rfl (b3 _ u z (I2.hok.fresh (Nat.le_refl _))).2.1
  have I3 : Inv X pins σ (upd H2 h0.objs.size (.lst (as.map V.ref))) { s1 with heap := h', toks := tk } := RtL.inv_many (s := { s1 with heap := h0 }) I2 k (fun b o y => by
    have y2 := b2 b o y
    rw [upd_ne (ne_of_none y2 n2)]
    exact y2) fun b o y n => by
      by_cases z : b = h0.objs.size
      · subst z
        rw [upd_same] at y
        cases y
        refine ⟨Nat.le_refl _, show ObjOk X.prog X.w _ _ _ (.lst (as.map V.ref)) from ⟨by rw [List.length_map, hl]; exact zl, acc.toList, c, by rw [G.acc]; exact vals_refs as, by rw [Array.toArray_toList]; exact hS⟩⟩
      · rw [upd_ne z] at y
        exact ⟨(b3 b o y n).1, (b3 b o y n).2.2 _⟩
  exact ⟨.ref h0.objs.size, _, I3, rfl, q as H2 b1 _ n2⟩
end RtTc
namespace Rt
open PySem L2 Rt PyProof.Rows
section
variable {X : Cx} {C : Cs} {env kp : Gh → List Sl} {e a b c : Expr} {A rest : List Stmt} {pos p px apos cpos : Pos} {κ α β γ δ ρ : Type} [DecidableEq κ] {r : Rp ρ} {rk : Rp κ} {E : Kx rk} {rv : Rp δ} {mk : W κ} {mv : W δ} {md : W (List (κ × δ))} {pn : β → Gh → List Sl} {pl : γ → Gh → List Sl} {i j : Nat}
theorem Fr.layP {σ : L2.St} {en : List Sl} : ∀ {Ts : List Addr} {L : Tl} {xs : List (κ × δ)} {S H H2 : Hp}, Fr C S H σ en → All2 (EnT E rv S) L xs → RtTc.LaidP H Ts L H2 → ∃ S2, Fr C S2 H2 σ en ∧ Ex S S2 ∧ All2 ((qP rk rv).p S2) (Ts.map V.ref) xs
  | [], [], [], S, H, H2, F, _, h => by
    have h : H2 = H := h
    subst h
    exact ⟨S, F, Ex.refl S, True.intro⟩
  | T :: Ts, l :: L, x :: xs, S, H, H2, F, ⟨a1, a2⟩, ⟨hT, o, ho, h⟩ => by
    have sT : S T = none := F.e1.back hT
    have F1 := F.new (o := .frz o (.tup [.ref l.1, l.2.2])) hT
    obtain ⟨S2, F2, e2, q⟩ := Fr.layP F1 (a2.mono fun _ _ z => EnT.mono (Ex.new sT) z) h
    have ex := (Ex.new (o := .frz o (.tup [.ref l.1, l.2.2])) sT).trans e2
    exact ⟨S2, F2, ex, ⟨T, .ref l.1, l.2.2, rfl, TupAt.mono e2 (TupAt.new ho), rk.mono ex a1.2.1, rv.mono ex a1.2.2⟩, q⟩
  | [], _ :: _, _, _, _, _, _, _, h => h.elim
  | _ :: _, [], _, _, _, _, _, _, h => h.elim
  | _, [], _ :: _, _, _, _, _, h, _ => h.elim
  | _, _ :: _, [], _, _, _, _, h, _ => h.elim
theorem xn_listItT (hc : X.calm = true) (hg : Gl X "list") (hm : X.mg "list" = none) (h : PE X a (tE C env (qTb X.prog X.w E rv) md)) (hbase : attributeBase a "items" X.env (eval a X.env) = eval a X.env := by rfl) (hline : (apos.endLine == cpos.line) = true := by rfl)
    (hs : starEach [.Call (.Attribute a "items" apos) [] [] cpos] X.env = (false, eval (.Call (.Attribute a "items" apos) [] [] cpos) X.env) :: starEach [] X.env := by rfl) :
    PE X (.Call (.Name "list" p) [.Call (.Attribute a "items" apos) [] [] cpos] [] pos) (tN C env (qP rk rv) md) :=
  pe_imp (RtTc.pe_listItT hc h hg hm hbase hline hs) fun σ H Q _ ⟨S, g0, P, F, em, kk⟩ => ⟨S, g0, _, F, em, fun d g1 pd x S1 H1 F1 x1 ⟨p1, ob, a1, L, e1, hp1, hL⟩ => by
    subst e1
    refine ⟨p1, ob, a1, L, rfl, F1.e1 _ _ hp1, fun Ts H2 hl q hq => ?_⟩
    obtain ⟨S2, F2, e2, hA⟩ := Fr.layP F1 hL hl
    exact fun _ => kk _ _ pd q _ S2 H2 F2 (x1.trans e2) hq hA⟩
end
end Rt

set_option maxRecDepth 100000
set_option maxHeartbeats 4000000
/-! RtTd: dict(a list of pairs). -/
namespace Rt
open PySem L2 Rt PyProof.Rows
def mergeN (kvs more : Tl) : Tl := more.foldl (fun acc l => putT acc l.2.1 l.1 l.2.2) kvs
theorem mergeN_len : ∀ (more kvs : Tl), (mergeN kvs more).length ≤ kvs.length + more.length
  | [], kvs => Nat.le_refl _
  | l :: more, kvs => by
    have a := mergeN_len more (putT kvs l.2.1 l.1 l.2.2)
    have b := putT_len kvs l.2.1 l.1 l.2.2
    show (mergeN (putT kvs l.2.1 l.1 l.2.2) more).length ≤ _
    rw [List.length_cons]
    omega
theorem mergeN_rel : ∀ (more : Tl) (rs : List (NestedKey × Addr × Value)) (kvs : Tl) (vs : List (NestedKey × Addr × Value)), All2 RT more rs → All2 RT kvs vs → All2 RT (mergeN kvs more) (storedAllH vs rs)
  | [], [], kvs, vs, _, r0 => r0
  | [], _ :: _, _, _, h, _ => h.elim
  | _ :: _, [], _, _, h, _ => h.elim
  | l :: more, q :: rs, kvs, vs, ⟨⟨h1, h2, h3⟩, t⟩, r0 => by
    have := putT_rel (k := l.2.1) (b := l.1) h3 r0
    rw [← h1, ← h2] at this
    show All2 RT (mergeN (putT kvs l.2.1 l.1 l.2.2) more) (storedAllH (storedH vs q.1 q.2.1 q.2.2) rs)
    rw [← h1, ← h2]
    exact mergeN_rel more rs _ _ t this
/-- a pair of a key and a value at p -/
def PairN (H : Hp) (p : Addr) (l : Addr × NestedKey × V) : Prop := TupAt H p [.ref l.1, l.2.2] ∧ KyA H l.2.1 l.1
section
variable {X : Cx} {pins : List (Addr × Obj)} {σ : L2.St} {H : Hp} {s : Shared}
theorem pairsN_of (I : Inv X pins σ H s) : ∀ {ps : List Addr} {L : Tl}, All2 (PairN H) ps L →
    ∃ prs : List (NestedKey × Addr × Value), All2 RT L prs ∧ prs.length = ps.length ∧ (∀ x ∈ prs, (nestedKind X.prog X.w).is s.heap x.1 x.2.1) ∧
      ∀ (j : Nat) (q : NestedKey × Addr × Value), prs[j]? = some q → ∃ p : Addr, ps[j]? = some p ∧ IsTup s.heap p #[.ref q.2.1, q.2.2]
  | [], [], _ => ⟨[], True.intro, rfl, (fun _ h => nomatch h), fun j q e => by simp at e⟩
  | p :: ps, l :: L, ⟨⟨h1, h2⟩, t⟩ => by
    obtain ⟨prs, r, hl, hk, hp⟩ := pairsN_of I t
    obtain ⟨its, rv, ht, _⟩ := I.tuple h1.sq
    obtain ⟨u, y, ei, ru, ry⟩ := vals2 rv
    subst ei
    cases (show u = Value.ref l.1 from ru)
    refine ⟨(l.2.1, l.1, y) :: prs, ⟨⟨rfl, rfl, ry⟩, r⟩, by rw [List.length_cons, List.length_cons, hl], fun x hx => ?_, fun j q e => ?_⟩
    · rcases List.mem_cons.mp hx with e | hx
      · subst e
        exact h2.is I
      · exact hk x hx
    · cases j with
      | zero =>
        have e' : (l.2.1, l.1, y) = q := Option.some.inj e
        subst e'
        exact ⟨p, rfl, ht⟩
      | succ j =>
        obtain ⟨p', e1, e2⟩ := hp j q (by simpa using e)
        exact ⟨p', by simpa using e1, e2⟩
  | [], _ :: _, z => z.elim
  | _ :: _, [], z => z.elim
theorem refs_of : ∀ {ps : List Addr} {us : List Value}, Vals (ps.map V.ref) us → us = ps.map Value.ref
  | [], _, .nil => rfl
  | p :: ps, _, .cons r t => by
    rw [refs_of t]
    cases r
    rfl
theorem cr_dictN (hcalm : X.calm = true) (hu : X.A.units + 64 < cLine) : CallR X (.type "dict") (fun xs H Q => ∃ (a : Addr) (ps : List Addr) (L : Tl), xs = [.ref a] ∧ H a = some (.lst (ps.map V.ref)) ∧ All2 (PairN H) ps L ∧
    ∀ p, H p = none → ∀ ob, Q (.ref p) (upd H p (.frz ob (DTO X.prog X.w p (mergeN [] L))))) := by
  intro pins s σ H xs us Q I r q
  obtain ⟨a, ps, L, ex, hq, hp, q⟩ := q
  subst ex
  obtain ⟨u, eu, rx⟩ := vals1 r
  subst eu
  cases rx
  obtain ⟨its, rv, pl, hz⟩ := I.list (SqL.of hq)
  have ei := refs_of rv
  subst ei
  rw [List.length_map] at hz
  obtain ⟨prs, rel, hl, hki, hpr⟩ := pairsN_of I hp
  obtain ⟨o, n, ho, hc, hd, hdat⟩ := pl
  have lk : L.length = prs.length := All2.length rel
  have hP : PairItems s.heap (ps.map Value.ref).toArray (fun j => ps.getD j 0) (prs.map fun t => (Value.ref t.2.1, t.2.2)) := by
    refine ⟨by simp [hl], fun j k v hj => ?_⟩
    rw [List.getElem?_map, Option.map_eq_some_iff] at hj
    obtain ⟨t, e, et⟩ := hj
    cases et
    obtain ⟨p, e1, e2⟩ := hpr j t e
    have hg : ps.getD j 0 = p := by rw [List.getD_eq_getElem?_getD, e1]; rfl
    refine ⟨by simp [e1, hg], .inl ?_⟩
    show s.heap.IsTuple (ps.getD j 0) _
    rw [hg]
    exact e2
  have hui : (nestedKind X.prog X.w).room X.A.in1.in1 := by show X.A.units + 1 + 1 + 8 < cLine; omega
  refine call_dict_pairsH (knd := nestedKind X.prog X.w) (ps := prs) (PairArg.list a _ _ _) (I.ok.hd hcalm) hui ⟨⟨o, n, ho, hc, hd, hdat⟩, hP⟩ ⟨by simp, fun i key v hr => ?_⟩ (fun h' hk x hx => ?_) (by rw [List.length_map, hl]; exact hz) fun h' tk hd' k => ?_
  · have hr : (prs.map fun t => (Value.ref t.2.1, t.2.2))[i]? = some (key, v) := hr
    rw [List.getElem?_map, Option.map_eq_some_iff] at hr
    obtain ⟨t, e, et⟩ := hr
    cases et
    exact ⟨t.1, t.2.1, e, rfl⟩
  · exact nestedKind_stays.stays (fun b o vs n hb _ => hk b o (Nat.ne_of_lt (Heap.lt_size hb)) (by simp) hb) (hki x hx)
  · have hm : (s.heap.objs.size == sysModules) = false := beq_eq_false_iff_ne.mpr (Nat.ne_of_gt I.big)
    have hlen : (mergeN [] L).length ≤ sizeLine := by
      refine Nat.le_trans (mergeN_len L []) ?_
      rw [List.length_nil, Nat.zero_add, lk, hl]
      exact hz
    obtain ⟨q', es, ep, hq', h2, h3, h4, _, h5⟩ := hd'
    have kk : ∀ b o, s.heap.get? b = some o → h'.get? b = some o := fun b o e => k b o (by simp) e
    have rl := mergeN_rel L prs [] [] rel True.intro
    exact ⟨.ref s.heap.objs.size, _, I.laid (o := .frz q' (DTO X.prog X.w s.heap.objs.size (mergeN [] L))) (t' := tk) kk (Nat.le_refl _) ⟨hq', dto_new ⟨_, rl, hm, by rw [← All2.length rl]; exact hlen, q', es, ep, hq', h2, h3, h4, h5⟩⟩, rfl, q _ (I.hok.fresh (Nat.le_refl _)) q'⟩
end
section
variable {X : Cx} {C : Cs} {env kp : Gh → List Sl} {e a b c : Expr} {A rest : List Stmt} {pos p px p1 : Pos} {κ α β γ δ ρ : Type} [DecidableEq κ] {r : Rp ρ} {rk : Rp κ} {E : Kx rk} {rv : Rp δ} {mk : W κ} {mv : W δ} {md : W (List (κ × δ))} {pn : β → Gh → List Sl} {pl : γ → Gh → List Sl} {i j : Nat}
def tdict (d : List (κ × δ)) : List (κ × δ) := d.foldl (fun acc p => tput acc p.1 p.2) []
theorem mergeN_data {S : Hp} : ∀ (L : Tl) (d : List (κ × δ)) (L0 : Tl) (d0 : List (κ × δ)), All2 (EnT E rv S) L d → All2 (EnT E rv S) L0 d0 → All2 (EnT E rv S) (mergeN L0 L) (d.foldl (fun acc p => tput acc p.1 p.2) d0)
  | [], [], _, _, _, h0 => h0
  | [], _ :: _, _, _, h, _ => h.elim
  | _ :: _, [], _, _, h, _ => h.elim
  | l :: L, ab :: d, L0, d0, ⟨⟨h1, h2, h3⟩, t⟩, h0 => by
    have := putT_data (k := ab.1) (b := l.1) h0 h2 h3
    rw [← h1] at this
    exact mergeN_data L d _ _ t this
theorem pairsN_at {S H : Hp} (x : Ex S H) : ∀ (vs : List V) (d : List (κ × δ)), All2 ((qP rk rv).p S) vs d → ∃ ps L, vs = ps.map V.ref ∧ All2 (PairN H) ps L ∧ All2 (EnT E rv S) L d
  | [], [], _ => ⟨[], [], rfl, True.intro, True.intro⟩
  | [], _ :: _, h => h.elim
  | _ :: _, [], h => h.elim
  | v :: vs, ab :: d, ⟨⟨q, y, z, ev, hq, hy, hz⟩, t⟩ => by
    obtain ⟨ps, L, e1, e2, e3⟩ := pairsN_at x vs d t
    obtain ⟨b, eb, hb⟩ := key_at E hy
    subst ev eb
    exact ⟨q :: ps, (b, E.kv.enc ab.1, z) :: L, by rw [e1]; rfl, ⟨⟨TupAt.mono x hq, E.at (rk.mono x hb)⟩, e2⟩, ⟨⟨rfl, hb, hz⟩, e3⟩⟩
/-- dict(a list of pairs), never changed -/
theorem xe_dictP (hcm : X.calm = true) (hu : X.A.units + 64 < cLine) (hg : Gl X "dict") (hm : X.mg "dict" = none) (ha : PE X a (tE C env (qL (qP rk rv)) md)) (hst : starEach [a] X.env = (false, eval a X.env) :: starEach [] X.env := by rfl) :
    PE X (.Call (.Name "dict" p1) [a] [] p) (tE C env (qTb X.prog X.w E rv) (md.bind fun d => .ret (tdict d))) :=
  pe_imp (pe_callTy (cr_dictN hcm hu) hg hm (by decide +kernel) (pa_cons ha pa_nil hst) (by decide) (by decide) hst (by rfl)) fun σ H Q _ ⟨S, g0, P, F, em, kk⟩ => ⟨S, g0, _, F, em, fun d g1 pd v S1 H1 F1 x1 ⟨pa, vs, ev, hpa, hall⟩ => by
    subst ev
    obtain ⟨ps, L, e1, e2, e3⟩ := pairsN_at (E := E) F1.e1 vs d hall
    subst e1
    refine ⟨pa, ps, L, rfl, F1.e1 _ _ hpa, e2, fun p hp ob => ?_⟩
    have sp : S1 p = none := F1.e1.back hp
    have F2 := F1.new (o := .frz ob (DTO X.prog X.w p (mergeN [] L))) hp
    have ex := Ex.new (o := .frz ob (DTO X.prog X.w p (mergeN [] L))) sp
    exact fun _ => kk _ _ pd _ _ _ F2 (x1.trans ex) ⟨p, ob, p, _, rfl, upd_same, (mergeN_data L d [] [] e3 True.intro).mono fun _ _ z => EnT.mono ex z⟩⟩
end
end Rt

set_option maxRecDepth 100000
set_option maxHeartbeats 4000000
/-! RtTe: dicts whose keys are ints, whose values are any; every dict locked while the shared object stands by. -/
namespace Rt
open PySem L2 Rt PyProof.Rows
section
variable {β : Type} (rv : Rp β)
def RwI (S : Hp) (kv : L2.Key × V) (ab : Int × β) : Prop := kv.1 = .inl ab.1 ∧ rv.p S kv.2 ab.2
variable {rv}
theorem RwI.mono {S S' : Hp} (e : Ex S S') {kv : L2.Key × V} {ab : Int × β} (h : RwI rv S kv ab) : RwI rv S' kv ab := ⟨h.1, rv.mono e h.2⟩
theorem valI_rel {S : Hp} (k : Int) : ∀ {kvs : List (L2.Key × V)} {d : List (Int × β)}, All2 (RwI rv S) kvs d → (∀ v, tget d k = some v → ∃ x, valV kvs (Sum.inl k) = some x ∧ rv.p S x v) ∧ (tget d k = none → valV kvs (Sum.inl k) = none)
  | [], [], _ => ⟨(fun _ h => nomatch h), fun _ => rfl⟩
  | kv :: kvs, ab :: d, ⟨⟨h1, h2⟩, h4⟩ => by
    obtain ⟨i1, i2⟩ := valI_rel k h4
    by_cases z : ab.1 = k
    · have e1 : valV (kv :: kvs) (Sum.inl k : L2.Key) = some kv.2 := valV_pos (by rw [h1, z])
      have e2 : tget (ab :: d) k = some ab.2 := by unfold tget; rw [List.find?_cons_of_pos (by simpa using z)]; rfl
      rw [e1, e2]
      exact ⟨fun v h => by cases h; exact ⟨_, rfl, h2⟩, (fun h => nomatch h)⟩
    · have e1 : valV (kv :: kvs) (Sum.inl k : L2.Key) = valV kvs (Sum.inl k) := valV_neg fun w => z (Sum.inl.inj (h1.symm.trans w))
      have e2 : tget (ab :: d) k = tget d k := by unfold tget; rw [List.find?_cons_of_neg (by simpa using z)]
      rw [e1, e2]
      exact ⟨i1, i2⟩
  | [], _ :: _, z => z.elim
  | _ :: _, [], z => z.elim
theorem anyI_rel {S : Hp} (k : Int) : ∀ {kvs : List (L2.Key × V)} {d : List (Int × β)}, All2 (RwI rv S) kvs d → (kvs.any fun kv => decide (kv.1 = (Sum.inl k : L2.Key))) = (tget d k).isSome
  | [], [], _ => rfl
  | kv :: kvs, ab :: d, ⟨⟨h1, h2⟩, h4⟩ => by
    rw [List.any_cons, anyI_rel k h4]
    by_cases z : ab.1 = k
    · have e2 : tget (ab :: d) k = some ab.2 := by unfold tget; rw [List.find?_cons_of_pos (by simpa using z)]; rfl
      rw [e2, h1, z]
      simp
    · have e2 : tget (ab :: d) k = tget d k := by unfold tget; rw [List.find?_cons_of_neg (by simpa using z)]
      rw [e2, h1]
      have : decide ((Sum.inl ab.1 : L2.Key) = Sum.inl k) = false := decide_eq_false fun w => z (Sum.inl.inj w)
      rw [this, Bool.false_or]
  | [], _ :: _, z => z.elim
  | _ :: _, [], z => z.elim
theorem putI_data {S : Hp} {k : Int} {x : V} {v : β} {kvs : List (L2.Key × V)} {d : List (Int × β)} (h : All2 (RwI rv S) kvs d) (hx : rv.p S x v) : All2 (RwI rv S) (putK kvs (Sum.inl k) x) (tput d k v) := by
  unfold putK tput
  rw [anyI_rel k h]
  split
  · have go : ∀ {kvs : List (L2.Key × V)} {d : List (Int × β)}, All2 (RwI rv S) kvs d → All2 (RwI rv S) (kvs.map fun kv => if kv.1 = (Sum.inl k : L2.Key) then (kv.1, x) else kv) (d.map fun p => if p.1 = k then (p.1, v) else p) := by
      intro kvs
      induction kvs with
      | nil => intro a h; cases a with | nil => exact True.intro | cons _ _ => exact h.elim
      | cons kv kvs ih =>
        intro a h
        cases a with
        | nil => exact h.elim
        | cons ab a =>
          obtain ⟨⟨h1, h2⟩, h3⟩ := h
          refine ⟨?_, ih h3⟩
          show RwI rv S (if kv.1 = (Sum.inl k : L2.Key) then (kv.1, x) else kv) (if ab.1 = k then (ab.1, v) else ab)
          by_cases z : ab.1 = k
          · rw [if_pos z, if_pos (by rw [h1, z])]
            exact ⟨h1, hx⟩
          · rw [if_neg z, if_neg fun w => z (Sum.inl.inj (h1.symm.trans w))]
            exact ⟨h1, h2⟩
    exact go h
  · exact h.snoc ⟨rfl, hx⟩
end
def oIb {β : Type} (rv : Rp β) : Og (List (Int × β)) := ⟨fun H u d => ∃ kvs, u = .dK kvs ∧ All2 (RwI rv H) kvs d, fun e ⟨kvs, h1, h2⟩ => ⟨kvs, h1, h2.mono fun _ _ z => z.mono e⟩⟩
def qIb {β : Type} (rv : Rp β) : Rp (List (Int × β)) := ⟨fun S v d => ∃ p ob kvs, v = .ref p ∧ S p = some (.frz ob (.dK kvs)) ∧ All2 (RwI rv S) kvs d, fun e ⟨p, ob, kvs, h1, h2, h3⟩ => ⟨p, ob, kvs, h1, e _ _ h2, h3.mono fun _ _ z => z.mono e⟩⟩
section
variable {X : Cx} {C : Cs} {env kp : Gh → List Sl} {e a b c : Expr} {A rest : List Stmt} {pos p px p1 : Pos} {κ α β γ δ ρ : Type} {r : Rp ρ} {rv : Rp δ} {mk : W Int} {mv : W δ} {md : W (List (Int × δ))} {pn : β → Gh → List Sl} {pl : γ → Gh → List Sl} {i j : Nat}
/-- x = {} -/
theorem xs_setI0 {x : Str} {py : Pos} {K : W (Fl ρ β γ)} (hr : PSs X rest (tF C (fun g => (env g).set i (.ob (oIb rv) [])) K pn pl kp r)) (hN : X.N.Nodup) (hi : X.N[i]? = some x) (hx : Loc X.env.scope x) (hs : swapsWith (.Dict [] [] p) (some (.Name x py)) pos.line X.env = pure false)
    (hf : X.fn x = true) : PSs X (.Assign [.Name x py] (.Dict [] [] p) pos :: rest) (tF C env K pn pl kp r) :=
  pss_imp (pss_cons (ps_set hN hi hx pe_dnewK hs (.inl hf)) hr) fun D σ H _ ⟨S, g0, P, F, em, q⟩ q0 hq =>
    ⟨S, g0, P, F.setOb i hq ⟨[], rfl, True.intro⟩ (fun _ z => nomatch z), em, q⟩
/-- x[k] = v -/
theorem xs_putI {x : Str} {ps : Pos} {d : List (Int × δ)} {K : List (Int × δ) → W (Fl ρ β γ)} (hu : X.A.units + 9 < cLine) (hv : PE X e (tE C env rv mv)) (hd : PE X (.Name x px) (tVar i)) (hb : PE X b (tE C env qI mk)) (hr : ∀ ys, PSs X rest (tF C (fun g => (env g).set i (.ob (oIb rv) ys)) (K ys) pn pl kp r)) (hi : ∀ g, (env g)[i]? = some (.ob (oIb rv) d) := by intro _; rfl)
    (ha : ∀ v, assign (.Subscript (.Name x px) b ps) X.env v = (do
      let ov ← holding [v] (eval (.Name x px) X.env)
      let iv ← holding [v, ov] (eval b X.env)
      standAt ps
      holding [v, ov, iv] (setItem ov iv v)
      release [v, ov, iv] []) := by intro _; rfl)
    (hs : swapsWithSole [.Subscript (.Name x px) b ps] e pos.line X.env = pure false := by rfl) (hw : swappedStores [.Subscript (.Name x px) b ps] e X.env = pure none := by rfl) (h1 : (assignEach [.Subscript (.Name x px) b ps] X.env).map (·.2) = [assign (.Subscript (.Name x px) b ps) X.env] := by rfl) :
    PSs X (.Assign [.Subscript (.Name x px) b ps] e pos :: rest) (tF C env (mv.bind fun v => mk.bind fun k => (ofO (tputC d k v)).bind K) pn pl kp r) :=
  pss_imp (pss_cons (ps_asg hv (pg_sub hd hb (set_dict (by omega)) ha) hs hw h1) (pss_ex hr)) fun D σ H _ ⟨S, g0, P, F, em, q⟩ => ⟨S, g0, _, F, em, fun v g1 pv u S1 H1 F1 x1 hu => by
    obtain ⟨w1, ew1, p1, u1, e1, sp1, hp1, _⟩ := F1.sl.get i (hi _)
    subst e1
    refine ⟨.ref p1, ew1, S1, g1, _, F1, pv, fun k g2 ⟨ys, ey, py⟩ y S2 H2 F2 x2 hy => ?_⟩
    obtain ⟨w2, ew2, p2, u2, e2, sp2, hp2, kvs2, eu2, ha2⟩ := F2.sl.get i (hi _)
    subst e2
    rw [ew1] at ew2
    cases ew2
    subst eu2
    unfold tputC at ey
    split at ey
    case isFalse => cases ey
    rename_i hl
    cases ey
    have hy : y = .int k := hy
    subst hy
    have hlen := All2.length ha2
    refine ⟨p1, _, rfl, DPut.k (k := .inl k) hp2 (by rw [hlen, sizeLine_eq]; omega), tput d k v, S2, g2, P, ?_, py, fun o g9 po => (q o g9 po).mono (x1.trans x2)⟩
    exact F2.writeOb (hi _) ew1 ⟨_, rfl, putI_data ha2 (rv.mono x2 hu)⟩ (fun _ z => nomatch z)⟩
/-- d[k], d changed no more -/
theorem xe_subIF (hu : X.A.units + 9 < cLine) (hd : PE X a (tE C env (qIb rv) md)) (hb : PE X b (tE C env qI mk)) (hs : NoSl b := by intro _ _; rfl) : PE X (.Subscript a b pos) (tE C env rv (md.bind fun d => mk.bind fun k => ofO (tget d k))) :=
  pe_imp (pe_dget (by omega) hd hb hs) fun σ H Q _ ⟨S, g0, P, F, em, kk⟩ => ⟨S, g0, _, F, em, fun d g0' pd x S0 H0 F0 x0 ⟨p1, od, kvs, e1, hp1, ha⟩ => ⟨S0, g0', _, F0, pd, fun k g1 ⟨v, ev, pv⟩ y S1 H1 F1 x1 hy => by
    subst e1
    have hy : y = .int k := hy
    subst hy
    have ha2 := ha.mono fun _ _ z => RwI.mono x1 z
    obtain ⟨x, ex, hx⟩ := (valI_rel k ha2).1 v ev
    exact ⟨p1, x, rfl, .inl ⟨kvs, .inl k, .inr ⟨od, F1.e1 _ _ (x1 _ _ hp1)⟩, rfl, ex.symm⟩, fun _ => kk v _ pv _ S1 H1 F1 (x0.trans x1) hx⟩⟩⟩
/-- x[k], x the def's own -/
theorem xe_subIO {x : Str} {d : List (Int × δ)} (hu : X.A.units + 9 < cLine) (hd : PE X (.Name x px) (tVar i)) (hb : PE X b (tE C env qI mk)) (hi : ∀ g, (env g)[i]? = some (.ob (oIb rv) d) := by intro _; rfl) (hs : NoSl b := by intro _ _; rfl) : PE X (.Subscript (.Name x px) b pos) (tE C env rv (mk.bind fun k => ofO (tget d k))) :=
  pe_imp (pe_dget (by omega) hd hb hs) fun σ H Q _ ⟨S, g0, P, F, em, kk⟩ => by
    obtain ⟨w1, ew1, p1, u1, e1, sp1, hp1, kvs1, eu1, _⟩ := F.sl.get i (hi _)
    subst e1 eu1
    refine ⟨.ref p1, ew1, S, g0, _, F, em, fun k g1 ⟨v, ev, pv⟩ y S1 H1 F1 x1 hy => ?_⟩
    obtain ⟨w2, ew2, p2, u2, e2, sp2, hp2, kvs2, eu2, hL⟩ := F1.sl.get i (hi _)
    subst e2
    rw [ew1] at ew2
    cases ew2
    subst eu2
    have hy : y = .int k := hy
    subst hy
    obtain ⟨x, ex, hx⟩ := (valI_rel k hL).1 v ev
    exact ⟨p1, x, rfl, .inl ⟨kvs2, .inl k, .inl hp2, rfl, ex.symm⟩, fun _ => kk _ _ pv _ S1 H1 F1 x1 hx⟩
/-- changed no more -/
theorem lkI_at {S H : Hp} {σ : L2.St} {en : List Sl} {d : List (Int × δ)} (F : Fr C S H σ en) (hi : en[i]? = some (.ob (oIb rv) d)) (h0 : ∀ p, σ[i]? = some (some (.ref p)) → p ∉ C.A0) :
    ∃ p u, H p = some u ∧ Mut (some u) ∧ ∀ od, ∃ S', Ex S S' ∧ Fr C S' (upd H p (.frz od u)) σ (en.set i (.im (qIb rv) d)) := by
  obtain ⟨v, ev, p1, u1, e1, sp1, hp1, kvs1, eu1, ha1⟩ := F.sl.get i hi
  subst e1 eu1
  have hlt : i < en.length := by
    rcases Nat.lt_or_ge i en.length with h | h
    · exact h
    · rw [List.getElem?_eq_none h] at hi
      cases hi
  refine ⟨p1, _, hp1, True.intro, fun od => ?_⟩
  have F1 := F.writeToT (q' := (⟨fun H u d => ∃ ob kvs, u = .frz ob (.dK kvs) ∧ All2 (RwI rv H) kvs d, fun e ⟨ob, kvs, h1, h2⟩ => ⟨ob, kvs, h1, h2.mono fun _ _ z => z.mono e⟩⟩ : Og (List (Int × δ)))) (u := .frz od (.dK kvs1)) (a := d) hi ev ⟨od, kvs1, rfl, ha1⟩ (fun _ z => nomatch z)
  obtain ⟨S', x1, F2⟩ := F1.freezeOb (i := i) (by rw [List.getElem?_set_self hlt]) h0
  rw [List.set_set] at F2
  refine ⟨S', x1, ?_⟩
  obtain ⟨v2, ev2, hv2⟩ := F2.sl.get i (List.getElem?_set_self hlt)
  obtain ⟨x2, ex2, p2, u2, q1, q2, ob, kvs, q3, q4⟩ := hv2
  subst ex2 q1 q3
  have F3 := F2.setIm i (r := qIb rv) (v := .ref p2) (a := d) ⟨p2, ob, kvs, rfl, q2, q4⟩
  rw [List.set_set] at F3
  have es : σ.set i (some (V.ref p2)) = σ := by
    refine List.ext_getElem? fun j => ?_
    by_cases z : i = j
    · subst z
      rw [ev2, List.getElem?_set_self (List.getElem?_eq_some_iff.mp ev2).1]
    · rw [List.getElem?_set_ne z]
  rw [es] at F3
  exact F3
theorem xs_lkI (i : Nat) {d : List (Int × δ)} {m : W (Fl ρ β γ)} (hA : C.A0 = []) (hr : PSs X A (tF C (fun g => (env g).set i (.im (qIb rv) d)) m pn pl kp r)) (hi : ∀ g, (env g)[i]? = some (.ob (oIb rv) d) := by intro _; rfl) : PSs X A (tF C env m pn pl kp r) :=
  pss_imp (pss_lk hr) fun D σ H _ ⟨S, g0, P, F, em, q⟩ => by
    obtain ⟨p, u, hp, mu, h⟩ := lkI_at F (hi _) fun p _ => by rw [hA]; simp
    refine ⟨p, u, hp, mu, fun od => ?_⟩
    obtain ⟨S', x1, F2⟩ := h od
    exact ⟨S', g0, P, F2, em, fun o g9 po => (q o g9 po).mono x1⟩
theorem xs_lkTD (i : Nat) {d : Addr} {κ : Type} [DecidableEq κ] {rk : Rp κ} {E : Kx rk} {a : List (κ × δ)} {m : W (Fl ρ β γ)} (hA : C.A0 = [d]) (hr : PSs X A (tF C (fun g => (env g).set i (.im (qTb X.prog X.w E rv) a)) m pn pl kp r)) (hi : ∀ g, (env g)[i]? = some (.ob (oTb X.prog X.w E rv) a) := by intro _; rfl) (h0 : ∀ g, (env g)[0]? = some (.iv d (oD g)) := by intro _; rfl) (hne : i ≠ 0 := by decide) : PSs X A (tF C env m pn pl kp r) :=
  pss_imp (pss_lk hr) fun D σ H _ ⟨S, g0, P, F, em, q⟩ => by
    obtain ⟨s0, _, _⟩ := F.iv (h0 g0)
    obtain ⟨p, u, hp, mu, h⟩ := lkT_at F (hi _) fun p hp z => by
      rw [hA] at z
      have z : p = d := by simpa using z
      subst z
      exact hne (owns_inj F.nd (hi g0) hp rfl (h0 g0) s0 rfl)
    refine ⟨p, u, hp, mu, fun od => ?_⟩
    obtain ⟨S', x1, F2⟩ := h od
    exact ⟨S', g0, P, F2, em, fun o g9 po => (q o g9 po).mono x1⟩
theorem xs_lkID (i : Nat) {d : Addr} {a : List (Int × δ)} {m : W (Fl ρ β γ)} (hA : C.A0 = [d]) (hr : PSs X A (tF C (fun g => (env g).set i (.im (qIb rv) a)) m pn pl kp r)) (hi : ∀ g, (env g)[i]? = some (.ob (oIb rv) a) := by intro _; rfl) (h0 : ∀ g, (env g)[0]? = some (.iv d (oD g)) := by intro _; rfl) (hne : i ≠ 0 := by decide) : PSs X A (tF C env m pn pl kp r) :=
  pss_imp (pss_lk hr) fun D σ H _ ⟨S, g0, P, F, em, q⟩ => by
    obtain ⟨s0, _, _⟩ := F.iv (h0 g0)
    obtain ⟨p, u, hp, mu, h⟩ := lkI_at F (hi _) fun p hp z => by
      rw [hA] at z
      have z : p = d := by simpa using z
      subst z
      exact hne (owns_inj F.nd (hi g0) hp rfl (h0 g0) s0 rfl)
    refine ⟨p, u, hp, mu, fun od => ?_⟩
    obtain ⟨S', x1, F2⟩ := h od
    exact ⟨S', g0, P, F2, em, fun o g9 po => (q o g9 po).mono x1⟩
theorem mergeI_data {S : Hp} : ∀ (L : List (L2.Key × V)) (d : List (Int × δ)) (L0 : List (L2.Key × V)) (d0 : List (Int × δ)), All2 (RwI rv S) L d → All2 (RwI rv S) L0 d0 → All2 (RwI rv S) (mergeK L0 L) (d.foldl (fun acc p => tput acc p.1 p.2) d0)
  | [], [], _, _, _, h0 => h0
  | [], _ :: _, _, _, h, _ => h.elim
  | _ :: _, [], _, _, h, _ => h.elim
  | l :: L, ab :: d, L0, d0, ⟨⟨h1, h2⟩, t⟩, h0 => by
    have := putI_data (k := ab.1) h0 h2
    rw [← h1] at this
    exact mergeI_data L d _ _ t this
theorem pairsI_at {K : PySem.W.Frag} {S H : Hp} (x : Ex S H) : ∀ (vs : List V) (d : List (Int × δ)), All2 ((qP qI rv).p S) vs d → ∃ (ps : List Addr) (L : List (L2.Key × V)), vs = ps.map V.ref ∧ Paired (fun p kv => SqT K H p [kV kv.1, kv.2]) ps L ∧ All2 (RwI rv S) L d
  | [], [], _ => ⟨[], [], rfl, .nil, True.intro⟩
  | [], _ :: _, h => h.elim
  | _ :: _, [], h => h.elim
  | v :: vs, ab :: d, ⟨⟨q, y, z, ev, hq, hy, hz⟩, t⟩ => by
    obtain ⟨ps, L, e1, e2, e3⟩ := pairsI_at x vs d t
    have hy : y = .int ab.1 := hy
    subst ev hy
    exact ⟨q :: ps, (.inl ab.1, z) :: L, by rw [e1]; rfl, .cons (TupAt.sq (TupAt.mono x hq)) e2, ⟨⟨rfl, hz⟩, e3⟩⟩
/-- dict(a list of pairs (int, any)), never changed by name -/
theorem xs_setPI {x : Str} {py : Pos} {K : List (Int × δ) → W (Fl ρ β γ)} (hcm : X.calm = true) (hg : Gl X "dict") (hm : X.mg "dict" = none) (ha : PE X a (tE C env (qL (qP qI rv)) md)) (hr : ∀ ys, PSs X rest (tF C (fun g => (env g).set i (.ob (oIb rv) ys)) (K ys) pn pl kp r)) (hN : X.N.Nodup) (hi : X.N[i]? = some x) (hx : Loc X.env.scope x) (hs : swapsWith (.Call (.Name "dict" p1) [a] [] p) (some (.Name x py)) pos.line X.env = pure false)
    (hf : X.fn x = true) (hst : starEach [a] X.env = (false, eval a X.env) :: starEach [] X.env := by rfl) :
    PSs X (.Assign [.Name x py] (.Call (.Name "dict" p1) [a] [] p) pos :: rest) (tF C env (md.bind fun d => (W.ret (tdict d)).bind K) pn pl kp r) :=
  pss_imp (pss_cons (ps_set hN hi hx (pe_callTy (call_dictP hcm) hg hm (by decide +kernel) (pa_cons ha pa_nil hst) (by decide) (by decide) hst (by rfl)) hs (.inl hf)) (pss_ex hr)) fun D σ H _ ⟨S, g0, P, F, em, q⟩ => ⟨S, g0, _, F, em, fun d g1 pd v S1 H1 F1 x1 ⟨pa, vs, ev, hpa, hall⟩ => by
    subst ev
    obtain ⟨ps, kvs, e1, e2, e3⟩ := pairsI_at (K := X.K) F1.e1 vs d hall
    subst e1
    refine ⟨pa, ps, kvs, rfl, SqL.of (F1.e1 _ _ hpa), e2, fun p hp => ⟨tdict d, S1, g1, P, ?_, pd, fun o g9 po => (q o g9 po).mono x1⟩⟩
    exact F1.setOb i (q := oIb rv) hp ⟨_, rfl, mergeI_data kvs d [] [] e3 True.intro⟩ (fun _ z => nomatch z)⟩
end
end Rt

set_option maxRecDepth 100000
set_option maxHeartbeats 4000000
/-! RtTf: f(a new list), the list being the shared object of the call alone. -/
namespace Rt
open PySem L2 Rt PyProof.Rows
section
variable {X : Cx} {C : Cs} {env : Gh → List Sl} {e : Expr} {pos p : Pos} {ρ : Type} {r : Rp ρ}
theorem xe_callDN {π : Around → Prop} {f : Unit → W ρ} {mN : W (List Int)} {j k : Nat} {ps : List Str} {x : Str}
    (h : Has X.prog X.w X.K X.mg X.base π x j ps (SpD p0.ra r f)) (hpi : π X.A) (hr : Room k X.A) (hj : j ≤ k) (hg : Gl X x)
    (hn : PE X e (tN C env qI mN)) (hE : ∀ g g', env g' = env g := by intro _ _; rfl)
    (hdb : (x == ("__debug__" : Str)) = false := by decide) (he : starEach [e] X.env = (false, eval e X.env) :: starEach [] X.env := by rfl) (hpl : (backTo pos (starEach [] X.env)).any (·.1) = false := by rfl) :
    PE X (.Call (.Name x p) [e] [] pos) (tE C env r (mN.bind fun xs => (W.put xs).bind fun _ => f ())) := by
  obtain ⟨fa, fd, F, hm, hk, hb⟩ := h
  refine pe_imp (pe_callP F hpi (hr.mono hj) hg hm hk hb .nil pass0 (pa_cons hn pa_nil he) hdb he hpl) fun σ H Q _ ⟨S, g0, P, F0, em, q⟩ => ?_
  refine ⟨S, g0, _, F0, em, fun xs g1 px d vs S1 H1 F1 x1 hd hv => ?_⟩
  have hvs : vs = xs.map V.int := flat_ints hv
  subst hvs
  show SpD p0.ra r f ((.ref d :: []) ++ []) (upd H1 d (oD xs)) _ E0
  have sd : S1 d = none := F1.e1.back hd
  have A1 := F1.add (p := d) (o := oD xs) hd (fun _ z => nomatch z)
  refine ⟨S1, (), d, [], xs, P, rfl, A1.e1, A1.tc, sd, upd_same, rfl, px, fun o g' po v S' H' eS eH eHH hd' sd' n t hr' _ => ?_⟩
  have A2 := F1.add (p := d) (o := oD g') hd (fun _ z => nomatch z)
  rw [← hE g1 g'] at A2
  refine q o g' po v S' H' (A2.call eS eH (fun b u hb => ?_) (fun b s0 h0 => ?_) t) (x1.trans eS) hr'
  · by_cases z : b = d
    · subst z
      rw [upd_same] at hb
      cases hb
      exact hd'
    · rw [upd_ne z] at hb
      exact eHH b u (by rw [upd_ne z]; exact hb) z
  · by_cases z : b = d
    · rw [z]
      exact sd'
    · rw [upd_ne z] at h0
      exact n b s0 (by rw [upd_ne z]; exact h0)
end
section
variable {X : Cx} {C : Cs} {env kp : Gh → List Sl} {e a b c : Expr} {A rest : List Stmt} {pos p px : Pos} {α β γ ρ : Type} {r : Rp ρ} {pn : β → Gh → List Sl} {pl : γ → Gh → List Sl} {i j : Nat} {ra re : Rp α} {rb : Rp β}
theorem xi_zipL {elts : List Expr} {kk : Nat} {tpos p : Pos} {mx : W (List α)} {my : W (List β)} (hg : Gl X "zip") (hm : X.mg "zip" = none) (ha : PE X a (tE C env (qL ra) mx)) (hb : PE X b (tE C env (qL rb) my)) (hs : starEach [a, b] X.env = (false, eval a X.env) :: starEach [b] X.env := by rfl) (hs2 : starEach [b] X.env = (false, eval b X.env) :: starEach [] X.env := by rfl) (hpl : (backTo pos (starEach [b] X.env)).any (·.1) = false := by rfl) :
    PI X (.Tuple elts kk tpos) (.Call (.Name "zip" p) [a, b] [] pos) (tS C env (qW ra rb) (mx.bind fun xs => my.bind fun ys => .ret (xs.zip ys))) := by
  refine pi_imp (RZ.pi_zipA hg hm (pa_cons (tE_len ha) (pa_cons hb pa_nil hs2) hs) (hs := hs) (hpl := hpl)) fun σ H R _ ⟨S, g0, P, F, em, q⟩ => ⟨S, g0, _, F, em, fun xs g1 px v S1 H1 F1 x1 ⟨p1, vs, ev, hp, h2⟩ l => ⟨S1, g1, _, F1, px, fun ys g2 py w S2 H2 F2 x2 ⟨p2, ws, ew, hq, h3⟩ => ?_⟩⟩
  subst ev ew
  have hp2 : S2 p1 = some (.lst vs) := x2 _ _ hp
  have hq : S2 p2 = some (.lst ws) := hq
  have h2' := h2.mono fun _ _ z => ra.mono x2 z
  have lx := All2.length h2
  have ly := All2.length h3
  have hz : (xs.zip ys).length = min xs.length ys.length := List.length_zip
  have lm : vs.length ≤ sizeLine := l p1 true vs (F1.e1 _ _ hp)
  refine ⟨p1, p2, vs, ws, rfl, .inl ⟨SqL.of (F2.e1 _ _ hp2), SqL.of (F2.e1 _ _ hq), q _ _ py _ S2 H2 F2 (x1.trans x2) (wk_new (by rw [hz]; omega) (fun {C S H σ env} i hi F e => ?_) (fun {C S H σ env} i hi F e => ?_) fun {C S H σ env} i x H' y F e hy ha => ?_)⟩⟩
  · rw [hz] at hi
    have h1 : i < vs.length := by omega
    have h4 : i < ws.length := by omega
    exact ⟨vs, ws, vs[i], ws[i], SqL.of (F.e1 _ _ (e _ _ hp2)), SqL.of (F.e1 _ _ (e _ _ hq)), by simp [h1], by simp [h4]⟩
  · rw [hz] at hi
    exact ⟨vs, ws, SqL.of (F.e1 _ _ (e _ _ hp2)), SqL.of (F.e1 _ _ (e _ _ hq)), by omega⟩
  · obtain ⟨T, u, w, ev, hT, eH, hq1, hq2⟩ := hy
    obtain ⟨y1, y2⟩ := zip_get ha
    obtain ⟨u', hu', ru⟩ := All2.get i h2' y1
    obtain ⟨w', hw', rw'⟩ := All2.get i h3 y2
    have z1 := hq1 vs (SqL.of (F.e1 _ _ (e _ _ hp2)))
    have z2 := hq2 ws (SqL.of (F.e1 _ _ (e _ _ hq)))
    rw [hu'] at z1
    rw [hw'] at z2
    cases z1
    cases z2
    have ex := e.trans (Ex.new (o := .tup [u, w]) (F.e1.back hT))
    exact ⟨T, _, ev, hT, eH, T, u, w, ev, .inl upd_same, ra.mono ex ru, rb.mono ex rw'⟩
/-- x, y = e, {} -/
theorem xs_parT {κ δ : Type} [DecidableEq κ] {rk : Rp κ} {E : Kx rk} {rv : Rp δ} {i j : Nat} {x y : Str} {px py pt0 pd : Pos} {kt k2 : Nat} {pt2 : Pos} {α1 : Type} {r1 : Rp α1} {m1 : W α1} {K : α1 → W (Fl ρ β γ)} (ha : PE X a (tE C env r1 m1)) (hr : ∀ a, PSs X rest (tF C (fun g => ((env g).set i (.im r1 a)).set j (.ob (oTb X.prog X.w E rv) [])) (K a) pn pl kp r))
    (hc : X.calm = true) (hN : X.N.Nodup) (hi : X.N[i]? = some x) (hj : X.N[j]? = some y) (hij : i ≠ j) (hx : X.env.scope.names.lookup x = some .local) (hy : X.env.scope.names.lookup y = some .local)
    (hw : swappedStores [.Tuple [.Name x px, .Name y py] kt pt0] (.Tuple [a, .Dict [] [] pd] k2 pt2) X.env = pure (some [x, y])) (hs : swapsWithSole [.Tuple [.Name x px, .Name y py] kt pt0] (.Tuple [a, .Dict [] [] pd] k2 pt2) pos.line X.env = pure false := by rfl)
    (h1 : starEach [a, .Dict [] [] pd] X.env = (false, eval a X.env) :: starEach [.Dict [] [] pd] X.env := by rfl) (h2 : starEach [.Dict [] [] pd] X.env = (false, eval (.Dict [] [] pd) X.env) :: starEach [] X.env := by rfl) :
    PSs X (.Assign [.Tuple [.Name x px, .Name y py] kt pt0] (.Tuple [a, .Dict [] [] pd] k2 pt2) pos :: rest) (tF C env (m1.bind K) pn pl kp r) :=
  pss_imp (pss_cons (ps_par hc hN hi hj hij hx hy (pa_cons ha (pa_cons pe_dnewT pa_nil h2) h1) hw hs) (pss_ex hr)) fun D σ H _ ⟨S, g0, P, F, em, q⟩ =>
    ⟨S, g0, _, F, em, fun u g1 pu v S1 H1 F1 x1 hv q0 hq => ⟨v, .ref q0, rfl, u, S1, g1, P, (F1.setIm i hv).setOb j hq ⟨q0, [], rfl, True.intro⟩ (fun _ z => nomatch z), pu, fun o g9 po => (q o g9 po).mono x1⟩⟩
end
theorem units9 {k : Nat} {A : Around} (r : Room k A) : A.units + 9 < cLine := by
  have := r.un
  omega
end Rt

set_option maxRecDepth 100000
set_option maxHeartbeats 4000000
/-! RtTg: sorted(a list of pairs: a tuple of ints, an int). -/
namespace Rt
open PySem L2 Rt PyProof.Rows PySem.W
abbrev PTI := List Int × Int
def ltPI (x y : PTI) : Bool := if x.1 = y.1 then decide (x.2 < y.2) else HT.lexLt x.1 y.1
def insPI (x : PTI) : List PTI → List PTI
  | [] => [x]
  | y :: ys => if ltPI y x = true then y :: insPI x ys else x :: y :: ys
def sortPI : List PTI → List PTI
  | [] => []
  | x :: xs => insPI x (sortPI xs)
theorem insPI_perm (x : PTI) : ∀ ys, (insPI x ys).Perm (x :: ys)
  | [] => .refl _
  | y :: ys => by
    unfold insPI
    split
    · exact ((insPI_perm x ys).cons y).trans (.swap x y ys)
    · exact .refl _
theorem sortPI_perm : ∀ xs, (sortPI xs).Perm xs
  | [] => .refl _
  | x :: xs => (insPI_perm x (sortPI xs)).trans ((sortPI_perm xs).cons x)
def LePI (x y : PTI) : Prop := ltPI y x = false
theorem leX_refl (z : List Int) : LeX z z := (NtL.swo_lexL (α := List Int) id).refl z
theorem lePI_iff {x y : PTI} : LePI x y ↔ (x.1 = y.1 ∧ x.2 ≤ y.2) ∨ (x.1 ≠ y.1 ∧ LeX x.1 y.1) := by
  unfold LePI ltPI LeX
  by_cases h : x.1 = y.1
  · rw [if_pos h.symm]
    simp [h]
  · rw [if_neg fun z => h z.symm]
    simp [h]
theorem LePI.trans {x y z : PTI} (a : LePI x y) (b : LePI y z) : LePI x z := by
  rw [lePI_iff] at a b ⊢
  rcases a with ⟨a1, a2⟩ | ⟨a1, a2⟩ <;> rcases b with ⟨b1, b2⟩ | ⟨b1, b2⟩
  · exact .inl ⟨a1.trans b1, by omega⟩
  · exact .inr ⟨by rw [a1]; exact b1, by rw [a1]; exact b2⟩
  · exact .inr ⟨by rw [← b1]; exact a1, by rw [← b1]; exact a2⟩
  · refine .inr ⟨fun e => ?_, LeX.trans a2 b2⟩
    rw [← e] at b2
    exact a1 (lex_anti a2 b2)
theorem lePI_total (x y : PTI) : LePI x y ∨ LePI y x := by
  by_cases h : x.1 = y.1
  · rcases Int.le_total x.2 y.2 with k | k
    · exact .inl (lePI_iff.mpr (.inl ⟨h, k⟩))
    · exact .inr (lePI_iff.mpr (.inl ⟨h.symm, k⟩))
  · by_cases k : HT.lexLt y.1 x.1 = true
    · refine .inr (lePI_iff.mpr (.inr ⟨fun z => h z.symm, ?_⟩))
      unfold LeX
      cases q : HT.lexLt x.1 y.1 with
      | false => rfl
      | true =>
        have := (NtL.swo_lexL (α := List Int) id).asym
        first
          | exact absurd (this _ _ k) (by simp [q])
          | exact absurd k (by simp [this _ _ q])
    · exact .inl (lePI_iff.mpr (.inr ⟨h, by unfold LeX; simpa using k⟩))
theorem lePI_anti {x y : PTI} (a : LePI x y) (b : LePI y x) : x = y := by
  rw [lePI_iff] at a b
  obtain ⟨x1, x2⟩ := x
  obtain ⟨y1, y2⟩ := y
  rcases a with ⟨a1, a2⟩ | ⟨a1, a2⟩ <;> rcases b with ⟨b1, b2⟩ | ⟨b1, b2⟩ <;> simp only at a1 a2 b1 b2
  · subst a1
    rw [show x2 = y2 by omega]
  · exact absurd a1.symm b1
  · exact absurd b1.symm a1
  · exact absurd (lex_anti a2 b2) a1
theorem insPI_sorted (x : PTI) : ∀ ys : List PTI, ys.Pairwise LePI → (insPI x ys).Pairwise LePI
  | [], _ => List.pairwise_singleton _ _
  | y :: ys, h => by
    have h' := List.pairwise_cons.mp h
    unfold insPI
    split
    · rename_i hyx
      refine List.pairwise_cons.mpr ⟨fun z hz => ?_, insPI_sorted x ys h'.2⟩
      rcases List.mem_cons.mp ((insPI_perm x ys).mem_iff.mp hz) with e | hz
      · rw [e]
        rcases lePI_total y x with k | k
        · exact k
        · unfold LePI at k
          rw [k] at hyx
          cases hyx
      · exact h'.1 z hz
    · rename_i hxy
      have hxy : LePI x y := by
        unfold LePI
        simpa using hxy
      refine List.pairwise_cons.mpr ⟨fun z hz => ?_, h⟩
      rcases List.mem_cons.mp hz with e | hz
      · rw [e]; exact hxy
      · exact hxy.trans (h'.1 z hz)
theorem sortPI_sorted : ∀ xs : List PTI, (sortPI xs).Pairwise LePI
  | [] => .nil
  | x :: xs => insPI_sorted x _ (sortPI_sorted xs)
theorem sortedPI_unique : ∀ {xs ys : List PTI}, xs.Perm ys → xs.Pairwise LePI → ys.Pairwise LePI → xs = ys
  | [], ys, h, _, _ => (List.Perm.nil_eq h)
  | x :: xs, [], h, _, _ => absurd h.length_eq (by simp)
  | x :: xs, y :: ys, h, h1, h2 => by
    have a1 := List.pairwise_cons.mp h1
    have a2 := List.pairwise_cons.mp h2
    have rf : ∀ z : PTI, LePI z z := fun z => by
      rcases lePI_total z z with k | k <;> exact k
    have e : x = y := by
      have m1 : x ∈ y :: ys := h.mem_iff.mp List.mem_cons_self
      have m2 : y ∈ x :: xs := h.mem_iff.mpr List.mem_cons_self
      have l1 : LePI y x := by
        rcases List.mem_cons.mp m1 with e | m
        · rw [e]; exact rf y
        · exact a2.1 x m
      have l2 : LePI x y := by
        rcases List.mem_cons.mp m2 with e | m
        · rw [e]; exact rf x
        · exact a1.1 y m
      exact lePI_anti l2 l1
    subst e
    rw [sortedPI_unique (List.Perm.cons_inv h) a1.2 a2.2]
/-! the order of the data -/
def encPI (x : PTI) : PyData := .tuple [.tuple (x.1.map .int), .int x.2]
theorem rowLt_lex : ∀ xs ys : List Int, rowLt (xs.map .int) (ys.map .int) = HT.lexLt xs ys
  | [], [] => by
    have e : rowLt [] [] = false := lex_irrefl _
    exact e
  | [], y :: ys => by
    have := dataLt_ints [] (y :: ys)
    rw [this, HT.lexLt_nil_cons]
    simp
  | x :: xs, [] => by
    have := dataLt_ints (x :: xs) []
    rw [this, HT.lexLt_cons_nil]
    simp
  | x :: xs, y :: ys => by
    have := dataLt_ints (x :: xs) (y :: ys)
    rw [this, HT.lexLt_cons, ← rowLt_lex xs ys, dataLt_ints xs ys]
    by_cases h : x = y
    · simp [h, List.cons_lt_cons_iff]
    · simp [h, List.cons_lt_cons_iff]
theorem eqvT_ints (xs ys : List Int) : PyData.eqv (.tuple (xs.map .int)) (.tuple (ys.map .int)) = decide (xs = ys) := by
  rw [← ked_eqvAll xs ys]
  simp [PyData.eqv]
theorem dataLt_PI (x y : PTI) : dataLt (encPI x) (encPI y) = ltPI x y := by
  unfold encPI ltPI
  rw [dataLt_pair (by simpa [alike] using alike_ints x.1 y.1) (by simp [alike]), eqvT_ints, dataLt_tuple, dataLt_int]
  show (if decide (x.1 = y.1) = true then _ else rowLt (x.1.map .int) (y.1.map .int)) = _
  rw [rowLt_lex]
  by_cases h : x.1 = y.1
  · rw [if_pos h, if_pos (by simpa using h)]
    by_cases k : x.2 = y.2
    · simp [PyData.eqv, k]
    · simp [PyData.eqv, k]
  · rw [if_neg h, if_neg (by simpa using h)]
theorem merge_PI (bs : List PTI) : bs.mergeSort (dataLe false encPI) = sortPI bs := by
  have e : dataLe false encPI = fun a b => !ltPI b a := by
    funext a b
    show (!dataLt (encPI b) (encPI a)) = _
    rw [dataLt_PI]
  rw [e]
  refine sortedPI_unique ((List.mergeSort_perm _ _).trans (sortPI_perm bs).symm) ?_ (sortPI_sorted bs)
  refine List.Pairwise.imp (fun {a b} h => ?_) (List.pairwise_mergeSort (le := fun a b => !ltPI b a) (fun a b c h1 h2 => ?_) (fun a b => ?_) bs)
  · exact (show ltPI b a = false by simpa using h)
  · have h1 : LePI a b := by unfold LePI; simpa using h1
    have h2 : LePI b c := by unfold LePI; simpa using h2
    have := h1.trans h2
    unfold LePI at this
    simp [this]
  · rcases lePI_total a b with h | h <;> unfold LePI at h <;> simp [h]
def rSortPI (K : PySem.W.Frag) : List V → Hp → VK → Prop := fun vs H Q => ∃ (a : Addr) (xs : List V) (bs : List PTI) (R : V → PTI → Prop), vs = [V.ref a] ∧ SqL K H a xs ∧ All2 R xs bs ∧ (∀ x b, R x b → Dp K H x (encPI b)) ∧
  ∀ (ys : List V) (p : Addr), H p = none → All2 R ys (sortPI bs) → Q (.ref p) (upd H p (.lst ys))
theorem each_of {R : V → PTI → Prop} : ∀ {xs : List V} {us : List Value} {bs : List PTI}, Vals xs us → All2 R xs bs → EachIs (fun u b => ∃ x, RelV x u ∧ R x b) us bs
  | [], _, [], .nil, _ => .nil
  | x :: xs, _, b :: bs, .cons h t, ⟨a, r⟩ => .cons ⟨x, h, a⟩ (each_of t r)
  | [], _, _ :: _, _, z => z.elim
  | _ :: _, _, [], _, z => z.elim
theorem of_each {R : V → PTI → Prop} : ∀ {us : List Value} {bs : List PTI}, EachIs (fun u b => ∃ x, RelV x u ∧ R x b) us bs → ∃ xs, Vals xs us ∧ All2 R xs bs
  | _, _, .nil => ⟨[], .nil, True.intro⟩
  | _, _, .cons ⟨x, h, a⟩ t => by
    obtain ⟨xs, h1, h2⟩ := of_each t
    exact ⟨x :: xs, .cons h h1, a, h2⟩
theorem cr_sortPI {X : Cx} (hu : X.A.units + 65 < cLine) : CallR X (.builtin "sorted") (rSortPI X.K) := by
  intro pins s σ H vs us Q I r h
  obtain ⟨a, xs, bs, R, rfl, hs, hR, hT, q⟩ := h
  obtain ⟨its, rv, hl, hz⟩ := I.list hs
  rw [Vals.ref1 r]
  have e1 := each_of rv hR
  have lb : bs.length = xs.length := (All2.length hR).symm
  have dp : ∀ b : PTI, (encPI b).depth ≤ 2 := fun b => by
    simp [encPI, PyData.depth, PyData.depthAll, depth_ints]
  refine sorted_data (R := fun u b => ∃ x, RelV x u ∧ R x b) (enc := encPI) hl.isList e1 (e1.mono fun u b ⟨x, h1, h2⟩ => Dp.reads I _ x u (hT x b h2) h1) (AllAlike.of fun b b' => by simpa [encPI, alike, alikeAll] using alike_ints b.1 b'.1) (Sortable.tuples fun b => ⟨_, _, rfl⟩) (by rw [lb]; exact hz) (fun b _ => by have := dp b; omega) fun out lo eo => ?_
  rw [merge_PI] at eo
  obtain ⟨ys, v1, v2⟩ := of_each eo
  obtain ⟨ep, he'⟩ := PyProof.Rows.sortedAll_at s.heap its out.toArray
  have hlen : ys.length ≤ sizeLine := by
    rw [v1.length, lo, lb]
    exact hz
  exact ⟨.ref _, upd H (s.heap.objs.size + 1) (.lst ys), I.laid (t' := s.toks) (fun _ _ => PyProof.Rows.sortedAll_old) (Nat.le_succ _) ⟨hlen, out, ep, v1, by simpa using he'⟩, rfl, q _ _ (I.hok.fresh (Nat.le_succ _)) v2⟩
section
variable {X : Cx} {C : Cs} {env : Gh → List Sl} {a : Expr} {pos p : Pos} {k : Bool} {mx : W (List PTI)}
theorem xn_sortedPI (hu : X.A.units + 65 < cLine) (hg : Gl X "sorted") (hm : X.mg "sorted" = none) (ha : PE X a (tQ C env true (qP (qT qI) qI) mx)) (hs : starEach [a] X.env = (false, eval a X.env) :: starEach [] X.env := by rfl) :
    PE X (.Call (.Name "sorted" p) [a] [] pos) (tN C env (qP (qT qI) qI) (mx.bind fun xs => .ret (sortPI xs))) :=
  pe_imp (pe_callB (cr_sortPI hu) hg hm (by decide +kernel) (pa_cons ha pa_nil hs) (by decide) (by decide) hs (by rfl)) fun σ H Q _ ⟨S, g0, P, F, em, kk⟩ => ⟨S, g0, _, F, em, fun xs g1 pz p S1 H1 F1 x1 rd => by
    obtain ⟨vs, hp, h2⟩ := rd _ S1 H1 F1 (Ex.refl S1)
    exact ⟨p, vs, xs, (qP (qT qI) qI).p S1, rfl, SqL.of hp, h2, fun x b h => (dP (dT dI) dI).rep ((qP (qT qI) qI).mono F1.e1 h), fun ys q hq hy _ => kk _ _ pz q _ S1 H1 F1 x1 hq hy⟩⟩
end
end Rt

set_option maxRecDepth 100000
set_option maxHeartbeats 4000000
/-! RtTh: a def as an argument; a dict of what a def gave, handed on and changed by another def. -/
namespace Rt
open PySem L2 Rt PyProof.Rows
/-- the def that the name has at the top -/
def qFn (mg : Str → Option Value) (x : Str) : Rp Unit := ⟨fun _ v _ => ∃ fa, v = .ref fa ∧ mg x = some (.ref fa), fun _ h => h⟩
def W.grd (p : Prop) : W Unit := fun g P => p ∧ P () g
def Good {κ β : Type} (mw : List κ × (κ → Option β)) (d : List (κ × β)) : Prop := (∀ e ∈ d, mw.2 e.1 = some e.2) ∧ (d.map (·.1)).Nodup ∧ ∀ k ∈ d.map (·.1), k ∈ mw.1
/-- a dict of one's own at a known address -/
def oTa (P : Program) (w : World) {κ β : Type} [DecidableEq κ] {rk : Rp κ} (E : Kx rk) (rv : Rp β) (a0 : Addr) : Og (List (κ × β)) := ⟨fun H u d => ∃ L, u = DTO P w a0 L ∧ All2 (EnT E rv H) L d, fun e ⟨L, h1, h2⟩ => ⟨L, h1, h2.mono fun _ _ z => z.mono e⟩⟩
/-- what it holds is what mw gives; its address -/
def oMa (P : Program) (w : World) {κ β : Type} [DecidableEq κ] {rk : Rp κ} (E : Kx rk) (rv : Rp β) (mw : List κ × (κ → Option β)) (a0 : Addr) : Og Unit := ⟨fun H u _ => ∃ d, Good mw d ∧ (oTa P w E rv a0).p H u d, fun e ⟨d, h1, h2⟩ => ⟨d, h1, (oTa P w E rv a0).mono e h2⟩⟩
def oMe (P : Program) (w : World) {κ β : Type} [DecidableEq κ] {rk : Rp κ} (E : Kx rk) (rv : Rp β) (mw : List κ × (κ → Option β)) : Og Unit := ⟨fun H u _ => ∃ a0, (oMa P w E rv mw a0).p H u (), fun e ⟨a0, h⟩ => ⟨a0, (oMa P w E rv mw a0).mono e h⟩⟩
section
variable {C : Cs} {S S' H H' : Hp} {σ : L2.St} {env : List Sl}
theorem Fr.reOb (F : Fr C S H σ env) {i : Nat} {α β : Type} {q : Og α} {q' : Og β} {a : α} {b : β} (hi : env[i]? = some (.ob q a)) (h : ∀ p u, σ[i]? = some (some (.ref p)) → H p = some u → q.p S u a → q'.p S u b) : Fr C S H σ (env.set i (.ob q' b)) := by
  obtain ⟨v, ev, p, u, e1, sp, hp, ha⟩ := F.sl.get i hi
  subst e1
  have eo : owns σ (env.set i (.ob q' b)) = owns σ env := owns_same hi ev rfl rfl
  exact ⟨F.e0, F.e1, F.e2, F.nw, F.al, F.sl.setEnv i ev ⟨p, u, rfl, sp, hp, h p u ev hp ha⟩, by rw [eo]; exact F.ow, by rw [eo]; exact F.nd, F.tc⟩
end
section
variable {X : Cx} {C : Cs} {env kp : Gh → List Sl} {e a b c : Expr} {A rest : List Stmt} {pos p px : Pos} {κ α β γ δ ρ : Type} [DecidableEq κ] {r : Rp ρ} {rk : Rp κ} {E : Kx rk} {rv : Rp δ} {mw : List κ × (κ → Option δ)} {pn : β → Gh → List Sl} {pl : γ → Gh → List Sl} {i j : Nat}
theorem xs_weak {m m' : W (Fl ρ β γ)} (hm : ∀ g P, m g P → m' g P) (hr : PSs X A (tF C env m' pn pl kp r)) : PSs X A (tF C env m pn pl kp r) :=
  pss_imp hr fun D σ H _ ⟨S, g0, P, F, em, q⟩ => ⟨S, g0, P, F, hm _ _ em, q⟩
theorem xs_unhide (i : Nat) {a0 : Addr} {m : W (Fl ρ β γ)} (hr : ∀ d, Good mw d → PSs X A (tF C (fun g => (env g).set i (.ob (oTa X.prog X.w E rv a0) d)) m pn pl kp r)) (hi : ∀ g, (env g)[i]? = some (.ob (oMa X.prog X.w E rv mw a0) ()) := by intro _; rfl) : PSs X A (tF C env m pn pl kp r) :=
  pss_imp (pss_ex fun d : { d // Good mw d } => hr d.1 d.2) fun D σ H _ ⟨S, g0, P, F, em, q⟩ => by
    obtain ⟨v, ev, p, u, e1, sp, hp, d, hd, ha⟩ := F.sl.get i (hi g0)
    subst e1
    exact ⟨⟨d, hd⟩, S, g0, P, F.reOb (q' := oTa X.prog X.w E rv a0) (b := d) (hi g0) (fun p' u' e' h' _ => by
      rw [ev] at e'
      cases e'
      rw [hp] at h'
      cases h'
      exact ha), em, q⟩
theorem xs_hide (i : Nat) {a0 : Addr} {d : List (κ × δ)} {m : W (Fl ρ β γ)} (hr : PSs X A (tF C (fun g => (env g).set i (.ob (oMa X.prog X.w E rv mw a0) ())) m pn pl kp r)) (hi : ∀ g, (env g)[i]? = some (.ob (oTa X.prog X.w E rv a0) d) := by intro _; rfl) : PSs X A (tF C env ((W.grd (Good mw d)).bind fun _ => m) pn pl kp r) :=
  pss_imp hr fun D σ H _ ⟨S, g0, P, F, ⟨hd, em⟩, q⟩ => ⟨S, g0, P, F.reOb (q' := oMa X.prog X.w E rv mw a0) (b := ()) (hi g0) fun p u _ _ h => ⟨d, hd, h⟩, em, q⟩
theorem xs_hide0 (i : Nat) {m : W (Fl ρ β γ)} (hr : PSs X A (tF C (fun g => (env g).set i (.ob (oMe X.prog X.w E rv mw) ())) m pn pl kp r)) (hi : ∀ g, (env g)[i]? = some (.ob (oTb X.prog X.w E rv) []) := by intro _; rfl) : PSs X A (tF C env m pn pl kp r) :=
  pss_imp hr fun D σ H _ ⟨S, g0, P, F, em, q⟩ => ⟨S, g0, P, F.reOb (q' := oMe X.prog X.w E rv mw) (b := ()) (hi g0) fun p u _ _ ⟨a, L, h1, h2⟩ => ⟨a, [], ⟨(fun _ h => nomatch h), List.nodup_nil, (fun _ h => nomatch h)⟩, L, h1, h2⟩, em, q⟩
/-- the def's name as a value -/
theorem xe_fn {x : Str} (hg : Gl X x) (hm : ∃ fa, X.mg x = some (.ref fa)) (hd : (x == ("__debug__" : Str)) = false := by decide) : PE X (.Name x pos) (tE C env (qFn X.mg x) (.ret ())) := by
  obtain ⟨fa, hm⟩ := hm
  refine ⟨fun pins s σ H Q I ⟨S, g0, P, F, em, q⟩ => ld_glob I hg hm ⟨.ref fa, H, I, rfl, q () g0 em (.ref fa) S H F (Ex.refl S) ⟨fa, rfl, hm⟩⟩ hd⟩
end
section
variable {X : Cx} {C : Cs} {env kp : Gh → List Sl} {e a b c : Expr} {A rest : List Stmt} {pos p px : Pos} {κ α β γ δ ρ : Type} [DecidableEq κ] {r : Rp ρ} {rk : Rp κ} {E : Kx rk} {rv : Rp δ} {mk : W κ} {mv : W δ} {md : W (List (κ × δ))} {pn : β → Gh → List Sl} {pl : γ → Gh → List Sl} {i j : Nat}
theorem xs_putA {x : Str} {a0 : Addr} {ps : Pos} {d : List (κ × δ)} {K : List (κ × δ) → W (Fl ρ β γ)} (hu : X.A.units + 9 < cLine) (hv : PE X e (tE C env rv mv)) (hd : PE X (.Name x px) (tVar i)) (hb : PE X b (tE C env rk mk)) (hr : ∀ ys, PSs X rest (tF C (fun g => (env g).set i (.ob (oTa X.prog X.w E rv a0) ys)) (K ys) pn pl kp r)) (hi : ∀ g, (env g)[i]? = some (.ob (oTa X.prog X.w E rv a0) d) := by intro _; rfl)
    (ha : ∀ v, assign (.Subscript (.Name x px) b ps) X.env v = (do
      let ov ← holding [v] (eval (.Name x px) X.env)
      let iv ← holding [v, ov] (eval b X.env)
      standAt ps
      holding [v, ov, iv] (setItem ov iv v)
      release [v, ov, iv] []) := by intro _; rfl)
    (hs : swapsWithSole [.Subscript (.Name x px) b ps] e pos.line X.env = pure false := by rfl) (hw : swappedStores [.Subscript (.Name x px) b ps] e X.env = pure none := by rfl) (h1 : (assignEach [.Subscript (.Name x px) b ps] X.env).map (·.2) = [assign (.Subscript (.Name x px) b ps) X.env] := by rfl) :
    PSs X (.Assign [.Subscript (.Name x px) b ps] e pos :: rest) (tF C env (mv.bind fun v => mk.bind fun k => (ofO (tputC d k v)).bind K) pn pl kp r) :=
  pss_imp (pss_cons (ps_asg hv (pg_sub hd hb (set_putT hu) ha) hs hw h1) (pss_ex hr)) fun D σ H _ ⟨S, g0, P, F, em, q⟩ => ⟨S, g0, _, F, em, fun v g1 pv u S1 H1 F1 x1 hu => by
    obtain ⟨w1, ew1, p1, u1, e1, sp1, hp1, _⟩ := F1.sl.get i (hi _)
    subst e1
    refine ⟨.ref p1, ew1, S1, g1, _, F1, pv, fun k g2 ⟨ys, ey, py⟩ y S2 H2 F2 x2 hy => ?_⟩
    obtain ⟨w2, ew2, p2, u2, e2, sp2, hp2, L, eu2, hL⟩ := F2.sl.get i (hi _)
    subst e2
    rw [ew1] at ew2
    cases ew2
    subst eu2
    unfold tputC at ey
    split at ey
    case isFalse => cases ey
    rename_i hl
    cases ey
    obtain ⟨b2, eb, hb2⟩ := key_at E hy
    have hlen := All2.length hL
    refine ⟨p1, a0, L, b2, E.kv.enc k, rfl, eb, hp2, kysA F2.e1 hL, E.at (rk.mono F2.e1 hb2), by rw [sizeLine_eq]; omega, tput d k v, S2, g2, P, ?_, py, fun o g9 po => (q o g9 po).mono (x1.trans x2)⟩
    exact F2.writeOb (hi _) ew1 ⟨_, rfl, putT_data hL hb2 (rv.mono x2 hu)⟩ (fun _ z => nomatch z)⟩
theorem xe_subA {x : Str} {a0 : Addr} {d : List (κ × δ)} (hu : X.A.units + 9 < cLine) (hd : PE X (.Name x px) (tVar i)) (hb : PE X b (tE C env rk mk)) (hi : ∀ g, (env g)[i]? = some (.ob (oTa X.prog X.w E rv a0) d) := by intro _; rfl) (hs : NoSl b := by intro _ _; rfl) : PE X (.Subscript (.Name x px) b pos) (tE C env rv (mk.bind fun k => ofO (tget d k))) :=
  pe_imp (pe_subT hu hd hb hs) fun σ H Q _ ⟨S, g0, P, F, em, kk⟩ => by
    obtain ⟨w1, ew1, p1, u1, e1, sp1, hp1, L1, eu1, _⟩ := F.sl.get i (hi _)
    subst e1 eu1
    refine ⟨.ref p1, ew1, S, g0, _, F, em, fun k g1 ⟨v, ev, pv⟩ y S1 H1 F1 x1 hy => ?_⟩
    obtain ⟨w2, ew2, p2, u2, e2, sp2, hp2, L, eu2, hL⟩ := F1.sl.get i (hi _)
    subst e2
    rw [ew1] at ew2
    cases ew2
    subst eu2
    obtain ⟨b2, eb, hb2⟩ := key_at E hy
    subst eb
    obtain ⟨x, ex, hx⟩ := (valT_rel k hL).1 v ev
    exact ⟨p1, a0, L, b2, E.kv.enc k, x, rfl, rfl, .of hp2, kysA F1.e1 hL, E.at (rk.mono F1.e1 hb2), ex, fun _ => kk _ _ pv _ S1 H1 F1 x1 hx⟩
theorem xe_ninA {x : Str} {a0 : Addr} {d : List (κ × δ)} (hu : X.A.units + 9 < cLine) (hb : PE X b (tE C env rk mk)) (hd : PE X (.Name x px) (tVar i)) (hi : ∀ g, (env g)[i]? = some (.ob (oTa X.prog X.w E rv a0) d) := by intro _; rfl) (hm : behindInMarks .NotIn (.Name x px) = false := by rfl) :
    PE X (.Compare b [.NotIn] [.Name x px] pos) (tE C env qB (mk.bind fun k => .ret (!(tget d k).isSome))) :=
  pe_imp (pe_cmpR (op_ninDT hu) hb hd hm) fun σ H Q _ ⟨S, g0, P, F, em, kk⟩ => ⟨S, g0, _, F, em, fun k g1 pk y S1 H1 F1 x1 hy => by
    obtain ⟨w2, ew2, p2, u2, e2, sp2, hp2, L, eu2, hL⟩ := F1.sl.get i (hi _)
    subst e2 eu2
    obtain ⟨b2, eb, hb2⟩ := key_at E hy
    subst eb
    exact ⟨.ref p2, ew2, p2, a0, L, b2, E.kv.enc k, rfl, rfl, .of hp2, kysA F1.e1 hL, E.at (rk.mono F1.e1 hb2), by rw [if_neg (by decide), someT_rel k hL]; exact fun _ => kk _ _ pk _ S1 H1 F1 x1 rfl⟩⟩
end
end Rt

set_option maxRecDepth 100000
set_option maxHeartbeats 4000000
/-! RtTi: calls of a def handed on; defs that change a hidden dict. -/
namespace Rt
open PySem L2 Rt PyProof.Rows
section
variable {X : Cx} {π : Around → Prop} {CX : CXT} {k : Nat} {f : Addr} {fd : FuncData} {ps : List Str} {sp : Sp} {dvs : List V} {ds : List Value} {E : XK} {x : Str} {p pos : Pos} {e : Expr} {es : List Expr} {t : TA} {i : Nat}
theorem pe_callLP (F : FnP π X.prog X.w X.K X.mg X.base CX k f fd ps sp) (hp : π X.A) (hr : Room k X.A) (hN : X.N[i]? = some x) (hv : Vis X.env.scope x) (hk : PySem.W.keepIn X.K (.ref f) = true) (hb : Binds X.K fd ps ds) (hd : Vals dvs ds) (hx : Passes CX X E) (ha : PA X (e :: es) t)
    (hdb : (x == ("__debug__" : Str)) = false := by decide) (hcd : (x == ("__classdict__" : Str)) = false := by decide)
    (he : starEach (e :: es) X.env = (false, eval e X.env) :: starEach es X.env := by rfl) (hpl : (backTo pos (starEach es X.env)).any (·.1) = false := by rfl) : PE X (.Call (.Name x p) (e :: es) [] pos) (tCallL i f sp dvs E t) := by
  refine ⟨fun pins s σ H Q I h => ?_⟩
  obtain ⟨hs, ht⟩ := h
  refine wpAny_Call_Name_kw (thn ((pe_var (pos := p) hN hv hdb hcd).run pins s σ H (fun v H1 => v = .ref f ∧ H1 = H) I ⟨.ref f, hs, rfl, rfl⟩) fun u s1 ⟨v, H1, I1, r1, q1⟩ => ?_)
  obtain ⟨rfl, rfl⟩ := q1
  cases r1
  refine PySem.W.callWith_K (h₀ := X.base) I.ok.mod.kin hk (thn (ha.run pos pins s1 σ _ _ I1 ht) fun us s2 ⟨vs, H2, I2, r, q⟩ => ⟨I2.kIn, ?_⟩) he hpl
  exact run_fnP F hp hr hb hd hx I2 r q
end
/-- behind a call that changes the hidden object -/
def PostK {ρ : Type} (q : Og Unit) (d : Addr) (S H : Hp) (r : Rp ρ) (o : ρ) (Q : VK) : Prop := ∀ v S' H' u', Ex S S' → Ex S' H' → (∀ b u, H b = some u → b ≠ d → H' b = some u) → H' d = some u' → q.p S' u' () → S' d = none → (∀ b, S b = none → H b ≠ none → S' b = none) → Tc S' H' → r.p S' v o → Q v H'
/-- f(.., object) gives what f gives, and changes the object alone -/
def SpK {α ρ : Type} (q : Og Unit) (ra : Ra α) (r : Rp ρ) (f : α → Option ρ) : Sp := fun vs H Q _ => ∃ S a d ws u o, vs = ws ++ [.ref d] ∧ Ex S H ∧ Tc S H ∧ S d = none ∧ H d = some u ∧ q.p S u () ∧ ra.p S ws a ∧ f a = some o ∧ PostK q d S H r o Q
section
variable {X : Cx} {C : Cs} {env kp : Gh → List Sl} {e : Expr} {es : List Expr} {A rest : List Stmt} {pos p px : Pos} {α ρ : Type} {r : Rp ρ} {ra : Ra α} {f : α → Option ρ} {m : W α} {i n : Nat} {q : Og Unit}
theorem xe_callLoc {π : Around → Prop} {j k : Nat} {ps : List Str} {x y : Str} (h : Has X.prog X.w X.K X.mg X.base π y j ps (SpF ra r f)) (hpi : π X.A) (hr : Room k X.A) (hj : j ≤ k) (hN : X.N[i]? = some x) (hv : Vis X.env.scope x)
    (ha : PA X (e :: es) (tA C env ra m)) (hi : ∀ g, (env g)[i]? = some (.im (qFn X.mg y) ()) := by intro _; rfl) (hdb : (x == ("__debug__" : Str)) = false := by decide) (hcd : (x == ("__classdict__" : Str)) = false := by decide) (he : starEach (e :: es) X.env = (false, eval e X.env) :: starEach es X.env := by rfl) (hpl : (backTo pos (starEach es X.env)).any (·.1) = false := by rfl) :
    PE X (.Call (.Name x p) (e :: es) [] pos) (tE C env r (m.bind fun a => ofO (f a))) := by
  obtain ⟨fa, fd, F, hm, hk, hb⟩ := h
  refine pe_imp (pe_callLP F hpi (hr.mono hj) hN hv hk hb .nil pass0 ha hdb hcd he hpl) fun σ H Q _ ⟨S, g0, P, Fr1, em, kk⟩ => ?_
  obtain ⟨v, ev, w, ew, fa', e1, e2⟩ := Fr1.sl.get i (hi g0)
  subst ew e1
  rw [hm] at e2
  cases e2
  refine ⟨ev, S, g0, _, Fr1, em, fun a g1 ⟨o, eo, po⟩ vs S1 H1 F1 x1 hv => ?_⟩
  show SpF ra r f (vs ++ []) H1 _ E0
  rw [List.append_nil]
  exact ⟨S1, a, o, F1.e1, F1.tc, hv, eo, fun v S' H' eS eH eHH n t hr' _ => kk o g1 po v S' H' (F1.call eS eH eHH n t) (x1.trans eS) hr'⟩
/-- the arguments, the hidden object behind them -/
def tAK (C : Cs) (env : Gh → List Sl) (i : Nat) (ra : Ra α) (m : W α) : TA := fun σ H Q => ∃ S g P, Fr C S H σ (env g) ∧ m g P ∧ ∀ a g', P a g' → ∀ ws d S' H', Fr C S' H' σ (env g') → Ex S S' → σ[i]? = some (some (.ref d)) → ra.p S' ws a → Q (ws ++ [.ref d]) H'
theorem xk_nil {x : Str} (hd : PE X (.Name x px) (tVar i)) (hs : starEach [.Name x px] X.env = (false, eval (.Name x px) X.env) :: starEach [] X.env := by rfl) (hi : ∀ g, (env g)[i]? = some (.ob q ()) := by intro _; rfl) : PA X [.Name x px] (tAK C env i q0 (.ret ())) :=
  pa_imp (pa_cons hd pa_nil hs) fun σ H Q _ ⟨S, g0, P, F, em, k⟩ => by
    obtain ⟨v, ev, d, u, e1, sp, hp, ha⟩ := F.sl.get i (hi g0)
    subst e1
    exact ⟨.ref d, ev, fun _ => k () _ em [] d S H F (Ex.refl S) ev rfl⟩
theorem xk_cons {β : Type} {rb : Rp β} {mb : W β} {mq : W α} (h : PE X e (tE C env rb mb)) (hr : PA X es (tAK C env i ra mq)) (hs : starEach (e :: es) X.env = (false, eval e X.env) :: starEach es X.env := by rfl) : PA X (e :: es) (tAK C env i (qC rb ra) (mb.bind fun x => mq.bind fun y => .ret (x, y))) :=
  pa_imp (pa_cons h hr hs) fun σ H Q _ ⟨S, g0, P, F, em, k⟩ => ⟨S, g0, _, F, em, fun x g1 hx v S1 H1 F1 x1 hv => ⟨S1, g1, _, F1, hx, fun y g2 py ws d S2 H2 F2 x2 hd hvs _ => k _ _ py (v :: ws) d S2 H2 F2 (x1.trans x2) hd ⟨v, ws, rfl, rb.mono x2 hv, hvs⟩⟩⟩
theorem xe_callK {π : Around → Prop} {j k : Nat} {ps : List Str} {x : Str} (h : Has X.prog X.w X.K X.mg X.base π x j ps (SpK q ra r f)) (hpi : π X.A) (hr : Room k X.A) (hj : j ≤ k) (hg : Gl X x)
    (ha : PA X (e :: es) (tAK C env i ra m)) (hi : ∀ g, (env g)[i]? = some (.ob q ()) := by intro _; rfl) (hdb : (x == ("__debug__" : Str)) = false := by decide) (he : starEach (e :: es) X.env = (false, eval e X.env) :: starEach es X.env := by rfl) (hpl : (backTo pos (starEach es X.env)).any (·.1) = false := by rfl) :
    PE X (.Call (.Name x p) (e :: es) [] pos) (tE C env r (m.bind fun a => ofO (f a))) := by
  obtain ⟨fa, fd, F, hm, hk, hb⟩ := h
  refine pe_imp (pe_callP F hpi (hr.mono hj) hg hm hk hb .nil pass0 ha hdb he hpl) fun σ H Q _ ⟨S, g0, P, Fr1, em, kk⟩ => ⟨S, g0, _, Fr1, em, fun a g1 ⟨o, eo, po⟩ ws d S1 H1 F1 x1 hd hv => ?_⟩
  show SpK q ra r f ((ws ++ [.ref d]) ++ []) H1 _ E0
  rw [List.append_nil]
  obtain ⟨v, ev, d', u, e1, sp, hp, hq⟩ := F1.sl.get i (hi g1)
  subst e1
  rw [hd] at ev
  cases ev
  refine ⟨S1, a, d, ws, u, o, rfl, F1.e1, F1.tc, sp, hp, hq, hv, eo, fun v S' H' u' eS eH eHH hd' hq' sd' n t hr' _ => ?_⟩
  have m0 : d ∈ owns σ (env g1) := owns_mem_get i (hi g1) hd rfl
  -- the object as it will be, first
  have F2 := F1.writeToT (q' := (⟨fun _ w _ => w = u', fun _ h => h⟩ : Og Unit)) (u := u') (a := ()) (hi g1) hd rfl (fun vs z => by
    subst z
    exact absurd sd' (t d vs hd'))
  have F3 := F2.call eS eH (fun b w hb => ?_) (fun b s0 h0 => ?_) t
  · have hlt : i < (env g1).length := by
      rcases Nat.lt_or_ge i (env g1).length with h | h
      · exact h
      · have := hi g1
        rw [List.getElem?_eq_none h] at this
        cases this
    have F4 := F3.reOb (q' := q) (b := ()) (i := i) (List.getElem?_set_self hlt) (fun p' w e' h' _ => by
      rw [hd] at e'
      cases e'
      rw [hd'] at h'
      cases h'
      exact hq')
    rw [List.set_set, show (env g1).set i (.ob q ()) = env g1 from by
      refine List.ext_getElem? fun j => ?_
      by_cases z : i = j
      · subst z
        rw [List.getElem?_set_self hlt, hi g1]
      · rw [List.getElem?_set_ne z]] at F4
    exact kk o g1 po v S' H' F4 (x1.trans eS) hr'
  · by_cases z : b = d
    · subst z
      rw [upd_same] at hb
      cases hb
      exact hd'
    · rw [upd_ne z] at hb
      exact eHH b w hb z
  · by_cases z : b = d
    · rw [z]
      exact sd'
    · rw [upd_ne z] at h0
      exact n b s0 h0
end
end Rt

set_option maxRecDepth 100000
set_option maxHeartbeats 4000000
/-! RtTj: a def that changes a hidden dict. -/
namespace Rt
open PySem L2 Rt PyProof.Rows
/-- a dict says its own address -/
def TAdr (P : Program) (w : World) (H : Hp) : Prop := ∀ p a L, H p = some (DTO P w a L) → p = a
theorem pss_adr {X : Cx} {A : List Stmt} {t : TS} (h : PSs X A t) : PSs X A (fun D σ H => t { D with rt := fun v H' => TAdr X.prog X.w H' → D.rt v H' } σ H) := by
  refine ⟨fun pins s σ H D I q => thn (h.run pins s σ H _ I q) fun f s' r => ?_⟩
  cases f with
  | next => exact r
  | brk => exact r
  | cont => exact r
  | ret u =>
    obtain ⟨v, σ', H', J, rv, z⟩ := r
    exact ⟨v, σ', H', J, rv, z fun p a L hp => (dto_at J (.of hp)).1⟩
theorem pss_adr0 {X : Cx} {A : List Stmt} {t : TS} (h : PSs X A t) : PSs X A (fun D σ H => TAdr X.prog X.w H → t D σ H) :=
  ⟨fun pins s σ H D I q => h.run pins s σ H D I (q fun p a L hp => (dto_at I (.of hp)).1)⟩
section
variable {P : Program} {w : World} {K : PySem.W.Frag} {mg : Str → Option Value} {base : Heap} {α ρ : Type} {p : Pr α} {N ps : List Str} {k : Nat} {st : Stmt} {x qual : Str} {f : Addr} {fd : FuncData} {β γ κ δ : Type} [DecidableEq κ] {r : Rp ρ} {rk : Rp κ} {E : Kx rk} {rv : Rp δ} {mw : List κ × (κ → Option δ)}
theorem body_ofK {X : Cx} {body : List Stmt} {j : Nat} {g : α → Option ρ} {env : α → Addr → List Sl} {m : α → W (Fl ρ β γ)} {pn : β → Gh → List Sl} {pl : γ → Gh → List Sl} {vs : List V} {H : Hp} {Q : VK} {E' : XK} (hP : X.prog = P) (hw : X.w = w) (h : SpK (oMe P w E rv mw) p.ra r g vs H Q E') (hg : ∀ a, ofO (g a) = rtOf (m a)) (hN : N.length = p.n + 1 + j)
    (he : ∀ a d, env a d = p.sl a ++ (.ob (oMa P w E rv mw d) () :: List.replicate j .un))
    (hb : ∀ (C : Cs) (d : Addr) (a : α), C.A0 = [d] → PSs X body (tF C (fun _ => env a d) (m a) pn pl (fun _ => p.sl a ++ [.ob (oMa P w E rv mw d) ()]) r)) :
    ∃ t, PSs X body t ∧ t { nx := fun _ H' => Q .non H', rt := Q } (L2.start N vs) H := by
  subst hP hw
  obtain ⟨S, a, d, ws, u, o, ev, e, t, sd, hd, hq, hv, eo, kk⟩ := h
  subst ev
  obtain ⟨q1, q2, q3⟩ := p.ok (H := H) hv
  have hm : rtOf (m a) [] (fun x _ => x = o) := by
    rw [← hg a]
    exact ⟨o, eo, rfl⟩
  refine ⟨_, pss_adr0 (pss_adr (hb ⟨[d], S, H⟩ d a rfl)), fun ta => ?_⟩
  have es : L2.start N (ws ++ [.ref d]) = ws.map some ++ (some (.ref d) :: List.replicate j none) := by
    unfold L2.start
    rw [List.length_append, q3, hN, List.map_append, List.append_assoc, show p.n + 1 + j - (p.n + [V.ref d].length) = j by simp]
    rfl
  obtain ⟨a0, dd, hG, L, eu, hA⟩ := hq
  subst eu
  have ea : d = a0 := ta d a0 L hd
  subst ea
  obtain ⟨u1, u2⟩ := SlAll.unN (S := S) (H := H) j
  have sl2 : SlAll S H (some (.ref d) :: List.replicate j none) (.ob (oMa X.prog X.w E rv mw d) () :: List.replicate j Sl.un) := ⟨⟨d, _, rfl, sd, hd, dd, hG, L, rfl, hA⟩, u1⟩
  have ow : owns (ws.map some ++ (some (.ref d) :: List.replicate j none)) (p.sl a ++ (.ob (oMa X.prog X.w E rv mw d) () :: List.replicate j Sl.un)) = [d] := by
    rw [owns_cat q1, q2]
    show ownOf (some (.ref d)) (Sl.ob (oMa X.prog X.w E rv mw d) ()) ++ owns (List.replicate j none) (List.replicate j Sl.un) = [d]
    rw [u2]
    rfl
  rw [es]
  refine ⟨S, [], _, ?_, hm, fun w' g' pw => ?_⟩
  · show Fr ⟨[d], S, H⟩ S H _ (env a d)
    rw [he a d]
    exact ⟨Ex.refl S, e, fun _ _ h _ => h, fun _ h _ => h, fun _ h => h, q1.cat sl2, fun b hb => .inr (by rw [ow] at hb; exact hb), by rw [ow]; simp, t⟩
  cases w' with
  | rt y =>
    have pw : y = o := pw
    subst pw
    refine fun v S' H' σ' F x hr' ta' => ?_
    have hlen : (p.sl a).length = p.n := by
      have := q1.len
      rw [List.length_map, q3] at this
      exact this.symm
    obtain ⟨z, ez, d', u', e1, sp', hp', dd', hG', L', eu', hA'⟩ := F.sl.get p.n (s := .ob (oMa X.prog X.w E rv mw d) ()) (by rw [List.getElem?_append_right (by omega), hlen, Nat.sub_self]; rfl)
    subst e1 eu'
    have ed : d' = d := ta' d' d L' hp'
    subst ed
    exact kk v S' H' _ F.e0 F.e1 (fun b u e n => F.e2 b u e (by simpa using n)) hp' ⟨d', dd', hG', L', rfl, hA'⟩ sp' F.nw F.tc hr'
  | nx _ => exact pw.elim
  | br _ => exact pw.elim
  | ct _ => exact pw.elim
/-- .. a def whose last parameter is the hidden dict -/
theorem fn_okK {π : Around → Prop} {g : α → Option ρ} {env : α → Addr → List Sl} {m : α → W (Fl ρ β γ)} {pn : β → Gh → List Sl} {pl : γ → Gh → List Sl} (j : Nat) (sπ : Stb π) (F : Fun K x qual st f fd) (S : FnScope N ps (defScope st)) (hn : p.n + 1 = ps.length) (hN : N.length = ps.length + j) (he : ∀ a d, env a d = p.sl a ++ (.ob (oMa P w E rv mw d) () :: List.replicate j .un))
    (hb : ∀ (cdv : Value) (A : Around) (outer : List Env) (s : Shared) (H : Hp) (E' : XK), π (A.deeper (PyProof.Rows.envOfC qual (defScope st) s.heap.objs.size f cdv)) → Room k (A.deeper (PyProof.Rows.envOfC qual (defScope st) s.heap.objs.size f cdv)) → ∀ (C : Cs) (d : Addr) (a : α), C.A0 = [d] → PSs (cxOf CX0 P w K mg base N qual (defScope st) f cdv A outer s H E').nox (defBody st) (tF C (fun _ => env a d) (m a) pn pl (fun _ => p.sl a ++ [.ob (oMa P w E rv mw d) ()]) r))
    (hg : ∀ a, ofO (g a) = rtOf (m a)) : FnP π P w K mg base CX0 (k + 1) f fd ps (SpK (oMe P w E rv mw) p.ra r g) := by
  refine funP_ok sπ F S (fun vs H Q E h => ?_) (fun cdv A outer s H vs Q E' hp hr h => ?_)
  · obtain ⟨_, _, _, ws, _, _, ev, _, _, _, _, _, hv, _⟩ := h
    rw [ev, List.length_append, (p.ok (H := H) hv).2.2, ← hn]
    rfl
  · exact body_ofK (E' := E') rfl rfl h hg (by rw [hN, ← hn]) he (hb cdv A outer s H E' hp hr)
end
section
variable {X : Cx} {C : Cs} {env kp : Gh → List Sl} {A : List Stmt} {κ κ' β γ δ δ' ρ : Type} [DecidableEq κ] [DecidableEq κ'] {r : Rp ρ} {rk : Rp κ} {E : Kx rk} {rv : Rp δ} {rk' : Rp κ'} {E' : Kx rk'} {rv' : Rp δ'} {pn : β → Gh → List Sl} {pl : γ → Gh → List Sl}
/-- a dict changed no more, the hidden one stands by -/
theorem xs_lkTA (i j : Nat) {d : Addr} {a : List (κ × δ)} {dd : List (κ' × δ')} {m : W (Fl ρ β γ)} (hA : C.A0 = [d]) (hr : PSs X A (tF C (fun g => (env g).set i (.im (qTb X.prog X.w E rv) a)) m pn pl kp r)) (hi : ∀ g, (env g)[i]? = some (.ob (oTb X.prog X.w E rv) a) := by intro _; rfl) (hj : ∀ g, (env g)[j]? = some (.ob (oTa X.prog X.w E' rv' d) dd) := by intro _; rfl) (hne : i ≠ j := by decide) : PSs X A (tF C env m pn pl kp r) :=
  pss_imp (pss_adr0 (pss_lk hr)) fun D σ H _ ⟨S, g0, P, F, em, q⟩ => fun ta => by
    obtain ⟨v2, ev2, d2, u2, e2, sp2, hp2, L2, eu2, _⟩ := F.sl.get j (hj _)
    subst e2 eu2
    have ed : d2 = d := ta d2 d L2 hp2
    subst ed
    obtain ⟨p, u, hp, mu, h⟩ := lkT_at F (hi _) fun p hp z => by
      rw [hA] at z
      have z : p = d2 := by simpa using z
      subst z
      exact hne (owns_inj F.nd (hi g0) hp rfl (hj g0) ev2 rfl)
    refine ⟨p, u, hp, mu, fun od => ?_⟩
    obtain ⟨S', x1, F2⟩ := h od
    exact ⟨S', g0, P, F2, em, fun o g9 po => (q o g9 po).mono x1⟩
end
end Rt

set_option maxRecDepth 100000
set_option maxHeartbeats 4000000
/-! RtTk: states led on by ways that are kept in a hidden dict. -/
namespace Rt
open PySem L2 Rt PyProof.Rows
section
variable {X : Cx} {C : Cs} {env : Gh → List Sl} {b : Expr} {pos px : Pos} {κ δ : Type} [DecidableEq κ] {rk : Rp κ} {E : Kx rk} {rv : Rp δ} {mk : W κ} {i : Nat}
theorem xt_ninA {x : Str} {a0 : Addr} {d : List (κ × δ)} (hu : X.A.units + 9 < cLine) (hb : PE X b (tE C env rk mk)) (hd : PE X (.Name x px) (tVar i)) (hi : ∀ g, (env g)[i]? = some (.ob (oTa X.prog X.w E rv a0) d) := by intro _; rfl) (hm : behindInMarks .NotIn (.Name x px) = false := by with_unfolding_all rfl) :
    PT X (.Compare b [.NotIn] [.Name x px] pos) (tT C env (mk.bind fun k => .ret (!(tget d k).isSome))) :=
  pt_imp (pt_cmpR (op_ninDT hu) hb hd hm) fun σ H Q _ ⟨S, g0, P, F, em, kk⟩ => ⟨S, g0, _, F, em, fun k g1 pk y S1 H1 F1 x1 hy => by
    obtain ⟨w2, ew2, p2, u2, e2, sp2, hp2, L, eu2, hL⟩ := F1.sl.get i (hi _)
    subst e2 eu2
    obtain ⟨b2, eb, hb2⟩ := key_at E hy
    subst eb
    exact ⟨.ref p2, ew2, p2, a0, L, b2, E.kv.enc k, rfl, rfl, .of hp2, kysA F1.e1 hL, E.at (rk.mono F1.e1 hb2), _, rfl, by rw [if_neg (by decide), someT_rel k hL]; exact fun _ => kk _ _ pk S1 H1 F1 x1⟩⟩
end
/-! the data -/
section
variable {κ δ : Type} [DecidableEq κ] {uw : List κ × (κ → Option δ)} {d : List (κ × δ)} {k : κ} {v : δ}
theorem tget_mem (h : tget d k = some v) : (k, v) ∈ d := by
  unfold tget at h
  obtain ⟨p, h1, h2⟩ := Option.map_eq_some_iff.mp h
  have e := List.find?_some h1
  have m := List.mem_of_find?_eq_some h1
  obtain ⟨a, b⟩ := p
  simp at e h2
  subst e h2
  exact m
theorem tget_none (h : tget d k = none) : k ∉ d.map (·.1) := fun m => by
  unfold tget at h
  rw [Option.map_eq_none_iff] at h
  obtain ⟨p, hp, e⟩ := List.mem_map.mp m
  have := List.find?_eq_none.mp h p hp
  simp [e] at this
theorem good_get (h : Good uw d) (e : tget d k = some v) : uw.2 k = some v := h.1 _ (tget_mem e)
theorem nodupLenK : ∀ {ks us : List κ}, ks.Nodup → (∀ k ∈ ks, k ∈ us) → ks.length ≤ us.length
  | [], _, _, _ => Nat.zero_le _
  | k :: ks, us, h, s => by
    have n := List.nodup_cons.mp h
    have m := s k List.mem_cons_self
    have i := nodupLenK (us := us.erase k) n.2 fun x hx => (List.mem_erase_of_ne fun e => n.1 (by rw [← e]; exact hx)).mpr (s x (List.mem_cons_of_mem _ hx))
    have l := List.length_erase_of_mem m
    have p : 0 < us.length := List.length_pos_of_mem m
    rw [List.length_cons]
    omega
theorem good_put (h : Good uw d) (hU : uw.1.length ≤ 1000000) (hn : tget d k = none) (hk : k ∈ uw.1) (hv : uw.2 k = some v) : tputC d k v = some (d ++ [(k, v)]) ∧ Good uw (d ++ [(k, v)]) ∧ tget (d ++ [(k, v)]) k = some v := by
  have l := nodupLenK h.2.1 h.2.2
  rw [List.length_map] at l
  have nk := tget_none hn
  refine ⟨?_, ⟨fun e he => ?_, ?_, fun x hx => ?_⟩, ?_⟩
  · unfold tputC tput
    rw [if_pos (by omega), hn]
    rfl
  · rcases List.mem_append.mp he with he | he
    · exact h.1 e he
    · rw [List.mem_singleton.mp he]; exact hv
  · rw [List.map_append]
    refine List.nodup_append.mpr ⟨h.2.1, by simp, fun a ha b hb e => ?_⟩
    simp at hb
    subst hb e
    exact nk ha
  · rw [List.map_append] at hx
    rcases List.mem_append.mp hx with hx | hx
    · exact h.2.2 x hx
    · simp at hx
      rw [hx]; exact hk
  · unfold tget
    rw [List.find?_append]
    have : d.find? (fun p => decide (p.1 = k)) = none := by
      unfold tget at hn
      rwa [Option.map_eq_none_iff] at hn
    rw [this]
    simp
end
theorem forL_sim {ρ γ γ' α δ : Type} {f : γ → α → W (Fl ρ γ γ)} {h : δ → α → Option δ} {R : δ → γ → Prop} : ∀ (xs : List α) (s : γ) (t t' : δ), xs.foldlM h t = some t' → R t s →
    (∀ x ∈ xs, ∀ (s : γ) (t t1 : δ) (g : Gh) (P : Fl ρ γ γ → Gh → Prop), h t x = some t1 → R t s → (∀ s1, R t1 s1 → P (.nx s1) g) → f s x g P) →
    ∀ (g : Gh) (Q : Fl ρ γ γ' → Gh → Prop), (∀ s', R t' s' → Q (.nx s') g) → forL f xs s g Q
  | [], s, t, t', e, r, _, g, Q, q => by
    have e : some t = some t' := e
    cases e
    exact q s r
  | x :: xs, s, t, t', e, r, k, g, Q, q => by
    rw [List.foldlM_cons] at e
    obtain ⟨t1, e1, e2⟩ := Option.bind_eq_some_iff.mp e
    unfold forL
    refine k x List.mem_cons_self s t t1 g _ e1 r fun s1 r1 => ?_
    exact forL_sim xs s1 t1 t' e2 r1 (fun y hy => k y (List.mem_cons_of_mem _ hy)) g Q q
/-! states: shapes with numbers -/
abbrev Sts := List (List Int × Int)
abbrev KLI := List Int × Int
abbrev Memo := List (KLI × List PTI)
def lotsU : Nat → Nat → Nat → List (List Int)
  | 0, _, _ => []
  | _ + 1, 0, _ => [[]]
  | f + 1, t + 1, m => (List.range (min (t + 1) m)).flatMap fun i => (lotsU f (t + 1 - (i + 1)) (i + 1)).map fun r => ((i + 1 : Nat) : Int) :: r
def uKeys : List KLI := ((List.range 15).flatMap fun t => lotsU 16 t t).flatMap fun l => (List.range 25).map fun n : Nat => (l, (n : Int))
theorem uKeys_len : uKeys.length ≤ 1000000 := by decide +kernel
def ledIn (number : Int) (found : Sts) (w : PTI) : Option Sts := (mulC w.2 number).bind fun q => tputC found w.1 ((tget found w.1).getD 0 + q)
def ledOut (mw : KLI → Option (List PTI)) (n : Int) (found : Sts) (e : List Int × Int) : Option Sts := (mw (e.1, n)).bind fun ws => ws.foldlM (ledIn e.2) found
def lotB : Int → List Int → Bool
  | _, [] => true
  | m, x :: xs => decide (1 ≤ x) && decide (x ≤ m) && lotB x xs
def okU (k : KLI) : Bool := decide (0 ≤ k.2) && decide (k.2 < 25) && decide (k.1.sum ≤ 14) && lotB 14 k.1
theorem lotB_nonneg : ∀ {l : List Int} {m : Int}, lotB m l = true → 0 ≤ l.sum
  | [], _, _ => by simp
  | x :: xs, m, h => by
    unfold lotB at h
    simp only [Bool.and_eq_true, decide_eq_true_iff] at h
    have := lotB_nonneg h.2
    rw [List.sum_cons]
    omega
theorem lotB_mem : ∀ (l : List Int) (m t f : Nat), lotB m l = true → l.sum = t → t < f → l ∈ lotsU f t m
  | [], m, t, f, _, hs, hf => by
    have : t = 0 := by
      simp at hs
      omega
    subst this
    cases f with
    | zero => omega
    | succ f => simp [lotsU]
  | x :: xs, m, t, f, h, hs, hf => by
    unfold lotB at h
    simp only [Bool.and_eq_true, decide_eq_true_iff] at h
    obtain ⟨⟨h1, h2⟩, h3⟩ := h
    have n := lotB_nonneg h3
    rw [List.sum_cons] at hs
    obtain ⟨y, rfl⟩ : ∃ y : Nat, x = ((y + 1 : Nat) : Int) := ⟨x.toNat - 1, by omega⟩
    obtain ⟨t', rfl⟩ : ∃ t', t = t' + 1 := ⟨t - 1, by omega⟩
    cases f with
    | zero => omega
    | succ f =>
      unfold lotsU
      refine List.mem_flatMap.mpr ⟨y, List.mem_range.mpr (by omega), List.mem_map.mpr ⟨xs, lotB_mem xs (y + 1) (t' + 1 - (y + 1)) f h3 (by omega) (by omega), rfl⟩⟩
theorem okU_mem {k : KLI} (h : okU k = true) : k ∈ uKeys := by
  obtain ⟨l, n⟩ := k
  unfold okU at h
  simp only [Bool.and_eq_true, decide_eq_true_iff] at h
  obtain ⟨⟨⟨h1, h2⟩, h3⟩, h4⟩ := h
  have p := lotB_nonneg h4
  -- bounded by the sum, too
  have key : ∀ {l : List Int} {m : Int}, lotB m l = true → lotB l.sum l = true := fun {l m} h => by
    cases l with
    | nil => rfl
    | cons x xs =>
      unfold lotB at h ⊢
      simp only [Bool.and_eq_true, decide_eq_true_iff] at h ⊢
      have := lotB_nonneg h.2
      rw [List.sum_cons]
      exact ⟨⟨h.1.1, by omega⟩, h.2⟩
  unfold uKeys
  refine List.mem_flatMap.mpr ⟨l, List.mem_flatMap.mpr ⟨l.sum.toNat, List.mem_range.mpr (by omega), ?_⟩, List.mem_map.mpr ⟨n.toNat, List.mem_range.mpr (by omega), by
    show (l, ((n.toNat : Nat) : Int)) = (l, n)
    rw [show ((n.toNat : Nat) : Int) = n by omega]⟩⟩
  refine lotB_mem l _ _ 16 ?_ (by omega) (by omega)
  rw [show ((l.sum.toNat : Nat) : Int) = l.sum by omega]
  exact key h4
/-- all keys are of U -/
def mled (uw : List KLI × (KLI → Option (List PTI))) (a : Sts × Int × Unit × Unit) : Option Sts := if (a.1.all fun e => okU (e.1, a.2.1)) = true then a.1.foldlM (ledOut uw.2 a.2.1) [] else none
theorem ofO_ret {ρ β γ : Type} (o : Option ρ) : ofO o = rtOf ((ofO o).bind fun x => (W.ret (Fl.rt x) : W (Fl ρ β γ))) := by
  funext g P
  rfl
end Rt

set_option maxRecDepth 100000
set_option maxHeartbeats 4000000
/-! RtTm: sorted(a tuple of ints, reverse=True). -/
namespace Rt
open PySem L2 Rt PyProof.Rows PySem.Calls
section
variable {prog : Program} {w : World} {A : Around} {E : Value → Shared → Prop} {s : Shared}
theorem sortedT_ordR {t : Addr} {its : List Value} {b : Bool} {lt : Value → Value → Bool} {R : Value → Shared → Prop} (O : SrtO.Swo lt) (ht : s.heap.IsTuple t its.toArray) (hn : its.length ≤ sizeLine)
    (hS : 2 ≤ its.length → ∀ (h1 : Heap) (a : Addr), SrtO.SortableO prog w A.in1.in1 { s with heap := h1 } a its lt)
    (k : ∀ out : List Value, SrtO.Srtd lt out → SrtO.Stb lt out (if b = true then its.reverse else its) → R (.ref (s.heap.objs.size + 1)) { s with heap := sortedAll s.heap its (if b = true then out.toArray.reverse else out.toArray) }) :
    wpAny (model prog w) A (call (.builtin "sorted") [.ref t] [(Str.ofString "reverse", .bool b)]) R E s := by
  refine call_function_entry_kw kind_sorted plain_sorted entry_sorted (PyProof.Rows.args_sorted_rev _ _) ?_
  unfold Builtin.«sorted»
  refine wpAny_bind (m := checkCount "sorted" 1 1 _) (wpAny_pure ?_)
  apply wpAny_bind
  refine gather ht hn ?_
  apply wpAny_bind
  refine wpAny_newList ?_ hn
  have z : (gath s.heap its).objs.size = s.heap.objs.size + 1 := by
    unfold gath
    rw [Heap.size_update, size_push']
  have hq : ((gath s.heap its).push (seqObj "list" its.toArray 0)).get? (s.heap.objs.size + 1) = some (seqObj "list" its.toArray 0) := by
    rw [← z]
    exact Heap.get?_push_size _ rfl
  show wpAny _ _ _ _ _ { s with heap := (gath s.heap its).push (seqObj "list" its.toArray 0) }
  rw [z]
  apply wpAny_bind
  apply wpAny_holding
  refine wpAny_call_entry_kw slot_list_sort ⟨_, hq, rfl⟩ entry_list_sort ?_ (PyProof.Rows.args_list_sort_rev _ _)
  refine SrtR.list_sort_ordR O hq hn (fun h2 => hS h2 _ _) fun out hs hb => ?_
  exact ⟨_, rfl, wpAny_pure ⟨_, rfl, k out hs hb⟩⟩
end
section
variable {X : Cx} {C : Cs} {env : Gh → List Sl} {a : Expr} {pos p : Pos}
theorem cr_sortRevT : CallRK X (.builtin "sorted") [Str.ofString "reverse"] (fun vs zs H Q => ∃ (a : Addr) (ns : List Int), vs = [V.ref a] ∧ zs = [.bl true] ∧ SqT X.K H a (ns.map V.int) ∧ ∀ (p : Addr), H p = none → Q (.ref p) (upd H p (.lst ((sortI ns).reverse.map V.int)))) := by
  intro pins s σ H vs zs us ws Q I r rz h
  obtain ⟨a, ns, rfl, rfl, hs, q⟩ := h
  obtain rfl := Vals.ref1 r
  obtain ⟨w1, rfl, e1⟩ := vals1 rz
  obtain rfl : w1 = Value.bool true := e1
  obtain ⟨its, rv, hl, hz⟩ := I.tuple hs
  have hi := rv.ints
  have hn : its.length ≤ sizeLine := by
    rw [← rv.length]
    exact hz
  refine sortedT_ordR (b := true) SrtO.swo_int (show s.heap.IsTuple a its.toArray from hl) hn (fun h2 _ _ => SrtO.ints_sortable hi h2) fun out h1 h2 => ?_
  obtain ⟨ns', k1, k2, k3⟩ := SrtR.ints_outR (b := true) hi h1 h2
  have k3 : ns'.Pairwise (· ≥ ·) := k3
  have e : ns'.reverse = sortI ns := sorted_unique ((List.reverse_perm _).trans (k2.trans (sortI_perm ns).symm)) (List.pairwise_reverse.mpr (k3.imp fun h => h)) (sortI_sorted ns)
  have e' : ns' = (sortI ns).reverse := by rw [← e, List.reverse_reverse]
  obtain ⟨ep, he'⟩ := PyProof.Rows.sortedAll_at s.heap its (if true = true then out.toArray.reverse else out.toArray)
  have hlen : (ns'.map V.int).length ≤ sizeLine := by
    rw [List.length_map, k2.length_eq]
    rw [List.length_map] at hz
    exact hz
  have e0 : ((if true = true then out.toArray.reverse else out.toArray).toList).toArray = (if true = true then out.toArray.reverse else out.toArray) := by rw [Array.toArray_toList]
  refine ⟨.ref _, upd H (s.heap.objs.size + 1) (.lst (ns'.map V.int)), I.laid (t' := s.toks) (fun _ _ => PyProof.Rows.sortedAll_old) (Nat.le_succ _) ⟨hlen, _, ep, vals_of_ints k1, by rw [e0]; exact he'⟩, rfl, ?_⟩
  rw [e']
  exact q _ (I.hok.fresh (Nat.le_succ _))
theorem xn_sortRevT {mx : W (List Int)} {kws : List Keyword} (hg : Gl X "sorted") (hm : X.mg "sorted" = none) (ha : PE X a (tE C env (qT qI) mx)) (hk : PK X kws (tCons (tC (.bl true)) tNil)) (hs : starEach [a] X.env = (false, eval a X.env) :: starEach [] X.env := by rfl)
    (he : backTo pos (starEach [a] X.env) = (false, eval a X.env) :: backTo pos (starEach [] X.env) := by rfl) (hpl : (backTo pos (starEach [a] X.env)).any (·.1) = false := by rfl)
    (hall : (backToKw pos (keywordEach kws X.env)).all (·.1.isSome) = true := by rfl) (hnone : (backToKw pos (keywordEach kws X.env)).any (·.1.isNone) = false := by rfl) (hks : (backToKw pos (keywordEach kws X.env)).filterMap (·.1) = [Str.ofString "reverse"] := by rfl) :
    PE X (.Call (.Name "sorted" p) [a] kws pos) (tN C env qI (mx.bind fun xs => .ret (sortI xs).reverse)) :=
  pe_imp (pe_callBK cr_sortRevT hg hm (by decide +kernel) (pa_cons ha pa_nil hs) hk (by decide) (by decide) he hpl hall hnone hks) fun σ H Q _ ⟨S, g0, P, F, em, kk⟩ => ⟨S, g0, _, F, em, fun xs g1 px v S1 H1 F1 x1 ⟨t, vs, ev, hp, h2⟩ => by
    subst ev
    exact ⟨t, xs, rfl, rfl, by rw [← flat_ints h2]; exact TupAt.sq (TupAt.mono F1.e1 hp), fun l hl _ => kk _ _ px l _ S1 H1 F1 x1 hl (All2.of_map _)⟩⟩
end
end Rt

set_option maxRecDepth 100000
set_option maxHeartbeats 4000000
namespace K
open PySem L2 Rt
def top (i : Nat) : Stmt := PySem.Challenge.pw_swapsheets_k10_whole_dimensions.main.body.getD i (.Pass ⟨0, 0, 0, 0⟩)
structure Txt (K : PySem.W.Frag) (mg : Str → Option Value) : Prop where
  abs : mg "abs" = none
  all : mg "all" = none
  bool : mg "bool" = none
  dict : mg "dict" = none
  enumerate : mg "enumerate" = none
  int : mg "int" = none
  isinstance : mg "isinstance" = none
  len : mg "len" = none
  list : mg "list" = none
  max : mg "max" = none
  min : mg "min" = none
  range : mg "range" = none
  sorted : mg "sorted" = none
  sum : mg "sum" = none
  tuple : mg "tuple" = none
  MAX_CHARTED_ : ∃ t, mg "MAX_CHARTED" = some (.int 14 t)
  MAX_CHOSEN_ : ∃ t, mg "MAX_CHOSEN" = some (.int 1000 t)
  MAX_SUM_ : ∃ t, mg "MAX_SUM" = some (.int 24 t)
  g_FIRST_TOO_LONG_ : ∃ t, mg "_FIRST_TOO_LONG" = some (.int 1000000000000000000000000000000000000000000000000000000000000 t)
section
variable {P : Program} {w : World} {K : PySem.W.Frag} {mg : Str → Option Value} {base : Heap}
abbrev slaw_dice : Stmt := top 41
abbrev Nlaw_dice : List Str := ["_law_script", "_law_spot", "_law_cell", "_law_left"]
theorem sclaw_dice : FnScope ["_law_script", "_law_spot", "_law_cell", "_law_left"] ["_law_script", "_law_spot"] (defScope slaw_dice) := ⟨rfl, rfl, rfl, by decide +kernel, rfl, by decide +kernel, by decide +kernel⟩
def w_law_dice (a : (List Int) × Int × Unit) : W (Fl (List Int) Empty Unit) :=
  ((((W.ret a.2.1).bind fun p3 => (((W.ret a.1).bind fun x2 => (W.ret (x2.length : Int))).bind fun q4 => (ofO (some (decide (p3 < q4)))))).bind fun p11 => (if p11 = true then ((W.ret a.1).bind fun x5 => ((W.ret a.2.1).bind fun i6 => (ofO (L2.atI x5 i6)))) else (((W.ret (73 : Int)).bind fun p7 => ((W.ret a.2.1).bind fun q8 => (ofO (mulC p7 q8)))).bind fun p9 => ((W.ret (41 : Int)).bind fun q10 => (W.ret (p9 + q10)))))).bind fun (v1 : Int) => ((((W.ret (0 : Int)).bind fun i18 => ((((W.ret v1).bind fun x13 => (W.ret (x13.natAbs : Int))).bind fun p16 => (((W.ret (10 : Int)).bind fun p14 => ((W.ret (17 : Int)).bind fun q15 => (ofO (powC p14 q15)))).bind fun q17 => (W.ret (p16 - q17)))).bind fun j19 => (W.ret (if j19 > i18 then j19 else i18)))).bind fun p26 => ((((W.ret (10 : Int)).bind fun p20 => ((W.ret (57 : Int)).bind fun q21 => (ofO (powC p20 q21)))).bind fun p24 => (((W.ret (10 : Int)).bind fun p22 => ((W.ret (60 : Int)).bind fun q23 => (ofO (powC p22 q23)))).bind fun q25 => (ofO (mulC p24 q25)))).bind fun q27 => (ofO (modC p26 q27)))).bind fun (v12 : Int) => ((((W.ret v12).bind fun x50 => (((((((((W.ret v1).bind fun x28 => (W.ret (x28.natAbs : Int))).bind fun p29 => ((W.ret (1152921504606846883 : Int)).bind fun q30 => (ofO (modC p29 q30)))).bind fun p31 => ((W.ret (59 : Int)).bind fun q32 => (ofO (mulC p31 q32)))).bind fun p35 => (((W.ret (977 : Int)).bind fun p33 => ((W.ret a.2.1).bind fun q34 => (ofO (mulC p33 q34)))).bind fun q36 => (W.ret (p35 + q36)))).bind fun p42 => (((W.ret (47 : Int)).bind fun p40 => ((((W.ret v1).bind fun p37 => ((W.ret (0 : Int)).bind fun q38 => (ofO (some (decide (p37 < q38)))))).bind fun x39 => (W.ret (b2 x39))).bind fun q41 => (ofO (mulC p40 q41)))).bind fun q43 => (W.ret (p42 + q43)))).bind fun p44 => ((W.ret (13 : Int)).bind fun q45 => (W.ret (p44 + q45)))).bind fun x48 => (((W.ret (0 : Int)).bind fun x46 => ((W.ret []).bind fun y47 => (W.ret (x46 :: y47)))).bind fun y49 => (W.ret (x48 :: y49)))).bind fun y51 => (W.ret (x50 :: y51)))).bind fun x52 => (ofO (lenK x52))).bind fun x53 => (W.ret (Fl.rt x53)))))
def o_law_dice (a : (List Int) × Int × Unit) : Option (Fl (List Int) Empty Unit) :=
  ((((some a.2.1).bind fun p3 => (((some a.1).bind fun x2 => (some (x2.length : Int))).bind fun q4 => (some (decide (p3 < q4))))).bind fun p11 => (if p11 = true then ((some a.1).bind fun x5 => ((some a.2.1).bind fun i6 => (L2.atI x5 i6))) else (((some (73 : Int)).bind fun p7 => ((some a.2.1).bind fun q8 => (mulC p7 q8))).bind fun p9 => ((some (41 : Int)).bind fun q10 => (some (p9 + q10)))))).bind fun (v1 : Int) => ((((some (0 : Int)).bind fun i18 => ((((some v1).bind fun x13 => (some (x13.natAbs : Int))).bind fun p16 => (((some (10 : Int)).bind fun p14 => ((some (17 : Int)).bind fun q15 => (powC p14 q15))).bind fun q17 => (some (p16 - q17)))).bind fun j19 => (some (if j19 > i18 then j19 else i18)))).bind fun p26 => ((((some (10 : Int)).bind fun p20 => ((some (57 : Int)).bind fun q21 => (powC p20 q21))).bind fun p24 => (((some (10 : Int)).bind fun p22 => ((some (60 : Int)).bind fun q23 => (powC p22 q23))).bind fun q25 => (mulC p24 q25))).bind fun q27 => (modC p26 q27))).bind fun (v12 : Int) => ((((some v12).bind fun x50 => (((((((((some v1).bind fun x28 => (some (x28.natAbs : Int))).bind fun p29 => ((some (1152921504606846883 : Int)).bind fun q30 => (modC p29 q30))).bind fun p31 => ((some (59 : Int)).bind fun q32 => (mulC p31 q32))).bind fun p35 => (((some (977 : Int)).bind fun p33 => ((some a.2.1).bind fun q34 => (mulC p33 q34))).bind fun q36 => (some (p35 + q36)))).bind fun p42 => (((some (47 : Int)).bind fun p40 => ((((some v1).bind fun p37 => ((some (0 : Int)).bind fun q38 => (some (decide (p37 < q38))))).bind fun x39 => (some (b2 x39))).bind fun q41 => (mulC p40 q41))).bind fun q43 => (some (p42 + q43)))).bind fun p44 => ((some (13 : Int)).bind fun q45 => (some (p44 + q45)))).bind fun x48 => (((some (0 : Int)).bind fun x46 => ((some []).bind fun y47 => (some (x46 :: y47)))).bind fun y49 => (some (x48 :: y49)))).bind fun y51 => (some (x50 :: y51)))).bind fun x52 => (lenK x52)).bind fun x53 => (some (Fl.rt x53)))))
def m_law_dice (a : (List Int) × Int × Unit) : Option (List Int) := rtO (o_law_dice a)
theorem k_law_dice {f : Addr} {fd : FuncData} (F : Fun K "_law_dice" "_law_dice" slaw_dice f fd) (T : Txt K mg) {π : Around → Prop} (sπ : Stb π) : FnP π P w K mg base CX0 1 f fd ["_law_script", "_law_spot"] (SpN (pC (qX K) (pC qI p0)).ra qI m_law_dice) := by
  refine fn_okL (p := (pC (qX K) (pC qI p0))) (m := w_law_dice) (pn := (fun z _ => nomatch z)) (pl := fun _ _ => []) (env := fun a => [.im (qX K) a.1, .im qI a.2.1, .un, .un]) 2 sπ F sclaw_dice rfl rfl (fun _ => rfl) ?hb ?hg
  case hb =>
    intro cdv A outer s H E hp hr C a hA
    unfold w_law_dice
    exact (xs_set (i := 2) (xe_if (xt_cmpD cd_lt (xe_var (pv 1)) (xe_lenX (by rfl) T.len (xe_var (pv 0))) rfl) (xe_int1 (by rfl) T.int (xe_ixX (xe_var (pv 0)) (xe_var (pv 1)))) (xe_add (xe_mul xe_int (xe_var (pv 1))) xe_int)) (fun v1 => (xs_set (i := 3) (xe_mod (xe_max2 rfl (by rfl) T.max xe_int (xe_sub (xe_abs (by rfl) T.abs (xe_var (pv 2))) (xe_pow xe_int xe_int))) (xe_mul (xe_pow xe_int xe_int) (xe_pow xe_int xe_int))) (fun v12 => (xs_retN (xn_lst (xa_consL (xe_var (pv 3)) (xa_consL (xe_add (xe_add (xe_add (xe_mul (xe_mod (xe_abs (by rfl) T.abs (xe_var (pv 2))) xe_int) xe_int) (xe_mul xe_int (xe_var (pv 1)))) (xe_mul xe_int (xe_intB (by rfl) T.int (xe_cmpD cd_lt (xe_var (pv 2)) xe_int rfl)))) xe_int) (xa_consL xe_int xa_nilL)))))) sclaw_dice.nd rfl (.inl rfl) rfl rfl)) sclaw_dice.nd rfl (.inl rfl) rfl rfl)
  case hg =>
    intro a
    simp only [m_law_dice, o_law_dice, w_law_dice, ofO_rt, ofO_rtN, ofO_bind, ofO_some, ofO_if, ofO_up, ofO_lc, ofO_lca, ofO_lc2, ofO_for, ofO_while, ofO_bindF, ofO_no, ofO_optM]
abbrev slaw_roll : Stmt := top 42
abbrev Nlaw_roll : List Str := ["_law_dice_here", "_law_total", "_law_one", "_law_two", "_law_found"]
theorem sclaw_roll : FnScope ["_law_dice_here", "_law_total", "_law_one", "_law_two", "_law_found"] ["_law_dice_here", "_law_total"] (defScope slaw_roll) := ⟨rfl, rfl, rfl, by decide +kernel, rfl, by decide +kernel, by decide +kernel⟩
def w_law_roll (a : Int × Unit) : W (Fl Int Empty Unit) :=
  ((((W.ret (0 : Int)).bind fun j1 => (W.get.bind fun g2 => ofO (L2.atI g2 j1))).bind fun p3 => ((W.ret (0 : Int)).bind fun q4 => (ofO (some (decide (q4 < p3)))))).bind fun b5 => (if b5 = true then upF ((((W.ret (0 : Int)).bind fun j7 => (W.get.bind fun g8 => ofO (L2.atI g8 j7))).bind fun p9 => ((W.ret a.1).bind fun q10 => (ofO (modC p9 q10)))).bind fun (v6 : Int) => ((((W.ret (0 : Int)).bind fun j11 => (W.get.bind fun g12 => ofO (L2.atI g12 j11))).bind fun p13 => ((W.ret a.1).bind fun q14 => (ofO (divC p13 q14)))).bind fun v15 => ((W.ret (0 : Int)).bind fun j16 => ((W.gset j16 v15).bind fun _ => ((W.ret v6).bind fun x17 => (W.ret (Fl.rt x17))))))) else ((((W.ret (2 : Int)).bind fun j18 => (W.get.bind fun g19 => ofO (L2.atI g19 j18))).bind fun p20 => ((W.ret (1 : Int)).bind fun q21 => (W.ret (p20 + q21)))).bind fun v22 => ((W.ret (2 : Int)).bind fun j23 => ((W.gset j23 v22).bind fun _ => (((((W.ret (1 : Int)).bind fun j25 => (W.get.bind fun g26 => ofO (L2.atI g26 j25))).bind fun p31 => (((W.ret (99990001 : Int)).bind fun p29 => (((W.ret (2 : Int)).bind fun j27 => (W.get.bind fun g28 => ofO (L2.atI g28 j27))).bind fun q30 => (ofO (mulC p29 q30)))).bind fun q32 => (W.ret (p31 + q32)))).bind fun p33 => ((W.ret (2305843009213693403 : Int)).bind fun q34 => (ofO (modC p33 q34)))).bind fun (v24 : Int) => (((((((W.ret v24).bind fun p36 => ((W.ret v24).bind fun q37 => (ofO (mulC p36 q37)))).bind fun p42 => (((W.ret (83 : Int)).bind fun p40 => (((W.ret (2 : Int)).bind fun j38 => (W.get.bind fun g39 => ofO (L2.atI g39 j38))).bind fun q41 => (ofO (mulC p40 q41)))).bind fun q43 => (W.ret (p42 + q43)))).bind fun p44 => ((W.ret (2305843009213693373 : Int)).bind fun q45 => (ofO (modC p44 q45)))).bind fun p46 => ((W.ret (8675327 : Int)).bind fun q47 => (ofO (mulC p46 q47)))).bind fun p48 => ((W.ret v24).bind fun q49 => (W.ret (p48 + q49)))).bind fun (v35 : Int) => ((((W.ret v35).bind fun p50 => ((W.ret (65539 : Int)).bind fun q51 => (ofO (divC p50 q51)))).bind fun p52 => ((W.ret a.1).bind fun q53 => (ofO (modC p52 q53)))).bind fun x54 => (W.ret (Fl.rt x54))))))))))
def m_law_roll (a : Int × Unit) : W Int := rtOf (w_law_roll a)
theorem k_law_roll {f : Addr} {fd : FuncData} (F : Fun K "_law_roll" "_law_roll" slaw_roll f fd) (T : Txt K mg) {π : Around → Prop} (sπ : Stb π) : FnP π P w K mg base CX0 1 f fd ["_law_dice_here", "_law_total"] (SpD (pC qI p0).ra qI m_law_roll) := by
  refine fn_okD (p := (pC qI p0)) (m := w_law_roll) (pn := (fun z _ => nomatch z)) (pl := fun _ _ => []) (env := fun a => [.im qI a.1, .un, .un, .un]) 3 sπ F sclaw_roll rfl rfl (fun _ => rfl) ?hb ?hg
  case hb =>
    intro cdv A outer s H E hp hr C d a hA
    unfold w_law_roll
    exact (xs_ifx (xt_cmpD cd_gt (xe_gix (pv 0) xe_int) xe_int rfl) (xs_set (i := 4) (xe_mod (xe_int1 (by rfl) T.int (xe_gix (pv 0) xe_int)) (xe_var (pv 1))) (fun v6 => (xs_gset (xe_fdiv (xe_gix (pv 0) xe_int) (xe_var (pv 1))) (pv 0) xe_int (xs_ret (xe_var (pv 4))))) sclaw_roll.nd rfl (.inl rfl) rfl rfl) (xs_gset (xe_add (xe_gix (pv 0) xe_int) xe_int) (pv 0) xe_int (xs_set (i := 2) (xe_mod (xe_int1 (by rfl) T.int (xe_add (xe_gix (pv 0) xe_int) (xe_mul xe_int (xe_gix (pv 0) xe_int)))) xe_int) (fun v24 => (xs_set (i := 3) (xe_add (xe_mul (xe_mod (xe_int1 (by rfl) T.int (xe_add (xe_mul (xe_var (pv 2)) (xe_var (pv 2))) (xe_mul xe_int (xe_gix (pv 0) xe_int)))) xe_int) xe_int) (xe_var (pv 2))) (fun v35 => (xs_ret (xe_mod (xe_int1 (by rfl) T.int (xe_fdiv (xe_var (pv 3)) xe_int)) (xe_var (pv 1))))) sclaw_roll.nd rfl (.inl rfl) rfl rfl)) sclaw_roll.nd rfl (.inl rfl) rfl rfl)))
  case hg => exact fun _ => rfl
abbrev slaw_pick : Stmt := top 43
abbrev Nlaw_pick : List Str := ["_law_dice_here", "_law_items"]
theorem sclaw_pick : FnScope ["_law_dice_here", "_law_items"] ["_law_dice_here", "_law_items"] (defScope slaw_pick) := ⟨rfl, rfl, rfl, by decide +kernel, rfl, by decide +kernel, by decide +kernel⟩
def w_law_pick (a : (List Int) × Unit) : W (Fl Int Empty Unit) :=
  (((W.ret a.1).bind fun x5 => (((((W.ret a.1).bind fun x1 => (W.ret (x1.length : Int))).bind fun x2 => ((W.ret ()).bind fun y3 => (W.ret (x2, y3)))).bind fun a4 => (m_law_roll a4)).bind fun i6 => (ofO (L2.atI x5 i6)))).bind fun x7 => (W.ret (Fl.rt x7)))
def m_law_pick (a : (List Int) × Unit) : W Int := rtOf (w_law_pick a)
theorem k_law_pick {f : Addr} {fd : FuncData} (F : Fun K "_law_pick" "_law_pick" slaw_pick f fd) (T : Txt K mg) {π : Around → Prop} (sπ : Stb π) (h_law_roll : Has P w K mg base π "_law_roll" 1 ["_law_dice_here", "_law_total"] (SpD (pC qI p0).ra qI m_law_roll)) : FnP π P w K mg base CX0 2 f fd ["_law_dice_here", "_law_items"] (SpD (pC (qL qI) p0).ra qI m_law_pick) := by
  refine fn_okD (p := (pC (qL qI) p0)) (m := w_law_pick) (pn := (fun z _ => nomatch z)) (pl := fun _ _ => []) (env := fun a => [.im (qL qI) a.1]) 0 sπ F sclaw_pick rfl rfl (fun _ => rfl) ?hb ?hg
  case hb =>
    intro cdv A outer s H E hp hr C d a hA
    unfold w_law_pick
    exact (xs_ret (xe_ix (xq_im (xe_var (pv 1))) (xe_callDH h_law_roll hp hr (by decide) (by rfl) (pv 0) (xa_cons (xe_len (by rfl) T.len (xq_im (xe_var (pv 1)))) xa_nil))))
  case hg => exact fun _ => rfl
abbrev slaw_lot_of : Stmt := top 45
abbrev Nlaw_lot_of : List Str := ["_law_members"]
theorem sclaw_lot_of : FnScope ["_law_members"] ["_law_members"] (defScope slaw_lot_of) := ⟨rfl, rfl, rfl, by decide +kernel, rfl, by decide +kernel, by decide +kernel⟩
def w_law_lot_of (a : (List Int) × Unit) : W (Fl (List Int) Empty Unit) :=
  ((((W.ret a.1).bind fun x1 => (W.ret (sortI x1))).bind fun x2 => (W.ret x2.reverse)).bind fun x3 => (W.ret (Fl.rt x3)))
def o_law_lot_of (a : (List Int) × Unit) : Option (Fl (List Int) Empty Unit) :=
  ((((some a.1).bind fun x1 => (some (sortI x1))).bind fun x2 => (some x2.reverse)).bind fun x3 => (some (Fl.rt x3)))
def m_law_lot_of (a : (List Int) × Unit) : Option (List Int) := rtO (o_law_lot_of a)
theorem k_law_lot_of {f : Addr} {fd : FuncData} (F : Fun K "_law_lot_of" "_law_lot_of" slaw_lot_of f fd) (T : Txt K mg) {π : Around → Prop} (sπ : Stb π) : FnP π P w K mg base CX0 1 f fd ["_law_members"] (SpF (pC (qL qI) p0).ra (qT qI) m_law_lot_of) := by
  refine fn_okF (p := (pC (qL qI) p0)) (m := w_law_lot_of) (pn := (fun z _ => nomatch z)) (pl := fun _ _ => []) (env := fun a => [.im (qL qI) a.1]) 0 sπ F sclaw_lot_of rfl rfl (fun _ => rfl) ?hb ?hg
  case hb =>
    intro cdv A outer s H E hp hr C a hA
    unfold w_law_lot_of
    exact (xs_ret (xe_tuple (by rfl) T.tuple (xq_im (xe_N (xn_rev (xq_im (xe_N (xn_sorted (by rfl) T.sorted (xq_im (xe_var (pv 0)))))))))))
  case hg =>
    intro a
    simp only [m_law_lot_of, o_law_lot_of, w_law_lot_of, ofO_rt, ofO_rtN, ofO_bind, ofO_some, ofO_if, ofO_up, ofO_lc, ofO_lca, ofO_lc2, ofO_for, ofO_while, ofO_bindF, ofO_no, ofO_optM]
abbrev slaw_lot_drawn : Stmt := top 46
abbrev Nlaw_lot_drawn : List Str := ["_law_dice_here", "_law_total", "_law_found", "_law_left", "_law_member"]
theorem sclaw_lot_drawn : FnScope ["_law_dice_here", "_law_total", "_law_found", "_law_left", "_law_member"] ["_law_dice_here", "_law_total"] (defScope slaw_lot_drawn) := ⟨rfl, rfl, rfl, by decide +kernel, rfl, by decide +kernel, by decide +kernel⟩
def w_law_lot_drawn (a : Int × Unit) : W (Fl (List Int) Empty Unit) :=
  ((W.ret ([] : List Int)).bind fun (v1 : (List Int)) => ((W.ret a.1).bind fun (v2 : Int) => (bindF (whileL (fun (s3 : ((List Int) × Int)) => ((W.ret s3.2).bind fun p4 => ((W.ret (0 : Int)).bind fun q5 => (ofO (some (decide (q5 < p4))))))) (fun (s3 : ((List Int) × Int)) => (((W.ret (1 : Int)).bind fun p24 => (((((W.ret s3.2).bind fun i19 => ((((((W.ret (1 : Int)).bind fun x13 => (((W.ret (2 : Int)).bind fun x11 => (((W.ret (3 : Int)).bind fun x9 => (((W.ret (8 : Int)).bind fun x7 => ((W.ret []).bind fun y8 => (W.ret (x7 :: y8)))).bind fun y10 => (W.ret (x9 :: y10)))).bind fun y12 => (W.ret (x11 :: y12)))).bind fun y14 => (W.ret (x13 :: y14)))).bind fun x15 => (ofO (lenK x15))).bind fun x16 => ((W.ret ()).bind fun y17 => (W.ret (x16, y17)))).bind fun a18 => (m_law_pick a18)).bind fun j20 => (W.ret (if j20 < i19 then j20 else i19)))).bind fun x21 => ((W.ret ()).bind fun y22 => (W.ret (x21, y22)))).bind fun a23 => (m_law_roll a23)).bind fun q25 => (W.ret (p24 + q25)))).bind fun (v6 : Int) => ((W.ret v6).bind fun v26 => ((ofO (addO s3.1 v26)).bind fun (l27 : (List Int)) => (((W.ret s3.2).bind fun p29 => ((W.ret v6).bind fun q30 => (W.ret (p29 - q30)))).bind fun (v28 : Int) => (W.ret (Fl.nx (l27, v28)))))))) 100 (v1, v2)) (fun (s3 : ((List Int) × Int)) => ((((W.ret s3.1).bind fun x31 => ((W.ret ()).bind fun y32 => (W.ret (x31, y32)))).bind fun a33 => (ofO (m_law_lot_of a33))).bind fun x34 => (W.ret (Fl.rt x34)))))))
def m_law_lot_drawn (a : Int × Unit) : W (List Int) := rtOf (w_law_lot_drawn a)
theorem k_law_lot_drawn {f : Addr} {fd : FuncData} (F : Fun K "_law_lot_drawn" "_law_lot_drawn" slaw_lot_drawn f fd) (T : Txt K mg) {π : Around → Prop} (sπ : Stb π) (h_law_lot_of : Has P w K mg base π "_law_lot_of" 1 ["_law_members"] (SpF (pC (qL qI) p0).ra (qT qI) m_law_lot_of)) (h_law_pick : Has P w K mg base π "_law_pick" 2 ["_law_dice_here", "_law_items"] (SpD (pC (qL qI) p0).ra qI m_law_pick)) (h_law_roll : Has P w K mg base π "_law_roll" 1 ["_law_dice_here", "_law_total"] (SpD (pC qI p0).ra qI m_law_roll)) : FnP π P w K mg base CX0 3 f fd ["_law_dice_here", "_law_total"] (SpD (pC qI p0).ra (qT qI) m_law_lot_drawn) := by
  refine fn_okD (p := (pC qI p0)) (m := w_law_lot_drawn) (pn := (fun z _ => nomatch z)) (pl := fun _ _ => []) (env := fun a => [.im qI a.1, .un, .un, .un]) 3 sπ F sclaw_lot_drawn rfl rfl (fun _ => rfl) ?hb ?hg
  case hb =>
    intro cdv A outer s H E hp hr C d a hA
    unfold w_law_lot_drawn
    exact (xs_parN1 (env := fun g => [.iv d (oD g), .im qI a.1, .un, .un, .un]) (i := 2) (j := 3) (xn_nil (r := qI)) (fun _ => (xe_var (pv 1))) (fun v1 v2 => (xs_while (s0 := (v1, v2)) (pt := fun (s3 : ((List Int) × Int)) g => [.iv d (oD g), .im qI a.1, .ow qI s3.1, .im qI s3.2, .un]) PassesOwn.never (fun _ => (.keep (.keep (.keep (.keep (.keep .nil)))))) (fun s3 => (xt_cmpD cd_gt (xe_var (pv 3)) xe_int rfl)) (fun s3 => (xs_set (i := 4) (xe_add xe_int (xe_callDH h_law_roll hp hr (by decide) (by rfl) (pv 0) (xa_cons (xe_min2 rfl (by rfl) T.min (xe_var (pv 3)) (xe_callDH h_law_pick hp hr (by decide) (by rfl) (pv 0) (xa_cons (xe_N (xn_lst (xa_consL xe_int (xa_consL xe_int (xa_consL xe_int (xa_consL xe_int xa_nilL)))))) xa_nil))) xa_nil))) (fun v6 => (xs_app (i := 2) (pv 2) (xe_var (pv 4)) (fun l27 => (xs_set (i := 3) (xe_sub (xe_var (pv 3)) (xe_var (pv 4))) (fun v28 => (xs_nil (fun _ => (.keep (.keep (.keep (.keep (.drop .nil)))))))) sclaw_lot_drawn.nd rfl (.inl rfl) rfl rfl)) (hb := pe_bm PySem.F.plainAttrs_list PySem.F.slot_list_append PySem.F.type_list_append mt_append (pv 2) (pa_cons (xe_var (pv 4)) pa_nil)))) sclaw_lot_drawn.nd rfl (.inl rfl) rfl rfl)) (fun s3 => (xs_frzD 2 hA (xs_ret (xe_callH h_law_lot_of hp hr (by decide) (by rfl) (xa_cons (xe_var (pv 2)) xa_nil))))))) rfl sclaw_lot_drawn.nd rfl rfl (by decide) rfl rfl rfl)
  case hg => exact fun _ => rfl
abbrev slaw_dg_less : Stmt := top 47
abbrev Nlaw_dg_less : List Str := ["_law_lot", "_law_found", "_law_place", "_law_member", "_law_less", "_law_one"]
theorem sclaw_dg_less : FnScope ["_law_lot", "_law_found", "_law_place", "_law_member", "_law_less", "_law_one"] ["_law_lot"] (defScope slaw_dg_less) := ⟨rfl, rfl, rfl, by decide +kernel, rfl, by decide +kernel, by decide +kernel⟩
def w_law_dg_less (a : (List Int) × Unit) : W (Fl (List (List Int)) Empty Unit) :=
  ((W.ret ([] : List (List Int))).bind fun (v1 : (List (List Int))) => (((W.ret a.1).bind fun x2 => (W.ret (enumI x2))).bind fun xs45 => bindF (forL (fun (s3 : (List (List Int))) (x4 : (Int × Int)) => (((((W.ret x4.1).bind fun p5 => ((W.ret (1 : Int)).bind fun q6 => (W.ret (p5 + q6)))).bind fun p8 => (((W.ret a.1).bind fun x7 => (W.ret (x7.length : Int))).bind fun q9 => (ofO (some (decide (p8 = q9)))))).bind fun p16 => (if p16 = true then W.ret true else (((W.ret a.1).bind fun x12 => (((W.ret x4.1).bind fun p10 => ((W.ret (1 : Int)).bind fun q11 => (W.ret (p10 + q11)))).bind fun i13 => (ofO (L2.atI x12 i13)))).bind fun p14 => ((W.ret x4.2).bind fun q15 => (ofO (some (decide (p14 < q15)))))))).bind fun b17 => bindF (if b17 = true then (((((W.ret a.1).bind fun x21 => ((W.ret (none : Option Int)).bind fun l22 => (((W.ret x4.1).bind fun x20 => (W.ret (some x20))).bind fun h23 => (W.ret (cutL x21 l22 h23))))).bind fun p27 => ((((W.ret x4.2).bind fun p24 => ((W.ret (1 : Int)).bind fun q25 => (W.ret (p24 - q25)))).bind fun x26 => (W.ret [x26])).bind fun q28 => (ofO (catC p27 q28)))).bind fun p35 => (((W.ret a.1).bind fun x32 => ((((W.ret x4.1).bind fun p29 => ((W.ret (1 : Int)).bind fun q30 => (W.ret (p29 + q30)))).bind fun x31 => (W.ret (some x31))).bind fun l33 => ((W.ret (none : Option Int)).bind fun h34 => (W.ret (cutL x32 l33 h34))))).bind fun q36 => (ofO (catC p35 q36)))).bind fun (v19 : (List Int)) => (((W.ret v19).bind fun xs42 => (lcW (fun (x39 : Int) => ((W.ret x39).bind fun p40 => ((W.ret (0 : Int)).bind fun q41 => (ofO (some (decide (q41 < p40))))))) (fun (x39 : Int) => (W.ret x39)) xs42)).bind fun v37 => ((ofO (addO s3 v37)).bind fun (l38 : (List (List Int))) => (W.ret (Fl.nx l38))))) else (W.ret (Fl.nx s3))) (fun (s18 : (List (List Int))) => (W.ret (Fl.nx s18))))) xs45 v1) (fun (s3 : (List (List Int))) => (((W.ret s3).bind fun x43 => (ofO (sortTT x43))).bind fun x44 => (W.ret (Fl.rt x44))))))
def o_law_dg_less (a : (List Int) × Unit) : Option (Fl (List (List Int)) Empty Unit) :=
  ((some ([] : List (List Int))).bind fun (v1 : (List (List Int))) => (((some a.1).bind fun x2 => (some (enumI x2))).bind fun xs45 => bindFO (forO (fun (s3 : (List (List Int))) (x4 : (Int × Int)) => (((((some x4.1).bind fun p5 => ((some (1 : Int)).bind fun q6 => (some (p5 + q6)))).bind fun p8 => (((some a.1).bind fun x7 => (some (x7.length : Int))).bind fun q9 => (some (decide (p8 = q9))))).bind fun p16 => (if p16 = true then some true else (((some a.1).bind fun x12 => (((some x4.1).bind fun p10 => ((some (1 : Int)).bind fun q11 => (some (p10 + q11)))).bind fun i13 => (L2.atI x12 i13))).bind fun p14 => ((some x4.2).bind fun q15 => (some (decide (p14 < q15))))))).bind fun b17 => bindFO (if b17 = true then (((((some a.1).bind fun x21 => ((some (none : Option Int)).bind fun l22 => (((some x4.1).bind fun x20 => (some (some x20))).bind fun h23 => (some (cutL x21 l22 h23))))).bind fun p27 => ((((some x4.2).bind fun p24 => ((some (1 : Int)).bind fun q25 => (some (p24 - q25)))).bind fun x26 => (some [x26])).bind fun q28 => (catC p27 q28))).bind fun p35 => (((some a.1).bind fun x32 => ((((some x4.1).bind fun p29 => ((some (1 : Int)).bind fun q30 => (some (p29 + q30)))).bind fun x31 => (some (some x31))).bind fun l33 => ((some (none : Option Int)).bind fun h34 => (some (cutL x32 l33 h34))))).bind fun q36 => (catC p35 q36))).bind fun (v19 : (List Int)) => (((some v19).bind fun xs42 => (lcO (fun (x39 : Int) => ((some x39).bind fun p40 => ((some (0 : Int)).bind fun q41 => (some (decide (q41 < p40)))))) (fun (x39 : Int) => (some x39)) xs42)).bind fun v37 => ((addO s3 v37).bind fun (l38 : (List (List Int))) => (some (Fl.nx l38))))) else (some (Fl.nx s3))) (fun (s18 : (List (List Int))) => (some (Fl.nx s18))))) xs45 v1) (fun (s3 : (List (List Int))) => (((some s3).bind fun x43 => (sortTT x43)).bind fun x44 => (some (Fl.rt x44))))))
def m_law_dg_less (a : (List Int) × Unit) : Option (List (List Int)) := rtO (o_law_dg_less a)
theorem k_law_dg_less {f : Addr} {fd : FuncData} (F : Fun K "_law_dg_less" "_law_dg_less" slaw_dg_less f fd) (T : Txt K mg) {π : Around → Prop} (sπ : Stb π) : FnP π P w K mg base CX0 1 f fd ["_law_lot"] (SpF (pC (qT qI) p0).ra (qL (qT qI)) m_law_dg_less) := by
  refine fn_okF (p := (pC (qT qI) p0)) (m := w_law_dg_less) (pn := (fun z _ => nomatch z)) (pl := fun _ _ => []) (env := fun a => [.im (qT qI) a.1, .un, .un, .un, .un, .un]) 5 sπ F sclaw_dg_less rfl rfl (fun _ => rfl) ?hb ?hg
  case hb =>
    intro cdv A outer s H E hp hr C a hA
    unfold w_law_dg_less
    exact (xs_setN (i := 1) (xn_nil (r := (qT qI))) (fun v1 => (xs_for (s0 := v1) (up := (uP (uN 2 qI) (uN 3 qI))) (pt := fun (s3 : (List (List Int))) g => [.im (qT qI) a.1, .ow (qT qI) s3, .un, .un, .un, .un]) PassesOwn.never rfl (xi_enT (by rfl) T.enumerate (xe_var (pv 0))) (xg_pairW rfl (xg_name (pg_name (i := 2) sclaw_dg_less.nd rfl (by first | exact .inl rfl | exact .inr rfl))) (xg_name (pg_name (i := 3) sclaw_dg_less.nd rfl (by first | exact .inl rfl | exact .inr rfl)))) (fun _ => (.keep (.keep (.keep (.keep (.keep (.keep .nil))))))) (fun s3 x4 => (xs_if (pt := fun (s18 : (List (List Int))) g => [.im (qT qI) a.1, .ow (qT qI) s18, .im qI x4.1, .im qI x4.2, .un, .un]) (PW.pt (xw_or (xt_cmpD cd_eqI (xe_add (xe_var (pv 2)) xe_int) (xe_len (by rfl) T.len (xq_im (xe_var (pv 0)))) rfl) (xw_or1 (xt_cmpD cd_lt (xe_ix (xq_im (xe_var (pv 0))) (xe_add (xe_var (pv 2)) xe_int)) (xe_var (pv 3)) rfl)))) (xs_set (i := 4) (xe_catT (xe_catT (xe_slT (xe_var (pv 0)) xo_none (xo_some (xe_var (pv 2)))) (xe_tup1 (xe_sub (xe_var (pv 3)) xe_int))) (xe_slT (xe_var (pv 0)) (xo_some (xe_add (xe_var (pv 2)) xe_int)) xo_none)) (fun v19 => (xs_app (i := 1) (pv 1) (xe_tuple (by rfl) T.tuple (xq_im (xe_N (xn_lc (own := [("_law_one", 5)]) (up := (uN 5 qI)) rfl sclaw_dg_less.nd (xi_seq (xe_var (pv 4))) (blkOk_by (N := Nlaw_dg_less) (sc := defScope slaw_dg_less) (by decide +kernel)) rfl (fun _ => rfl) (fun _ _ _ _ _ => (xg_name (pg_name (i := 5) sclaw_dg_less.nd rfl (by first | exact .inl rfl | exact .inr rfl)))) (fun _ _ _ _ _ _ x39 => (xts_one (xt_cmpD cd_gt (xe_var (pv 5)) xe_int rfl))) (fun _ _ _ _ _ _ x39 => (xe_var (pv 5))))))) (fun l38 => (xs_nil (fun _ => (.keep (.keep (.keep (.keep (.drop (.keep .nil))))))))) (hb := pe_bm PySem.F.plainAttrs_list PySem.F.slot_list_append PySem.F.type_list_append mt_append (pv 1) (pa_cons (xe_tuple (by rfl) T.tuple (xq_im (xe_N (xn_lc (own := [("_law_one", 5)]) (up := (uN 5 qI)) rfl sclaw_dg_less.nd (xi_seq (xe_var (pv 4))) (blkOk_by (N := Nlaw_dg_less) (sc := defScope slaw_dg_less) (by decide +kernel)) rfl (fun _ => rfl) (fun _ _ _ _ _ => (xg_name (pg_name (i := 5) sclaw_dg_less.nd rfl (by first | exact .inl rfl | exact .inr rfl)))) (fun _ _ _ _ _ _ x39 => (xts_one (xt_cmpD cd_gt (xe_var (pv 5)) xe_int rfl))) (fun _ _ _ _ _ _ x39 => (xe_var (pv 5))))))) pa_nil)))) sclaw_dg_less.nd rfl (.inl rfl) rfl rfl) (xs_nil (fun _ => (.keep (.keep (.keep (.keep (.keep (.keep .nil)))))))) (fun s18 => (xs_nil (fun _ => (.keep (.keep (.drop (.drop (.keep (.keep .nil))))))))))) (fun s3 => (xs_ret (xe_N (xn_sortedTT (by rfl) T.sorted (xq_own (pv 1)))))))) sclaw_dg_less.nd rfl (.inl rfl) rfl rfl)
  case hg =>
    intro a
    simp only [m_law_dg_less, o_law_dg_less, w_law_dg_less, ofO_rt, ofO_rtN, ofO_bind, ofO_some, ofO_if, ofO_up, ofO_lc, ofO_lca, ofO_lc2, ofO_for, ofO_while, ofO_bindF, ofO_no, ofO_optM]
abbrev slaw_dg_ways : Stmt := top 48
abbrev Nlaw_dg_ways : List Str := ["_law_lot", "_law_found", "_law_left", "_law_later", "_law_one", "_law_less"]
theorem sclaw_dg_ways : FnScope ["_law_lot", "_law_found", "_law_left", "_law_later", "_law_one", "_law_less"] ["_law_lot"] (defScope slaw_dg_ways) := ⟨rfl, rfl, rfl, by decide +kernel, rfl, by decide +kernel, by decide +kernel⟩
def w_law_dg_ways (a : (List Int) × Unit) : W (Fl Int Empty Unit) :=
  (((W.ret a.1).bind fun k3 => ((W.ret (1 : Int)).bind fun u4 => (W.ret [(k3, u4)]))).bind fun (v1 : (List ((List Int) × Int))) => (((W.ret a.1).bind fun x5 => (W.ret x5.sum)).bind fun (v2 : Int) => (bindF (whileL (fun (s6 : ((List ((List Int) × Int)) × Int)) => ((W.ret s6.2).bind fun p7 => ((W.ret (0 : Int)).bind fun q8 => (ofO (some (decide (q8 < p7))))))) (fun (s6 : ((List ((List Int) × Int)) × Int)) => (((W.ret s6.1).bind fun x10 => (W.ret (x10.map (·.1)))).bind fun xs33 => bindF (forL (fun (s11 : (List ((List Int) × Int))) (x12 : (List Int)) => ((((W.ret x12).bind fun x13 => ((W.ret ()).bind fun y14 => (W.ret (x13, y14)))).bind fun a15 => (ofO (m_law_dg_less a15))).bind fun xs27 => bindF (forL (fun (s16 : (List ((List Int) × Int))) (x17 : (List Int)) => ((((W.ret x17).bind fun k18 => ((W.ret (0 : Int)).bind fun z19 => (W.ret ((tget s16 k18).getD z19)))).bind fun p22 => (((W.ret s6.1).bind fun x20 => ((W.ret x12).bind fun k21 => (ofO (tget x20 k21)))).bind fun q23 => (W.ret (p22 + q23)))).bind fun v24 => ((W.ret x17).bind fun k25 => ((ofO (tputC s16 k25 v24)).bind fun (d26 : (List ((List Int) × Int))) => (W.ret (Fl.nx d26)))))) xs27 s11) (fun (s16 : (List ((List Int) × Int))) => (W.ret (Fl.nx s16))))) xs33 ([] : (List ((List Int) × Int)))) (fun (s11 : (List ((List Int) × Int))) => (((W.ret s11).bind fun x30 => (W.ret (tdict x30))).bind fun (v28 : (List ((List Int) × Int))) => (((W.ret s6.2).bind fun p31 => ((W.ret (1 : Int)).bind fun q32 => (W.ret (p31 - q32)))).bind fun (v29 : Int) => (W.ret (Fl.nx (v28, v29)))))))) 100 (v1, v2)) (fun (s6 : ((List ((List Int) × Int)) × Int)) => (((W.ret s6.1).bind fun x34 => ((W.ret ([] : List Int)).bind fun k35 => (ofO (tget x34 k35)))).bind fun x36 => (W.ret (Fl.rt x36)))))))
def o_law_dg_ways (a : (List Int) × Unit) : Option (Fl Int Empty Unit) :=
  (((some a.1).bind fun k3 => ((some (1 : Int)).bind fun u4 => (some [(k3, u4)]))).bind fun (v1 : (List ((List Int) × Int))) => (((some a.1).bind fun x5 => (some x5.sum)).bind fun (v2 : Int) => (bindFO (whileO (fun (s6 : ((List ((List Int) × Int)) × Int)) => ((some s6.2).bind fun p7 => ((some (0 : Int)).bind fun q8 => (some (decide (q8 < p7)))))) (fun (s6 : ((List ((List Int) × Int)) × Int)) => (((some s6.1).bind fun x10 => (some (x10.map (·.1)))).bind fun xs33 => bindFO (forO (fun (s11 : (List ((List Int) × Int))) (x12 : (List Int)) => ((((some x12).bind fun x13 => ((some ()).bind fun y14 => (some (x13, y14)))).bind fun a15 => (m_law_dg_less a15)).bind fun xs27 => bindFO (forO (fun (s16 : (List ((List Int) × Int))) (x17 : (List Int)) => ((((some x17).bind fun k18 => ((some (0 : Int)).bind fun z19 => (some ((tget s16 k18).getD z19)))).bind fun p22 => (((some s6.1).bind fun x20 => ((some x12).bind fun k21 => (tget x20 k21))).bind fun q23 => (some (p22 + q23)))).bind fun v24 => ((some x17).bind fun k25 => ((tputC s16 k25 v24).bind fun (d26 : (List ((List Int) × Int))) => (some (Fl.nx d26)))))) xs27 s11) (fun (s16 : (List ((List Int) × Int))) => (some (Fl.nx s16))))) xs33 ([] : (List ((List Int) × Int)))) (fun (s11 : (List ((List Int) × Int))) => (((some s11).bind fun x30 => (some (tdict x30))).bind fun (v28 : (List ((List Int) × Int))) => (((some s6.2).bind fun p31 => ((some (1 : Int)).bind fun q32 => (some (p31 - q32)))).bind fun (v29 : Int) => (some (Fl.nx (v28, v29)))))))) 100 (v1, v2)) (fun (s6 : ((List ((List Int) × Int)) × Int)) => (((some s6.1).bind fun x34 => ((some ([] : List Int)).bind fun k35 => (tget x34 k35))).bind fun x36 => (some (Fl.rt x36)))))))
def m_law_dg_ways (a : (List Int) × Unit) : Option Int := rtO (o_law_dg_ways a)
theorem k_law_dg_ways {f : Addr} {fd : FuncData} (F : Fun K "_law_dg_ways" "_law_dg_ways" slaw_dg_ways f fd) (T : Txt K mg) {π : Around → Prop} (sπ : Stb π) (h_law_dg_less : Has P w K mg base π "_law_dg_less" 1 ["_law_lot"] (SpF (pC (qT qI) p0).ra (qL (qT qI)) m_law_dg_less)) : FnP π P w K mg base CX0 2 f fd ["_law_lot"] (SpF (pC (qT qI) p0).ra qI m_law_dg_ways) := by
  refine fn_okF (p := (pC (qT qI) p0)) (m := w_law_dg_ways) (pn := (fun z _ => nomatch z)) (pl := fun _ _ => []) (env := fun a => [.im (qT qI) a.1, .un, .un, .un, .un, .un]) 5 sπ F sclaw_dg_ways rfl rfl (fun _ => rfl) ?hb ?hg
  case hb =>
    intro cdv A outer s H E hp hr C a hA
    unfold w_law_dg_ways
    exact (xs_par (env := fun g => [.im (qT qI) a.1, .un, .un, .un, .un, .un]) (i := 1) (j := 2) (xe_disp1 (E := (kxT kvI (by decide))) (units9 hr) (fun _ => (xe_var (pv 0))) (fun _ => xe_int)) (xe_sum rfl (by rfl) T.sum (xq_im (xe_var (pv 0)))) (fun v1 v2 => (xs_while (s0 := (v1, v2)) (pt := fun (s6 : ((List ((List Int) × Int)) × Int)) g => [.im (qT qI) a.1, .im (qTb P w (kxT kvI (by decide)) qI) s6.1, .im qI s6.2, .un, .un, .un]) PassesOwn.never (fun _ => (.keep (.keep (.keep (.keep (.keep (.keep .nil))))))) (fun s6 => (xt_cmpD cd_gt (xe_var (pv 2)) xe_int rfl)) (fun s6 => (xs_setT0 (E := (kxT kvI (by decide))) (rv := qI) (i := 3) (xs_for (s0 := ([] : (List ((List Int) × Int)))) (up := (uN 4 (qT qI))) (pt := fun (s11 : (List ((List Int) × Int))) g => [.im (qT qI) a.1, .im (qTb P w (kxT kvI (by decide)) qI) s6.1, .im qI s6.2, .ob (oTb P w (kxT kvI (by decide)) qI) s11, .un, .un]) PassesOwn.never rfl (xi_keysT (xe_var (pv 1))) (xg_name (pg_name (i := 4) sclaw_dg_ways.nd rfl (by first | exact .inl rfl | exact .inr rfl))) (fun _ => (.keep (.keep (.keep (.keep (.keep (.keep .nil))))))) (fun s11 x12 => (xs_for (s0 := s11) (up := (uN 5 (qT qI))) (pt := fun (s16 : (List ((List Int) × Int))) g => [.im (qT qI) a.1, .im (qTb P w (kxT kvI (by decide)) qI) s6.1, .im qI s6.2, .ob (oTb P w (kxT kvI (by decide)) qI) s16, .im (qT qI) x12, .un]) PassesOwn.never rfl (xi_seq (xe_callH h_law_dg_less hp hr (by decide) (by rfl) (xa_cons (xe_var (pv 4)) xa_nil))) (xg_name (pg_name (i := 5) sclaw_dg_ways.nd rfl (by first | exact .inl rfl | exact .inr rfl))) (fun _ => (.keep (.keep (.keep (.keep (.keep (.keep .nil))))))) (fun s16 x17 => (xs_putT (E := (kxT kvI (by decide))) (rv := qI) (i := 3) (units9 hr) (xe_add (xe_getT (E := (kxT kvI (by decide))) (i := 3) (units9 hr) (pv 3) (xe_var (pv 5)) xe_int) (xe_subF (units9 hr) (xe_var (pv 1)) (xe_var (pv 4)))) (pv 3) (xe_var (pv 5)) (fun d26 => (xs_nil (fun _ => (.keep (.keep (.keep (.keep (.keep (.drop .nil))))))))))) (fun s16 => (xs_nil (fun _ => (.keep (.keep (.keep (.keep (.drop (.keep .nil))))))))))) (fun s11 => (xs_lkT (E := (kxT kvI (by decide))) (rv := qI) 3 hA (xs_par (env := fun g => [.im (qT qI) a.1, .im (qTb P w (kxT kvI (by decide)) qI) s6.1, .im qI s6.2, .im (qTb P w (kxT kvI (by decide)) qI) s11, .un, .un]) (i := 1) (j := 2) (xe_dictP (E := (kxT kvI (by decide))) rfl (units64 hr) (by rfl) T.dict (xe_N (xn_listItT rfl (by rfl) T.list (xe_var (pv 3))))) (xe_sub (xe_var (pv 2)) xe_int) (fun v28 v29 => (xs_nil (fun _ => (.keep (.keep (.keep (.drop (.keep (.keep .nil))))))))) rfl sclaw_dg_ways.nd rfl rfl (by decide) rfl rfl rfl)))) sclaw_dg_ways.nd rfl (.inl rfl) rfl rfl)) (fun s6 => (xs_ret (xe_subF (units9 hr) (xe_var (pv 1)) (xe_tup0 (r := qI))))))) rfl sclaw_dg_ways.nd rfl rfl (by decide) rfl rfl rfl)
  case hg =>
    intro a
    simp only [m_law_dg_ways, o_law_dg_ways, w_law_dg_ways, ofO_rt, ofO_rtN, ofO_bind, ofO_some, ofO_if, ofO_up, ofO_lc, ofO_lca, ofO_lc2, ofO_for, ofO_while, ofO_bindF, ofO_no, ofO_optM]
abbrev sis_whole : Stmt := top 9
abbrev Nis_whole : List Str := ["value"]
theorem scis_whole : FnScope ["value"] ["value"] (defScope sis_whole) := ⟨rfl, rfl, rfl, by decide +kernel, rfl, by decide +kernel, by decide +kernel⟩
def w_is_whole (a : Int × Unit) : W (Fl Bool Empty Unit) :=
  ((((W.ret a.1).bind fun _ => (W.ret true)).bind fun p4 => (if p4 = true then (((W.ret a.1).bind fun _ => (W.ret false)).bind fun p3 => (W.ret (!p3))) else (W.ret false))).bind fun x5 => (W.ret (Fl.rt x5)))
def o_is_whole (a : Int × Unit) : Option (Fl Bool Empty Unit) :=
  ((((some a.1).bind fun _ => (some true)).bind fun p4 => (if p4 = true then (((some a.1).bind fun _ => (some false)).bind fun p3 => (some (!p3))) else (some false))).bind fun x5 => (some (Fl.rt x5)))
def m_is_whole (a : Int × Unit) : Option Bool := rtO (o_is_whole a)
theorem k_is_whole {f : Addr} {fd : FuncData} (F : Fun K "is_whole" "is_whole" sis_whole f fd) (T : Txt K mg) {π : Around → Prop} (sπ : Stb π) : FnP π P w K mg base CX0 1 f fd ["value"] (SpF (pC qI p0).ra qB m_is_whole) := by
  refine fn_okF (p := (pC qI p0)) (m := w_is_whole) (pn := (fun z _ => nomatch z)) (pl := fun _ _ => []) (env := fun a => [.im qI a.1]) 0 sπ F scis_whole rfl rfl (fun _ => rfl) ?hb ?hg
  case hb =>
    intro cdv A outer s H E hp hr C a hA
    unfold w_is_whole
    exact (xs_ret (xe_andB (xe_isi (ans := true) (hk := by decide +kernel) tyI (by rfl) T.isinstance (xe_var (pv 0)) (by rfl) T.int (n := "int") (by decide +kernel)) (xe_one (xe_not (xe_isi (ans := false) (hk := by decide +kernel) tyI (by rfl) T.isinstance (xe_var (pv 0)) (by rfl) T.bool (n := "bool") (by decide +kernel))))))
  case hg =>
    intro a
    simp only [m_is_whole, o_is_whole, w_is_whole, ofO_rt, ofO_rtN, ofO_bind, ofO_some, ofO_if, ofO_up, ofO_lc, ofO_lca, ofO_lc2, ofO_for, ofO_while, ofO_bindF, ofO_no, ofO_optM]
abbrev sis_integer : Stmt := top 10
abbrev Nis_integer : List Str := ["value"]
theorem scis_integer : FnScope ["value"] ["value"] (defScope sis_integer) := ⟨rfl, rfl, rfl, by decide +kernel, rfl, by decide +kernel, by decide +kernel⟩
def w_is_integer (a : Int × Unit) : W (Fl Bool Empty Unit) :=
  (((((W.ret a.1).bind fun x1 => ((W.ret ()).bind fun y2 => (W.ret (x1, y2)))).bind fun a3 => (ofO (m_is_whole a3))).bind fun p9 => (if p9 = true then (((W.ret (1000000000000000000000000000000000000000000000000000000000000 : Int)).bind fun p4 => (W.ret (-p4))).bind fun p5 => ((W.ret a.1).bind fun q6 => ((ofO (some (decide (p5 < q6)))).bind fun t8 => (if t8 = true then ((W.ret (1000000000000000000000000000000000000000000000000000000000000 : Int)).bind fun u7 => (ofO (some (decide (q6 < u7))))) else W.ret false)))) else (W.ret false))).bind fun x10 => (W.ret (Fl.rt x10)))
def o_is_integer (a : Int × Unit) : Option (Fl Bool Empty Unit) :=
  (((((some a.1).bind fun x1 => ((some ()).bind fun y2 => (some (x1, y2)))).bind fun a3 => (m_is_whole a3)).bind fun p9 => (if p9 = true then (((some (1000000000000000000000000000000000000000000000000000000000000 : Int)).bind fun p4 => (some (-p4))).bind fun p5 => ((some a.1).bind fun q6 => ((some (decide (p5 < q6))).bind fun t8 => (if t8 = true then ((some (1000000000000000000000000000000000000000000000000000000000000 : Int)).bind fun u7 => (some (decide (q6 < u7)))) else some false)))) else (some false))).bind fun x10 => (some (Fl.rt x10)))
def m_is_integer (a : Int × Unit) : Option Bool := rtO (o_is_integer a)
theorem k_is_integer {f : Addr} {fd : FuncData} (F : Fun K "is_integer" "is_integer" sis_integer f fd) (T : Txt K mg) {π : Around → Prop} (sπ : Stb π) (h_is_whole : Has P w K mg base π "is_whole" 1 ["value"] (SpF (pC qI p0).ra qB m_is_whole)) : FnP π P w K mg base CX0 2 f fd ["value"] (SpF (pC qI p0).ra qB m_is_integer) := by
  refine fn_okF (p := (pC qI p0)) (m := w_is_integer) (pn := (fun z _ => nomatch z)) (pl := fun _ _ => []) (env := fun a => [.im qI a.1]) 0 sπ F scis_integer rfl rfl (fun _ => rfl) ?hb ?hg
  case hb =>
    intro cdv A outer s H E hp hr C a hA
    unfold w_is_integer
    exact (xs_ret (xe_andB (xe_callH h_is_whole hp hr (by decide) (by rfl) (xa_cons (xe_var (pv 0)) xa_nil)) (xe_one (xe_chainD cd_lt cd_lt (xe_neg (xe_gintE (by rfl) T.g_FIRST_TOO_LONG_)) (xe_var (pv 0)) (xe_gintE (by rfl) T.g_FIRST_TOO_LONG_)))))
  case hg =>
    intro a
    simp only [m_is_integer, o_is_integer, w_is_integer, ofO_rt, ofO_rtN, ofO_bind, ofO_some, ofO_if, ofO_up, ofO_lc, ofO_lca, ofO_lc2, ofO_for, ofO_while, ofO_bindF, ofO_no, ofO_optM]
abbrev sis_lot : Stmt := top 19
abbrev Nis_lot : List Str := ["value", "at", "member"]
theorem scis_lot : FnScope ["value", "at", "member"] ["value"] (defScope sis_lot) := ⟨rfl, rfl, rfl, by decide +kernel, rfl, by decide +kernel, by decide +kernel⟩
def w_is_lot (a : (List Int) × Unit) : W (Fl Bool Empty Unit) :=
  (((((W.ret a.1).bind fun _ => (W.ret true)).bind fun b2 => (W.ret (!b2))).bind fun p10 => (if p10 = true then W.ret true else ((((W.ret a.1).bind fun xs7 => (lcW (fun (x3 : Int) => (W.ret true)) (fun (x3 : Int) => (((W.ret x3).bind fun x4 => ((W.ret ()).bind fun y5 => (W.ret (x4, y5)))).bind fun a6 => (ofO (m_is_integer a6)))) xs7)).bind fun x8 => (W.ret (x8.all id))).bind fun b9 => (W.ret (!b9))))).bind fun b11 => (if b11 = true then upF ((W.ret false).bind fun x12 => (W.ret (Fl.rt x12))) else ((((((((W.ret a.1).bind fun x13 => (W.ret (x13.length : Int))).bind fun p14 => ((W.ret (1 : Int)).bind fun q15 => (W.ret (p14 - q15)))).bind fun i16 => (ofO (rngC 0 i16))).bind fun xs26 => (lcW (fun (x17 : Int) => (W.ret true)) (fun (x17 : Int) => (((W.ret a.1).bind fun x18 => ((W.ret x17).bind fun i19 => (ofO (L2.atI x18 i19)))).bind fun p24 => (((W.ret a.1).bind fun x22 => (((W.ret x17).bind fun p20 => ((W.ret (1 : Int)).bind fun q21 => (W.ret (p20 + q21)))).bind fun i23 => (ofO (L2.atI x22 i23)))).bind fun q25 => (ofO (some (decide (q25 ≤ p24))))))) xs26)).bind fun x27 => (W.ret (x27.all id))).bind fun b28 => (W.ret (!b28))).bind fun b29 => (if b29 = true then upF ((W.ret false).bind fun x30 => (W.ret (Fl.rt x30))) else ((((W.ret a.1).bind fun p31 => ((W.ret ([] : List Int)).bind fun q32 => (ofO (some (PyData.eqv ((dT dI).d p31) ((dT dI).d q32)))))).bind fun p42 => (if p42 = true then (W.ret true) else ((((W.ret a.1).bind fun x34 => (((W.ret (1 : Int)).bind fun p33 => (W.ret (-p33))).bind fun i35 => (ofO (L2.atI x34 i35)))).bind fun p36 => ((W.ret (1 : Int)).bind fun q37 => (ofO (some (decide (q37 ≤ p36)))))).bind fun p41 => (if p41 = true then (((W.ret a.1).bind fun x38 => (W.ret x38.sum)).bind fun p39 => ((W.ret (24 : Int)).bind fun q40 => (ofO (some (decide (p39 ≤ q40)))))) else (W.ret false))))).bind fun x43 => (W.ret (Fl.rt x43)))))))
def o_is_lot (a : (List Int) × Unit) : Option (Fl Bool Empty Unit) :=
  (((((some a.1).bind fun _ => (some true)).bind fun b2 => (some (!b2))).bind fun p10 => (if p10 = true then some true else ((((some a.1).bind fun xs7 => (lcO (fun (x3 : Int) => (some true)) (fun (x3 : Int) => (((some x3).bind fun x4 => ((some ()).bind fun y5 => (some (x4, y5)))).bind fun a6 => (m_is_integer a6))) xs7)).bind fun x8 => (some (x8.all id))).bind fun b9 => (some (!b9))))).bind fun b11 => (if b11 = true then upO ((some false).bind fun x12 => (some (Fl.rt x12))) else ((((((((some a.1).bind fun x13 => (some (x13.length : Int))).bind fun p14 => ((some (1 : Int)).bind fun q15 => (some (p14 - q15)))).bind fun i16 => (rngC 0 i16)).bind fun xs26 => (lcO (fun (x17 : Int) => (some true)) (fun (x17 : Int) => (((some a.1).bind fun x18 => ((some x17).bind fun i19 => (L2.atI x18 i19))).bind fun p24 => (((some a.1).bind fun x22 => (((some x17).bind fun p20 => ((some (1 : Int)).bind fun q21 => (some (p20 + q21)))).bind fun i23 => (L2.atI x22 i23))).bind fun q25 => (some (decide (q25 ≤ p24)))))) xs26)).bind fun x27 => (some (x27.all id))).bind fun b28 => (some (!b28))).bind fun b29 => (if b29 = true then upO ((some false).bind fun x30 => (some (Fl.rt x30))) else ((((some a.1).bind fun p31 => ((some ([] : List Int)).bind fun q32 => (some (PyData.eqv ((dT dI).d p31) ((dT dI).d q32))))).bind fun p42 => (if p42 = true then (some true) else ((((some a.1).bind fun x34 => (((some (1 : Int)).bind fun p33 => (some (-p33))).bind fun i35 => (L2.atI x34 i35))).bind fun p36 => ((some (1 : Int)).bind fun q37 => (some (decide (q37 ≤ p36))))).bind fun p41 => (if p41 = true then (((some a.1).bind fun x38 => (some x38.sum)).bind fun p39 => ((some (24 : Int)).bind fun q40 => (some (decide (p39 ≤ q40))))) else (some false))))).bind fun x43 => (some (Fl.rt x43)))))))
def m_is_lot (a : (List Int) × Unit) : Option Bool := rtO (o_is_lot a)
theorem k_is_lot {f : Addr} {fd : FuncData} (F : Fun K "is_lot" "is_lot" sis_lot f fd) (T : Txt K mg) {π : Around → Prop} (sπ : Stb π) (h_is_integer : Has P w K mg base π "is_integer" 2 ["value"] (SpF (pC qI p0).ra qB m_is_integer)) : FnP π P w K mg base CX0 3 f fd ["value"] (SpF (pC (qT qI) p0).ra qB m_is_lot) := by
  refine fn_okF (p := (pC (qT qI) p0)) (m := w_is_lot) (pn := (fun z _ => nomatch z)) (pl := fun _ _ => []) (env := fun a => [.im (qT qI) a.1, .un, .un]) 2 sπ F scis_lot rfl rfl (fun _ => rfl) ?hb ?hg
  case hb =>
    intro cdv A outer s H E hp hr C a hA
    unfold w_is_lot
    exact (xs_ifx (PW.pt (xw_or (xt_not (xt_val (xe_isi (ans := true) (hk := by decide +kernel) tyT (by rfl) T.isinstance (xe_var (pv 0)) (by rfl) T.tuple (n := "tuple") (by decide +kernel)))) (xw_or1 (xt_not (xt_val (xe_all rfl (by rfl) T.all (xq_im (xe_N (xn_lc (own := [("member", 2)]) (up := (uN 2 qI)) rfl scis_lot.nd (xi_seq (xe_var (pv 0))) (blkOk_by (N := Nis_lot) (sc := defScope sis_lot) (by decide +kernel)) rfl (fun _ => rfl) (fun _ _ _ _ _ => (xg_name (pg_name (i := 2) scis_lot.nd rfl (by first | exact .inl rfl | exact .inr rfl)))) (fun _ _ _ _ _ _ x3 => xts_nil) (fun _ _ _ _ _ _ x3 => (xe_callH h_is_integer hp hr (by decide) (by rfl) (xa_cons (xe_var (pv 2)) xa_nil)))))))))))) (xs_ret xe_bl) (xs_ifx (xt_not (xt_val (xe_all rfl (by rfl) T.all (xq_im (xe_N (xn_lc (own := [("at", 1)]) (up := (uN 1 qI)) rfl scis_lot.nd (xi_rng1 (by rfl) T.range (xe_sub (xe_len (by rfl) T.len (xq_im (xe_var (pv 0)))) xe_int)) (blkOk_by (N := Nis_lot) (sc := defScope sis_lot) (by decide +kernel)) rfl (fun _ => rfl) (fun _ _ _ _ _ => (xg_name (pg_name (i := 1) scis_lot.nd rfl (by first | exact .inl rfl | exact .inr rfl)))) (fun _ _ _ _ _ _ x17 => xts_nil) (fun _ _ _ _ _ _ x17 => (xe_cmpD cd_ge (xe_ix (xq_im (xe_var (pv 0))) (xe_var (pv 1))) (xe_ix (xq_im (xe_var (pv 0))) (xe_add (xe_var (pv 1)) xe_int)) rfl)))))))) (xs_ret xe_bl) (xs_ret (xe_orB (xe_cmpD (cd_eq (dT dI) (dT dI) hr.units) (xe_var (pv 0)) (xe_tup0 (r := qI)) rfl) (xe_one (xe_andB (xe_cmpD cd_ge (xe_ix (xq_im (xe_var (pv 0))) (xe_neg xe_int)) xe_int rfl) (xe_one (xe_cmpD cd_le (xe_sum rfl (by rfl) T.sum (xq_im (xe_var (pv 0)))) (xe_gintE (by rfl) T.MAX_SUM_) rfl))))))))
  case hg =>
    intro a
    simp only [m_is_lot, o_is_lot, w_is_lot, ofO_rt, ofO_rtN, ofO_bind, ofO_some, ofO_if, ofO_up, ofO_lc, ofO_lca, ofO_lc2, ofO_for, ofO_while, ofO_bindF, ofO_no, ofO_optM]
abbrev scheck_lot : Stmt := top 20
abbrev Ncheck_lot : List Str := ["value"]
theorem sccheck_lot : FnScope ["value"] ["value"] (defScope scheck_lot) := ⟨rfl, rfl, rfl, by decide +kernel, rfl, by decide +kernel, by decide +kernel⟩
def w_check_lot (a : (List Int) × Unit) : W (Fl Unit Unit Unit) :=
  (((((W.ret a.1).bind fun x1 => ((W.ret ()).bind fun y2 => (W.ret (x1, y2)))).bind fun a3 => (ofO (m_is_lot a3))).bind fun b4 => (W.ret (!b4))).bind fun b5 => (if b5 = true then upF W.no else (W.ret (Fl.nx ()))))
def o_check_lot (a : (List Int) × Unit) : Option (Fl Unit Unit Unit) :=
  (((((some a.1).bind fun x1 => ((some ()).bind fun y2 => (some (x1, y2)))).bind fun a3 => (m_is_lot a3)).bind fun b4 => (some (!b4))).bind fun b5 => (if b5 = true then upO none else (some (Fl.nx ()))))
def m_check_lot (a : (List Int) × Unit) : Option Unit := rtNO (o_check_lot a)
theorem k_check_lot {f : Addr} {fd : FuncData} (F : Fun K "check_lot" "check_lot" scheck_lot f fd) (T : Txt K mg) {π : Around → Prop} (sπ : Stb π) (h_is_lot : Has P w K mg base π "is_lot" 3 ["value"] (SpF (pC (qT qI) p0).ra qB m_is_lot)) : FnP π P w K mg base CX0 4 f fd ["value"] (SpF (pC (qT qI) p0).ra qN m_check_lot) := by
  refine fn_okN (p := (pC (qT qI) p0)) (m := w_check_lot) (pn := (fun _ g => [.un])) (pl := fun _ _ => []) (env := fun a => [.im (qT qI) a.1]) 0 sπ F sccheck_lot rfl rfl (fun _ => rfl) ?hb ?hg
  case hb =>
    intro cdv A outer s H E hp hr C a hA
    unfold w_check_lot
    exact (xs_ifx (xt_not (xt_val (xe_callH h_is_lot hp hr (by decide) (by rfl) (xa_cons (xe_var (pv 0)) xa_nil)))) xs_never (xs_nil (fun _ => (.drop .nil))))
  case hg =>
    intro a
    simp only [m_check_lot, o_check_lot, w_check_lot, ofO_rt, ofO_rtN, ofO_bind, ofO_some, ofO_if, ofO_up, ofO_lc, ofO_lca, ofO_lc2, ofO_for, ofO_while, ofO_bindF, ofO_no, ofO_optM]
abbrev sis_count : Stmt := top 11
abbrev Nis_count : List Str := ["value", "low", "high"]
theorem scis_count : FnScope ["value", "low", "high"] ["value", "low", "high"] (defScope sis_count) := ⟨rfl, rfl, rfl, by decide +kernel, rfl, by decide +kernel, by decide +kernel⟩
def w_is_count (a : Int × Int × Int × Unit) : W (Fl Bool Empty Unit) :=
  (((((W.ret a.1).bind fun x1 => ((W.ret ()).bind fun y2 => (W.ret (x1, y2)))).bind fun a3 => (ofO (m_is_integer a3))).bind fun p8 => (if p8 = true then ((W.ret a.2.1).bind fun p4 => ((W.ret a.1).bind fun q5 => ((ofO (some (decide (p4 ≤ q5)))).bind fun t7 => (if t7 = true then ((W.ret a.2.2.1).bind fun u6 => (ofO (some (decide (q5 ≤ u6))))) else W.ret false)))) else (W.ret false))).bind fun x9 => (W.ret (Fl.rt x9)))
def o_is_count (a : Int × Int × Int × Unit) : Option (Fl Bool Empty Unit) :=
  (((((some a.1).bind fun x1 => ((some ()).bind fun y2 => (some (x1, y2)))).bind fun a3 => (m_is_integer a3)).bind fun p8 => (if p8 = true then ((some a.2.1).bind fun p4 => ((some a.1).bind fun q5 => ((some (decide (p4 ≤ q5))).bind fun t7 => (if t7 = true then ((some a.2.2.1).bind fun u6 => (some (decide (q5 ≤ u6)))) else some false)))) else (some false))).bind fun x9 => (some (Fl.rt x9)))
def m_is_count (a : Int × Int × Int × Unit) : Option Bool := rtO (o_is_count a)
theorem k_is_count {f : Addr} {fd : FuncData} (F : Fun K "is_count" "is_count" sis_count f fd) (T : Txt K mg) {π : Around → Prop} (sπ : Stb π) (h_is_integer : Has P w K mg base π "is_integer" 2 ["value"] (SpF (pC qI p0).ra qB m_is_integer)) : FnP π P w K mg base CX0 3 f fd ["value", "low", "high"] (SpF (pC qI (pC qI (pC qI p0))).ra qB m_is_count) := by
  refine fn_okF (p := (pC qI (pC qI (pC qI p0)))) (m := w_is_count) (pn := (fun z _ => nomatch z)) (pl := fun _ _ => []) (env := fun a => [.im qI a.1, .im qI a.2.1, .im qI a.2.2.1]) 0 sπ F scis_count rfl rfl (fun _ => rfl) ?hb ?hg
  case hb =>
    intro cdv A outer s H E hp hr C a hA
    unfold w_is_count
    exact (xs_ret (xe_andB (xe_callH h_is_integer hp hr (by decide) (by rfl) (xa_cons (xe_var (pv 0)) xa_nil)) (xe_one (xe_chainD cd_le cd_le (xe_var (pv 1)) (xe_var (pv 0)) (xe_var (pv 2))))))
  case hg =>
    intro a
    simp only [m_is_count, o_is_count, w_is_count, ofO_rt, ofO_rtN, ofO_bind, ofO_some, ofO_if, ofO_up, ofO_lc, ofO_lca, ofO_lc2, ofO_for, ofO_while, ofO_bindF, ofO_no, ofO_optM]
abbrev scheck_count : Stmt := top 12
abbrev Ncheck_count : List Str := ["value", "low", "high"]
theorem sccheck_count : FnScope ["value", "low", "high"] ["value", "low", "high"] (defScope scheck_count) := ⟨rfl, rfl, rfl, by decide +kernel, rfl, by decide +kernel, by decide +kernel⟩
def w_check_count (a : Int × Int × Int × Unit) : W (Fl Unit Unit Unit) :=
  (((((W.ret a.1).bind fun x5 => (((W.ret a.2.1).bind fun x3 => (((W.ret a.2.2.1).bind fun x1 => ((W.ret ()).bind fun y2 => (W.ret (x1, y2)))).bind fun y4 => (W.ret (x3, y4)))).bind fun y6 => (W.ret (x5, y6)))).bind fun a7 => (ofO (m_is_count a7))).bind fun b8 => (W.ret (!b8))).bind fun b9 => (if b9 = true then upF W.no else (W.ret (Fl.nx ()))))
def o_check_count (a : Int × Int × Int × Unit) : Option (Fl Unit Unit Unit) :=
  (((((some a.1).bind fun x5 => (((some a.2.1).bind fun x3 => (((some a.2.2.1).bind fun x1 => ((some ()).bind fun y2 => (some (x1, y2)))).bind fun y4 => (some (x3, y4)))).bind fun y6 => (some (x5, y6)))).bind fun a7 => (m_is_count a7)).bind fun b8 => (some (!b8))).bind fun b9 => (if b9 = true then upO none else (some (Fl.nx ()))))
def m_check_count (a : Int × Int × Int × Unit) : Option Unit := rtNO (o_check_count a)
theorem k_check_count {f : Addr} {fd : FuncData} (F : Fun K "check_count" "check_count" scheck_count f fd) (T : Txt K mg) {π : Around → Prop} (sπ : Stb π) (h_is_count : Has P w K mg base π "is_count" 3 ["value", "low", "high"] (SpF (pC qI (pC qI (pC qI p0))).ra qB m_is_count)) : FnP π P w K mg base CX0 4 f fd ["value", "low", "high"] (SpF (pC qI (pC qI (pC qI p0))).ra qN m_check_count) := by
  refine fn_okN (p := (pC qI (pC qI (pC qI p0)))) (m := w_check_count) (pn := (fun _ g => [.un, .un, .un])) (pl := fun _ _ => []) (env := fun a => [.im qI a.1, .im qI a.2.1, .im qI a.2.2.1]) 0 sπ F sccheck_count rfl rfl (fun _ => rfl) ?hb ?hg
  case hb =>
    intro cdv A outer s H E hp hr C a hA
    unfold w_check_count
    exact (xs_ifx (xt_not (xt_val (xe_callH h_is_count hp hr (by decide) (by rfl) (xa_cons (xe_var (pv 0)) (xa_cons (xe_var (pv 1)) (xa_cons (xe_var (pv 2)) xa_nil)))))) xs_never (xs_nil (fun _ => (.drop (.drop (.drop .nil))))))
  case hg =>
    intro a
    simp only [m_check_count, o_check_count, w_check_count, ofO_rt, ofO_rtN, ofO_bind, ofO_some, ofO_if, ofO_up, ofO_lc, ofO_lca, ofO_lc2, ofO_for, ofO_while, ofO_bindF, ofO_no, ofO_optM]
abbrev sfalling_product : Stmt := top 14
abbrev Nfalling_product : List Str := ["top", "low", "made", "less"]
theorem scfalling_product : FnScope ["top", "low", "made", "less"] ["top", "low"] (defScope sfalling_product) := ⟨rfl, rfl, rfl, by decide +kernel, rfl, by decide +kernel, by decide +kernel⟩
def w_falling_product (a : Int × Int × Unit) : W (Fl Int Empty Unit) :=
  ((W.ret (1 : Int)).bind fun (v1 : Int) => (((W.ret a.2.1).bind fun i2 => (ofO (rngC 0 i2))).bind fun xs11 => bindF (forL (fun (s3 : Int) (x4 : Int) => (((W.ret s3).bind fun p8 => (((W.ret a.1).bind fun p6 => ((W.ret x4).bind fun q7 => (W.ret (p6 - q7)))).bind fun q9 => (ofO (mulC p8 q9)))).bind fun (v5 : Int) => (W.ret (Fl.nx v5)))) xs11 v1) (fun (s3 : Int) => ((W.ret s3).bind fun x10 => (W.ret (Fl.rt x10))))))
def o_falling_product (a : Int × Int × Unit) : Option (Fl Int Empty Unit) :=
  ((some (1 : Int)).bind fun (v1 : Int) => (((some a.2.1).bind fun i2 => (rngC 0 i2)).bind fun xs11 => bindFO (forO (fun (s3 : Int) (x4 : Int) => (((some s3).bind fun p8 => (((some a.1).bind fun p6 => ((some x4).bind fun q7 => (some (p6 - q7)))).bind fun q9 => (mulC p8 q9))).bind fun (v5 : Int) => (some (Fl.nx v5)))) xs11 v1) (fun (s3 : Int) => ((some s3).bind fun x10 => (some (Fl.rt x10))))))
def m_falling_product (a : Int × Int × Unit) : Option Int := rtO (o_falling_product a)
theorem k_falling_product {f : Addr} {fd : FuncData} (F : Fun K "_falling_product" "_falling_product" sfalling_product f fd) (T : Txt K mg) {π : Around → Prop} (sπ : Stb π) : FnP π P w K mg base CX0 1 f fd ["top", "low"] (SpF (pC qI (pC qI p0)).ra qI m_falling_product) := by
  refine fn_okF (p := (pC qI (pC qI p0))) (m := w_falling_product) (pn := (fun z _ => nomatch z)) (pl := fun _ _ => []) (env := fun a => [.im qI a.1, .im qI a.2.1, .un, .un]) 2 sπ F scfalling_product rfl rfl (fun _ => rfl) ?hb ?hg
  case hb =>
    intro cdv A outer s H E hp hr C a hA
    unfold w_falling_product
    exact (xs_set (i := 2) xe_int (fun v1 => (xs_for (s0 := v1) (up := (uN 3 qI)) (pt := fun (s3 : Int) g => [.im qI a.1, .im qI a.2.1, .im qI s3, .un]) PassesOwn.never rfl (xi_rng1 (by rfl) T.range (xe_var (pv 1))) (xg_name (pg_name (i := 3) scfalling_product.nd rfl (by first | exact .inl rfl | exact .inr rfl))) (fun _ => (.keep (.keep (.keep (.keep .nil))))) (fun s3 x4 => (xs_set (i := 2) (xe_mul (xe_var (pv 2)) (xe_sub (xe_var (pv 0)) (xe_var (pv 3)))) (fun v5 => (xs_nil (fun _ => (.keep (.keep (.keep (.drop .nil))))))) scfalling_product.nd rfl (.inl rfl) rfl rfl)) (fun s3 => (xs_ret (xe_var (pv 2)))))) scfalling_product.nd rfl (.inl rfl) rfl rfl)
  case hg =>
    intro a
    simp only [m_falling_product, o_falling_product, w_falling_product, ofO_rt, ofO_rtN, ofO_bind, ofO_some, ofO_if, ofO_up, ofO_lc, ofO_lca, ofO_lc2, ofO_for, ofO_while, ofO_bindF, ofO_no, ofO_optM]
abbrev sfactorial : Stmt := top 13
abbrev Nfactorial : List Str := ["number"]
theorem scfactorial : FnScope ["number"] ["number"] (defScope sfactorial) := ⟨rfl, rfl, rfl, by decide +kernel, rfl, by decide +kernel, by decide +kernel⟩
def w_factorial (a : Int × Unit) : W (Fl Int Empty Unit) :=
  ((((W.ret a.1).bind fun x5 => (((W.ret (0 : Int)).bind fun x3 => (((W.ret (1000 : Int)).bind fun x1 => ((W.ret ()).bind fun y2 => (W.ret (x1, y2)))).bind fun y4 => (W.ret (x3, y4)))).bind fun y6 => (W.ret (x5, y6)))).bind fun a7 => (ofO (m_check_count a7))).bind fun _v8 => ((((W.ret a.1).bind fun x11 => (((W.ret a.1).bind fun x9 => ((W.ret ()).bind fun y10 => (W.ret (x9, y10)))).bind fun y12 => (W.ret (x11, y12)))).bind fun a13 => (ofO (m_falling_product a13))).bind fun x14 => (W.ret (Fl.rt x14))))
def o_factorial (a : Int × Unit) : Option (Fl Int Empty Unit) :=
  ((((some a.1).bind fun x5 => (((some (0 : Int)).bind fun x3 => (((some (1000 : Int)).bind fun x1 => ((some ()).bind fun y2 => (some (x1, y2)))).bind fun y4 => (some (x3, y4)))).bind fun y6 => (some (x5, y6)))).bind fun a7 => (m_check_count a7)).bind fun _v8 => ((((some a.1).bind fun x11 => (((some a.1).bind fun x9 => ((some ()).bind fun y10 => (some (x9, y10)))).bind fun y12 => (some (x11, y12)))).bind fun a13 => (m_falling_product a13)).bind fun x14 => (some (Fl.rt x14))))
def m_factorial (a : Int × Unit) : Option Int := rtO (o_factorial a)
theorem k_factorial {f : Addr} {fd : FuncData} (F : Fun K "factorial" "factorial" sfactorial f fd) (T : Txt K mg) {π : Around → Prop} (sπ : Stb π) (h_check_count : Has P w K mg base π "check_count" 4 ["value", "low", "high"] (SpF (pC qI (pC qI (pC qI p0))).ra qN m_check_count)) (h_falling_product : Has P w K mg base π "_falling_product" 1 ["top", "low"] (SpF (pC qI (pC qI p0)).ra qI m_falling_product)) : FnP π P w K mg base CX0 5 f fd ["number"] (SpF (pC qI p0).ra qI m_factorial) := by
  refine fn_okF (p := (pC qI p0)) (m := w_factorial) (pn := (fun z _ => nomatch z)) (pl := fun _ _ => []) (env := fun a => [.im qI a.1]) 0 sπ F scfactorial rfl rfl (fun _ => rfl) ?hb ?hg
  case hb =>
    intro cdv A outer s H E hp hr C a hA
    unfold w_factorial
    exact (xs_exp (xe_callH h_check_count hp hr (by decide) (by rfl) (xa_cons (xe_var (pv 0)) (xa_cons xe_int (xa_cons (xe_gintE (by rfl) T.MAX_CHOSEN_) xa_nil)))) (fun _v8 => (xs_ret (xe_callH h_falling_product hp hr (by decide) (by rfl) (xa_cons (xe_var (pv 0)) (xa_cons (xe_var (pv 0)) xa_nil))))))
  case hg =>
    intro a
    simp only [m_factorial, o_factorial, w_factorial, ofO_rt, ofO_rtN, ofO_bind, ofO_some, ofO_if, ofO_up, ofO_lc, ofO_lca, ofO_lc2, ofO_for, ofO_while, ofO_bindF, ofO_no, ofO_optM]
abbrev scolumns : Stmt := top 24
abbrev Ncolumns : List Str := ["lot", "column", "member"]
theorem sccolumns : FnScope ["lot", "column", "member"] ["lot"] (defScope scolumns) := ⟨rfl, rfl, rfl, by decide +kernel, rfl, by decide +kernel, by decide +kernel⟩
def w_columns (a : (List Int) × Unit) : W (Fl (List Int) Empty Unit) :=
  (((W.ret a.1).bind fun p1 => ((W.ret ([] : List Int)).bind fun q2 => (ofO (some (PyData.eqv ((dT dI).d p1) ((dT dI).d q2)))))).bind fun b3 => (if b3 = true then upF ((W.ret ([] : List Int)).bind fun x4 => (W.ret (Fl.rt x4))) else (((((W.ret a.1).bind fun x5 => ((W.ret (0 : Int)).bind fun i6 => (ofO (L2.atI x5 i6)))).bind fun i7 => (ofO (rngC 0 i7))).bind fun xs14 => (lcW (fun (x8 : Int) => (W.ret true)) (fun (x8 : Int) => (((W.ret a.1).bind fun xs12 => (lcW (fun (x9 : Int) => ((W.ret x9).bind fun p10 => ((W.ret x8).bind fun q11 => (ofO (some (decide (q11 < p10))))))) (fun (x9 : Int) => (W.ret x9)) xs12)).bind fun x13 => (W.ret (x13.length : Int)))) xs14)).bind fun x15 => (W.ret (Fl.rt x15)))))
def o_columns (a : (List Int) × Unit) : Option (Fl (List Int) Empty Unit) :=
  (((some a.1).bind fun p1 => ((some ([] : List Int)).bind fun q2 => (some (PyData.eqv ((dT dI).d p1) ((dT dI).d q2))))).bind fun b3 => (if b3 = true then upO ((some ([] : List Int)).bind fun x4 => (some (Fl.rt x4))) else (((((some a.1).bind fun x5 => ((some (0 : Int)).bind fun i6 => (L2.atI x5 i6))).bind fun i7 => (rngC 0 i7)).bind fun xs14 => (lcO (fun (x8 : Int) => (some true)) (fun (x8 : Int) => (((some a.1).bind fun xs12 => (lcO (fun (x9 : Int) => ((some x9).bind fun p10 => ((some x8).bind fun q11 => (some (decide (q11 < p10)))))) (fun (x9 : Int) => (some x9)) xs12)).bind fun x13 => (some (x13.length : Int)))) xs14)).bind fun x15 => (some (Fl.rt x15)))))
def m_columns (a : (List Int) × Unit) : Option (List Int) := rtO (o_columns a)
theorem k_columns {f : Addr} {fd : FuncData} (F : Fun K "_columns" "_columns" scolumns f fd) (T : Txt K mg) {π : Around → Prop} (sπ : Stb π) : FnP π P w K mg base CX0 1 f fd ["lot"] (SpF (pC (qT qI) p0).ra (qT qI) m_columns) := by
  refine fn_okF (p := (pC (qT qI) p0)) (m := w_columns) (pn := (fun z _ => nomatch z)) (pl := fun _ _ => []) (env := fun a => [.im (qT qI) a.1, .un, .un]) 2 sπ F sccolumns rfl rfl (fun _ => rfl) ?hb ?hg
  case hb =>
    intro cdv A outer s H E hp hr C a hA
    unfold w_columns
    exact (xs_ifx (xt_cmpD (cd_eq (dT dI) (dT dI) hr.units) (xe_var (pv 0)) (xe_tup0 (r := qI)) rfl) (xs_ret (xe_tup0 (r := qI))) (xs_ret (xe_tuple (by rfl) T.tuple (xq_im (xe_N (xn_lc (own := [("column", 1)]) (up := (uN 1 qI)) rfl sccolumns.nd (xi_rng1 (by rfl) T.range (xe_ix (xq_im (xe_var (pv 0))) xe_int)) (blkOk_by (N := Ncolumns) (sc := defScope scolumns) (by decide +kernel)) rfl (fun _ => rfl) (fun _ _ _ _ _ => (xg_name (pg_name (i := 1) sccolumns.nd rfl (by first | exact .inl rfl | exact .inr rfl)))) (fun _ _ _ _ _ _ x8 => xts_nil) (fun _ _ _ _ _ _ x8 => (xe_len (by rfl) T.len (xq_im (xe_N (xn_lc (own := [("member", 2)]) (up := (uN 2 qI)) rfl sccolumns.nd (xi_seq (xe_var (pv 0))) (blkOk_by (by rfl)) rfl (fun _ => rfl) (fun _ _ _ _ _ => (xg_name (pg_name (i := 2) sccolumns.nd rfl (by first | exact .inl rfl | exact .inr rfl)))) (fun _ _ _ _ _ _ x9 => (xts_one (xt_cmpD cd_gt (xe_var (pv 2)) (xe_var (pv 1)) rfl))) (fun _ _ _ _ _ _ x9 => (xe_var (pv 2))))))))))))))
  case hg =>
    intro a
    simp only [m_columns, o_columns, w_columns, ofO_rt, ofO_rtN, ofO_bind, ofO_some, ofO_if, ofO_up, ofO_lc, ofO_lca, ofO_lc2, ofO_for, ofO_while, ofO_bindF, ofO_no, ofO_optM]
abbrev sconjugate : Stmt := top 23
abbrev Nconjugate : List Str := ["lot"]
theorem scconjugate : FnScope ["lot"] ["lot"] (defScope sconjugate) := ⟨rfl, rfl, rfl, by decide +kernel, rfl, by decide +kernel, by decide +kernel⟩
def w_conjugate (a : (List Int) × Unit) : W (Fl (List Int) Empty Unit) :=
  ((((W.ret a.1).bind fun x1 => ((W.ret ()).bind fun y2 => (W.ret (x1, y2)))).bind fun a3 => (ofO (m_check_lot a3))).bind fun _v4 => ((((W.ret a.1).bind fun x5 => ((W.ret ()).bind fun y6 => (W.ret (x5, y6)))).bind fun a7 => (ofO (m_columns a7))).bind fun x8 => (W.ret (Fl.rt x8))))
def o_conjugate (a : (List Int) × Unit) : Option (Fl (List Int) Empty Unit) :=
  ((((some a.1).bind fun x1 => ((some ()).bind fun y2 => (some (x1, y2)))).bind fun a3 => (m_check_lot a3)).bind fun _v4 => ((((some a.1).bind fun x5 => ((some ()).bind fun y6 => (some (x5, y6)))).bind fun a7 => (m_columns a7)).bind fun x8 => (some (Fl.rt x8))))
def m_conjugate (a : (List Int) × Unit) : Option (List Int) := rtO (o_conjugate a)
theorem k_conjugate {f : Addr} {fd : FuncData} (F : Fun K "conjugate" "conjugate" sconjugate f fd) (T : Txt K mg) {π : Around → Prop} (sπ : Stb π) (h_check_lot : Has P w K mg base π "check_lot" 4 ["value"] (SpF (pC (qT qI) p0).ra qN m_check_lot)) (h_columns : Has P w K mg base π "_columns" 1 ["lot"] (SpF (pC (qT qI) p0).ra (qT qI) m_columns)) : FnP π P w K mg base CX0 5 f fd ["lot"] (SpF (pC (qT qI) p0).ra (qT qI) m_conjugate) := by
  refine fn_okF (p := (pC (qT qI) p0)) (m := w_conjugate) (pn := (fun z _ => nomatch z)) (pl := fun _ _ => []) (env := fun a => [.im (qT qI) a.1]) 0 sπ F scconjugate rfl rfl (fun _ => rfl) ?hb ?hg
  case hb =>
    intro cdv A outer s H E hp hr C a hA
    unfold w_conjugate
    exact (xs_exp (xe_callH h_check_lot hp hr (by decide) (by rfl) (xa_cons (xe_var (pv 0)) xa_nil)) (fun _v4 => (xs_ret (xe_callH h_columns hp hr (by decide) (by rfl) (xa_cons (xe_var (pv 0)) xa_nil)))))
  case hg =>
    intro a
    simp only [m_conjugate, o_conjugate, w_conjugate, ofO_rt, ofO_rtN, ofO_bind, ofO_some, ofO_if, ofO_up, ofO_lc, ofO_lca, ofO_lc2, ofO_for, ofO_while, ofO_bindF, ofO_no, ofO_optM]
abbrev ssquares_of : Stmt := top 25
abbrev Nsquares_of : List Str := ["lot", "column", "row", "member"]
theorem scsquares_of : FnScope ["lot", "column", "row", "member"] ["lot"] (defScope ssquares_of) := ⟨rfl, rfl, rfl, by decide +kernel, rfl, by decide +kernel, by decide +kernel⟩
def w_squares_of (a : (List Int) × Unit) : W (Fl (List (Int × Int)) Empty Unit) :=
  ((((W.ret a.1).bind fun x1 => ((W.ret ()).bind fun y2 => (W.ret (x1, y2)))).bind fun a3 => (ofO (m_check_lot a3))).bind fun _v4 => ((((W.ret a.1).bind fun x5 => (W.ret (enumI x5))).bind fun xs11 => (lcW2 (fun (x6 : (Int × Int)) => (W.ret true)) (fun (x6 : (Int × Int)) (acc13 : List (Int × Int)) => (((W.ret x6.2).bind fun i7 => (ofO (rngC 0 i7))).bind fun ys12 => lcWa (fun (y8 : Int) => (W.ret true)) (fun (y8 : Int) => ((W.ret x6.1).bind fun x9 => ((W.ret y8).bind fun x10 => (W.ret (x9, x10))))) ys12 acc13)) xs11 [])).bind fun x14 => (W.ret (Fl.rt x14))))
def o_squares_of (a : (List Int) × Unit) : Option (Fl (List (Int × Int)) Empty Unit) :=
  ((((some a.1).bind fun x1 => ((some ()).bind fun y2 => (some (x1, y2)))).bind fun a3 => (m_check_lot a3)).bind fun _v4 => ((((some a.1).bind fun x5 => (some (enumI x5))).bind fun xs11 => (lcO2 (fun (x6 : (Int × Int)) => (some true)) (fun (x6 : (Int × Int)) (acc13 : List (Int × Int)) => (((some x6.2).bind fun i7 => (rngC 0 i7)).bind fun ys12 => lcOa (fun (y8 : Int) => (some true)) (fun (y8 : Int) => ((some x6.1).bind fun x9 => ((some y8).bind fun x10 => (some (x9, x10))))) ys12 acc13)) xs11 [])).bind fun x14 => (some (Fl.rt x14))))
def m_squares_of (a : (List Int) × Unit) : Option (List (Int × Int)) := rtO (o_squares_of a)
theorem k_squares_of {f : Addr} {fd : FuncData} (F : Fun K "squares_of" "squares_of" ssquares_of f fd) (T : Txt K mg) {π : Around → Prop} (sπ : Stb π) (h_check_lot : Has P w K mg base π "check_lot" 4 ["value"] (SpF (pC (qT qI) p0).ra qN m_check_lot)) : FnP π P w K mg base CX0 5 f fd ["lot"] (SpF (pC (qT qI) p0).ra (qT (qP qI qI)) m_squares_of) := by
  refine fn_okF (p := (pC (qT qI) p0)) (m := w_squares_of) (pn := (fun z _ => nomatch z)) (pl := fun _ _ => []) (env := fun a => [.im (qT qI) a.1, .un, .un, .un]) 3 sπ F scsquares_of rfl rfl (fun _ => rfl) ?hb ?hg
  case hb =>
    intro cdv A outer s H E hp hr C a hA
    unfold w_squares_of
    exact (xs_exp (xe_callH h_check_lot hp hr (by decide) (by rfl) (xa_cons (xe_var (pv 0)) xa_nil)) (fun _v4 => (xs_ret (xe_tuple (by rfl) T.tuple (xq_im (xe_N (xn_lc2 (own := [("row", 2), ("member", 3), ("column", 1)]) (vs1 := [1]) (up := (uP (uN 2 qI) (uN 3 qI))) (up1 := (uN 1 qI)) rfl scsquares_of.nd (xi_enT (by rfl) T.enumerate (xe_var (pv 0))) (blkOk_by (N := Nsquares_of) (sc := defScope ssquares_of) (by decide +kernel)) (by decide) rfl rfl (fun _ => rfl) (fun _ _ => rfl) (fun _ _ => rfl) (fun _ _ _ _ _ => (xg_pairW rfl (xg_name (pg_name (i := 2) scsquares_of.nd rfl (by first | exact .inl rfl | exact .inr rfl))) (xg_name (pg_name (i := 3) scsquares_of.nd rfl (by first | exact .inl rfl | exact .inr rfl))))) (fun _ _ _ _ _ _ x6 => xts_nil) (fun _ _ _ _ _ _ x6 => (xi_rng1 (by rfl) T.range (xe_var (pv 3)))) (fun _ _ _ _ _ => (xg_name (pg_name (i := 1) scsquares_of.nd rfl (by first | exact .inl rfl | exact .inr rfl)))) (fun _ _ _ _ _ _ x6 y8 => xts_nil) (fun _ _ _ _ _ _ x6 y8 => (xe_tup2 (xe_var (pv 2)) (xe_var (pv 1)))))))))))
  case hg =>
    intro a
    simp only [m_squares_of, o_squares_of, w_squares_of, ofO_rt, ofO_rtN, ofO_bind, ofO_some, ofO_if, ofO_up, ofO_lc, ofO_lca, ofO_lc2, ofO_for, ofO_while, ofO_bindF, ofO_no, ofO_optM]
abbrev shook_at : Stmt := top 26
abbrev Nhook_at : List Str := ["lot", "columns", "row", "column"]
theorem schook_at : FnScope ["lot", "columns", "row", "column"] ["lot", "columns", "row", "column"] (defScope shook_at) := ⟨rfl, rfl, rfl, by decide +kernel, rfl, by decide +kernel, by decide +kernel⟩
def w_hook_at (a : (List Int) × (List Int) × Int × Int × Unit) : W (Fl Int Empty Unit) :=
  (((((((W.ret a.1).bind fun x1 => ((W.ret a.2.2.1).bind fun i2 => (ofO (L2.atI x1 i2)))).bind fun p3 => ((W.ret a.2.2.2.1).bind fun q4 => (W.ret (p3 - q4)))).bind fun p7 => (((W.ret a.2.1).bind fun x5 => ((W.ret a.2.2.2.1).bind fun i6 => (ofO (L2.atI x5 i6)))).bind fun q8 => (W.ret (p7 + q8)))).bind fun p9 => ((W.ret a.2.2.1).bind fun q10 => (W.ret (p9 - q10)))).bind fun p11 => ((W.ret (1 : Int)).bind fun q12 => (W.ret (p11 - q12)))).bind fun x13 => (W.ret (Fl.rt x13)))
def o_hook_at (a : (List Int) × (List Int) × Int × Int × Unit) : Option (Fl Int Empty Unit) :=
  (((((((some a.1).bind fun x1 => ((some a.2.2.1).bind fun i2 => (L2.atI x1 i2))).bind fun p3 => ((some a.2.2.2.1).bind fun q4 => (some (p3 - q4)))).bind fun p7 => (((some a.2.1).bind fun x5 => ((some a.2.2.2.1).bind fun i6 => (L2.atI x5 i6))).bind fun q8 => (some (p7 + q8)))).bind fun p9 => ((some a.2.2.1).bind fun q10 => (some (p9 - q10)))).bind fun p11 => ((some (1 : Int)).bind fun q12 => (some (p11 - q12)))).bind fun x13 => (some (Fl.rt x13)))
def m_hook_at (a : (List Int) × (List Int) × Int × Int × Unit) : Option Int := rtO (o_hook_at a)
theorem k_hook_at {f : Addr} {fd : FuncData} (F : Fun K "_hook_at" "_hook_at" shook_at f fd) (T : Txt K mg) {π : Around → Prop} (sπ : Stb π) : FnP π P w K mg base CX0 1 f fd ["lot", "columns", "row", "column"] (SpF (pC (qT qI) (pC (qT qI) (pC qI (pC qI p0)))).ra qI m_hook_at) := by
  refine fn_okF (p := (pC (qT qI) (pC (qT qI) (pC qI (pC qI p0))))) (m := w_hook_at) (pn := (fun z _ => nomatch z)) (pl := fun _ _ => []) (env := fun a => [.im (qT qI) a.1, .im (qT qI) a.2.1, .im qI a.2.2.1, .im qI a.2.2.2.1]) 0 sπ F schook_at rfl rfl (fun _ => rfl) ?hb ?hg
  case hb =>
    intro cdv A outer s H E hp hr C a hA
    unfold w_hook_at
    exact (xs_ret (xe_sub (xe_sub (xe_add (xe_sub (xe_ix (xq_im (xe_var (pv 0))) (xe_var (pv 2))) (xe_var (pv 3))) (xe_ix (xq_im (xe_var (pv 1))) (xe_var (pv 3)))) (xe_var (pv 2))) xe_int))
  case hg =>
    intro a
    simp only [m_hook_at, o_hook_at, w_hook_at, ofO_rt, ofO_rtN, ofO_bind, ofO_some, ofO_if, ofO_up, ofO_lc, ofO_lca, ofO_lc2, ofO_for, ofO_while, ofO_bindF, ofO_no, ofO_optM]
abbrev shooks_product : Stmt := top 27
abbrev Nhooks_product : List Str := ["lot", "columns", "made", "row", "column"]
theorem schooks_product : FnScope ["lot", "columns", "made", "row", "column"] ["lot"] (defScope shooks_product) := ⟨rfl, rfl, rfl, by decide +kernel, rfl, by decide +kernel, by decide +kernel⟩
def w_hooks_product (a : (List Int) × Unit) : W (Fl Int Empty Unit) :=
  ((((W.ret a.1).bind fun x3 => ((W.ret ()).bind fun y4 => (W.ret (x3, y4)))).bind fun a5 => (ofO (m_conjugate a5))).bind fun (v1 : (List Int)) => ((W.ret (1 : Int)).bind fun (v2 : Int) => ((((W.ret a.1).bind fun x6 => ((W.ret ()).bind fun y7 => (W.ret (x6, y7)))).bind fun a8 => (ofO (m_squares_of a8))).bind fun xs24 => bindF (forL (fun (s9 : Int) (x10 : (Int × Int)) => (((W.ret s9).bind fun p21 => ((((W.ret a.1).bind fun x18 => (((W.ret v1).bind fun x16 => (((W.ret x10.1).bind fun x14 => (((W.ret x10.2).bind fun x12 => ((W.ret ()).bind fun y13 => (W.ret (x12, y13)))).bind fun y15 => (W.ret (x14, y15)))).bind fun y17 => (W.ret (x16, y17)))).bind fun y19 => (W.ret (x18, y19)))).bind fun a20 => (ofO (m_hook_at a20))).bind fun q22 => (ofO (mulC p21 q22)))).bind fun (v11 : Int) => (W.ret (Fl.nx v11)))) xs24 v2) (fun (s9 : Int) => ((W.ret s9).bind fun x23 => (W.ret (Fl.rt x23)))))))
def o_hooks_product (a : (List Int) × Unit) : Option (Fl Int Empty Unit) :=
  ((((some a.1).bind fun x3 => ((some ()).bind fun y4 => (some (x3, y4)))).bind fun a5 => (m_conjugate a5)).bind fun (v1 : (List Int)) => ((some (1 : Int)).bind fun (v2 : Int) => ((((some a.1).bind fun x6 => ((some ()).bind fun y7 => (some (x6, y7)))).bind fun a8 => (m_squares_of a8)).bind fun xs24 => bindFO (forO (fun (s9 : Int) (x10 : (Int × Int)) => (((some s9).bind fun p21 => ((((some a.1).bind fun x18 => (((some v1).bind fun x16 => (((some x10.1).bind fun x14 => (((some x10.2).bind fun x12 => ((some ()).bind fun y13 => (some (x12, y13)))).bind fun y15 => (some (x14, y15)))).bind fun y17 => (some (x16, y17)))).bind fun y19 => (some (x18, y19)))).bind fun a20 => (m_hook_at a20)).bind fun q22 => (mulC p21 q22))).bind fun (v11 : Int) => (some (Fl.nx v11)))) xs24 v2) (fun (s9 : Int) => ((some s9).bind fun x23 => (some (Fl.rt x23)))))))
def m_hooks_product (a : (List Int) × Unit) : Option Int := rtO (o_hooks_product a)
theorem k_hooks_product {f : Addr} {fd : FuncData} (F : Fun K "hooks_product" "hooks_product" shooks_product f fd) (T : Txt K mg) {π : Around → Prop} (sπ : Stb π) (h_conjugate : Has P w K mg base π "conjugate" 5 ["lot"] (SpF (pC (qT qI) p0).ra (qT qI) m_conjugate)) (h_hook_at : Has P w K mg base π "_hook_at" 1 ["lot", "columns", "row", "column"] (SpF (pC (qT qI) (pC (qT qI) (pC qI (pC qI p0)))).ra qI m_hook_at)) (h_squares_of : Has P w K mg base π "squares_of" 5 ["lot"] (SpF (pC (qT qI) p0).ra (qT (qP qI qI)) m_squares_of)) : FnP π P w K mg base CX0 6 f fd ["lot"] (SpF (pC (qT qI) p0).ra qI m_hooks_product) := by
  refine fn_okF (p := (pC (qT qI) p0)) (m := w_hooks_product) (pn := (fun z _ => nomatch z)) (pl := fun _ _ => []) (env := fun a => [.im (qT qI) a.1, .un, .un, .un, .un]) 4 sπ F schooks_product rfl rfl (fun _ => rfl) ?hb ?hg
  case hb =>
    intro cdv A outer s H E hp hr C a hA
    unfold w_hooks_product
    exact (xs_par (env := fun g => [.im (qT qI) a.1, .un, .un, .un, .un]) (i := 1) (j := 2) (xe_callH h_conjugate hp hr (by decide) (by rfl) (xa_cons (xe_var (pv 0)) xa_nil)) xe_int (fun v1 v2 => (xs_for (s0 := v2) (up := (uP (uN 3 qI) (uN 4 qI))) (pt := fun (s9 : Int) g => [.im (qT qI) a.1, .im (qT qI) v1, .im qI s9, .un, .un]) PassesOwn.never rfl (xi_seq (xe_callH h_squares_of hp hr (by decide) (by rfl) (xa_cons (xe_var (pv 0)) xa_nil))) (xg_pair rfl (xg_name (pg_name (i := 3) schooks_product.nd rfl (by first | exact .inl rfl | exact .inr rfl))) (xg_name (pg_name (i := 4) schooks_product.nd rfl (by first | exact .inl rfl | exact .inr rfl)))) (fun _ => (.keep (.keep (.keep (.keep (.keep .nil)))))) (fun s9 x10 => (xs_set (i := 2) (xe_mul (xe_var (pv 2)) (xe_callH h_hook_at hp hr (by decide) (by rfl) (xa_cons (xe_var (pv 0)) (xa_cons (xe_var (pv 1)) (xa_cons (xe_var (pv 3)) (xa_cons (xe_var (pv 4)) xa_nil)))))) (fun v11 => (xs_nil (fun _ => (.keep (.keep (.keep (.drop (.drop .nil)))))))) schooks_product.nd rfl (.inl rfl) rfl rfl)) (fun s9 => (xs_ret (xe_var (pv 2)))))) rfl schooks_product.nd rfl rfl (by decide) rfl rfl rfl)
  case hg =>
    intro a
    simp only [m_hooks_product, o_hooks_product, w_hooks_product, ofO_rt, ofO_rtN, ofO_bind, ofO_some, ofO_if, ofO_up, ofO_lc, ofO_lca, ofO_lc2, ofO_for, ofO_while, ofO_bindF, ofO_no, ofO_optM]
abbrev sdimension : Stmt := top 28
abbrev Ndimension : List Str := ["lot"]
theorem scdimension : FnScope ["lot"] ["lot"] (defScope sdimension) := ⟨rfl, rfl, rfl, by decide +kernel, rfl, by decide +kernel, by decide +kernel⟩
def w_dimension (a : (List Int) × Unit) : W (Fl Int Empty Unit) :=
  ((((W.ret a.1).bind fun x1 => ((W.ret ()).bind fun y2 => (W.ret (x1, y2)))).bind fun a3 => (ofO (m_check_lot a3))).bind fun _v4 => ((((((W.ret a.1).bind fun x5 => (W.ret x5.sum)).bind fun x6 => ((W.ret ()).bind fun y7 => (W.ret (x6, y7)))).bind fun a8 => (ofO (m_factorial a8))).bind fun p12 => ((((W.ret a.1).bind fun x9 => ((W.ret ()).bind fun y10 => (W.ret (x9, y10)))).bind fun a11 => (ofO (m_hooks_product a11))).bind fun q13 => (ofO (divC p12 q13)))).bind fun x14 => (W.ret (Fl.rt x14))))
def o_dimension (a : (List Int) × Unit) : Option (Fl Int Empty Unit) :=
  ((((some a.1).bind fun x1 => ((some ()).bind fun y2 => (some (x1, y2)))).bind fun a3 => (m_check_lot a3)).bind fun _v4 => ((((((some a.1).bind fun x5 => (some x5.sum)).bind fun x6 => ((some ()).bind fun y7 => (some (x6, y7)))).bind fun a8 => (m_factorial a8)).bind fun p12 => ((((some a.1).bind fun x9 => ((some ()).bind fun y10 => (some (x9, y10)))).bind fun a11 => (m_hooks_product a11)).bind fun q13 => (divC p12 q13))).bind fun x14 => (some (Fl.rt x14))))
def m_dimension (a : (List Int) × Unit) : Option Int := rtO (o_dimension a)
theorem k_dimension {f : Addr} {fd : FuncData} (F : Fun K "dimension" "dimension" sdimension f fd) (T : Txt K mg) {π : Around → Prop} (sπ : Stb π) (h_check_lot : Has P w K mg base π "check_lot" 4 ["value"] (SpF (pC (qT qI) p0).ra qN m_check_lot)) (h_factorial : Has P w K mg base π "factorial" 5 ["number"] (SpF (pC qI p0).ra qI m_factorial)) (h_hooks_product : Has P w K mg base π "hooks_product" 6 ["lot"] (SpF (pC (qT qI) p0).ra qI m_hooks_product)) : FnP π P w K mg base CX0 7 f fd ["lot"] (SpF (pC (qT qI) p0).ra qI m_dimension) := by
  refine fn_okF (p := (pC (qT qI) p0)) (m := w_dimension) (pn := (fun z _ => nomatch z)) (pl := fun _ _ => []) (env := fun a => [.im (qT qI) a.1]) 0 sπ F scdimension rfl rfl (fun _ => rfl) ?hb ?hg
  case hb =>
    intro cdv A outer s H E hp hr C a hA
    unfold w_dimension
    exact (xs_exp (xe_callH h_check_lot hp hr (by decide) (by rfl) (xa_cons (xe_var (pv 0)) xa_nil)) (fun _v4 => (xs_ret (xe_fdiv (xe_callH h_factorial hp hr (by decide) (by rfl) (xa_cons (xe_sum rfl (by rfl) T.sum (xq_im (xe_var (pv 0)))) xa_nil)) (xe_callH h_hooks_product hp hr (by decide) (by rfl) (xa_cons (xe_var (pv 0)) xa_nil))))))
  case hg =>
    intro a
    simp only [m_dimension, o_dimension, w_dimension, ofO_rt, ofO_rtN, ofO_bind, ofO_some, ofO_if, ofO_up, ofO_lc, ofO_lca, ofO_lc2, ofO_for, ofO_while, ofO_bindF, ofO_no, ofO_optM]
abbrev slaw_factorial : Stmt := top 44
abbrev Nlaw_factorial : List Str := ["_law_number", "_law_found", "_law_step"]
theorem sclaw_factorial : FnScope ["_law_number", "_law_found", "_law_step"] ["_law_number"] (defScope slaw_factorial) := ⟨rfl, rfl, rfl, by decide +kernel, rfl, by decide +kernel, by decide +kernel⟩
def w_law_factorial (a : Int × Unit) : W (Fl Int Empty Unit) :=
  ((W.ret (1 : Int)).bind fun (v1 : Int) => (((W.ret (2 : Int)).bind fun i4 => (((W.ret a.1).bind fun p2 => ((W.ret (1 : Int)).bind fun q3 => (W.ret (p2 + q3)))).bind fun j5 => (ofO (rngC i4 j5)))).bind fun xs12 => bindF (forL (fun (s6 : Int) (x7 : Int) => (((W.ret s6).bind fun p9 => ((W.ret x7).bind fun q10 => (ofO (mulC p9 q10)))).bind fun (v8 : Int) => (W.ret (Fl.nx v8)))) xs12 v1) (fun (s6 : Int) => ((W.ret s6).bind fun x11 => (W.ret (Fl.rt x11))))))
def o_law_factorial (a : Int × Unit) : Option (Fl Int Empty Unit) :=
  ((some (1 : Int)).bind fun (v1 : Int) => (((some (2 : Int)).bind fun i4 => (((some a.1).bind fun p2 => ((some (1 : Int)).bind fun q3 => (some (p2 + q3)))).bind fun j5 => (rngC i4 j5))).bind fun xs12 => bindFO (forO (fun (s6 : Int) (x7 : Int) => (((some s6).bind fun p9 => ((some x7).bind fun q10 => (mulC p9 q10))).bind fun (v8 : Int) => (some (Fl.nx v8)))) xs12 v1) (fun (s6 : Int) => ((some s6).bind fun x11 => (some (Fl.rt x11))))))
def m_law_factorial (a : Int × Unit) : Option Int := rtO (o_law_factorial a)
theorem k_law_factorial {f : Addr} {fd : FuncData} (F : Fun K "_law_factorial" "_law_factorial" slaw_factorial f fd) (T : Txt K mg) {π : Around → Prop} (sπ : Stb π) : FnP π P w K mg base CX0 1 f fd ["_law_number"] (SpF (pC qI p0).ra qI m_law_factorial) := by
  refine fn_okF (p := (pC qI p0)) (m := w_law_factorial) (pn := (fun z _ => nomatch z)) (pl := fun _ _ => []) (env := fun a => [.im qI a.1, .un, .un]) 2 sπ F sclaw_factorial rfl rfl (fun _ => rfl) ?hb ?hg
  case hb =>
    intro cdv A outer s H E hp hr C a hA
    unfold w_law_factorial
    exact (xs_set (i := 1) xe_int (fun v1 => (xs_for (s0 := v1) (up := (uN 2 qI)) (pt := fun (s6 : Int) g => [.im qI a.1, .im qI s6, .un]) PassesOwn.never rfl (xi_rng2 (by rfl) T.range xe_int (xe_add (xe_var (pv 0)) xe_int)) (xg_name (pg_name (i := 2) sclaw_factorial.nd rfl (by first | exact .inl rfl | exact .inr rfl))) (fun _ => (.keep (.keep (.keep .nil)))) (fun s6 x7 => (xs_set (i := 1) (xe_mul (xe_var (pv 1)) (xe_var (pv 2))) (fun v8 => (xs_nil (fun _ => (.keep (.keep (.drop .nil)))))) sclaw_factorial.nd rfl (.inl rfl) rfl rfl)) (fun s6 => (xs_ret (xe_var (pv 1)))))) sclaw_factorial.nd rfl (.inl rfl) rfl rfl)
  case hg =>
    intro a
    simp only [m_law_factorial, o_law_factorial, w_law_factorial, ofO_rt, ofO_rtN, ofO_bind, ofO_some, ofO_if, ofO_up, ofO_lc, ofO_lca, ofO_lc2, ofO_for, ofO_while, ofO_bindF, ofO_no, ofO_optM]
abbrev swith_member : Stmt := top 31
abbrev Nwith_member : List Str := ["lot", "row", "member", "kept"]
theorem scwith_member : FnScope ["lot", "row", "member", "kept"] ["lot", "row", "member"] (defScope swith_member) := ⟨rfl, rfl, rfl, by decide +kernel, rfl, by decide +kernel, by decide +kernel⟩
def w_with_member (a : (List Int) × Int × Int × Unit) : W (Fl (List Int) Empty Unit) :=
  ((((W.ret a.2.2.1).bind fun p2 => ((W.ret (0 : Int)).bind fun q3 => (ofO (some (decide (q3 < p2)))))).bind fun p5 => (if p5 = true then ((W.ret a.2.2.1).bind fun x4 => (W.ret [x4])) else (W.ret ([] : List Int)))).bind fun (v1 : (List Int)) => (((((W.ret a.1).bind fun x7 => ((W.ret (none : Option Int)).bind fun l8 => (((W.ret a.2.1).bind fun x6 => (W.ret (some x6))).bind fun h9 => (W.ret (cutL x7 l8 h9))))).bind fun p10 => ((W.ret v1).bind fun q11 => (ofO (catC p10 q11)))).bind fun p18 => (((W.ret a.1).bind fun x15 => ((((W.ret a.2.1).bind fun p12 => ((W.ret (1 : Int)).bind fun q13 => (W.ret (p12 + q13)))).bind fun x14 => (W.ret (some x14))).bind fun l16 => ((W.ret (none : Option Int)).bind fun h17 => (W.ret (cutL x15 l16 h17))))).bind fun q19 => (ofO (catC p18 q19)))).bind fun x20 => (W.ret (Fl.rt x20))))
def o_with_member (a : (List Int) × Int × Int × Unit) : Option (Fl (List Int) Empty Unit) :=
  ((((some a.2.2.1).bind fun p2 => ((some (0 : Int)).bind fun q3 => (some (decide (q3 < p2))))).bind fun p5 => (if p5 = true then ((some a.2.2.1).bind fun x4 => (some [x4])) else (some ([] : List Int)))).bind fun (v1 : (List Int)) => (((((some a.1).bind fun x7 => ((some (none : Option Int)).bind fun l8 => (((some a.2.1).bind fun x6 => (some (some x6))).bind fun h9 => (some (cutL x7 l8 h9))))).bind fun p10 => ((some v1).bind fun q11 => (catC p10 q11))).bind fun p18 => (((some a.1).bind fun x15 => ((((some a.2.1).bind fun p12 => ((some (1 : Int)).bind fun q13 => (some (p12 + q13)))).bind fun x14 => (some (some x14))).bind fun l16 => ((some (none : Option Int)).bind fun h17 => (some (cutL x15 l16 h17))))).bind fun q19 => (catC p18 q19))).bind fun x20 => (some (Fl.rt x20))))
def m_with_member (a : (List Int) × Int × Int × Unit) : Option (List Int) := rtO (o_with_member a)
theorem k_with_member {f : Addr} {fd : FuncData} (F : Fun K "_with_member" "_with_member" swith_member f fd) (T : Txt K mg) {π : Around → Prop} (sπ : Stb π) : FnP π P w K mg base CX0 1 f fd ["lot", "row", "member"] (SpF (pC (qT qI) (pC qI (pC qI p0))).ra (qT qI) m_with_member) := by
  refine fn_okF (p := (pC (qT qI) (pC qI (pC qI p0)))) (m := w_with_member) (pn := (fun z _ => nomatch z)) (pl := fun _ _ => []) (env := fun a => [.im (qT qI) a.1, .im qI a.2.1, .im qI a.2.2.1, .un]) 1 sπ F scwith_member rfl rfl (fun _ => rfl) ?hb ?hg
  case hb =>
    intro cdv A outer s H E hp hr C a hA
    unfold w_with_member
    exact (xs_set (i := 3) (xe_if (xt_cmpD cd_gt (xe_var (pv 2)) xe_int rfl) (xe_tup1 (xe_var (pv 2))) (xe_tup0 (r := qI))) (fun v1 => (xs_ret (xe_catT (xe_catT (xe_slT (xe_var (pv 0)) xo_none (xo_some (xe_var (pv 1)))) (xe_var (pv 3))) (xe_slT (xe_var (pv 0)) (xo_some (xe_add (xe_var (pv 1)) xe_int)) xo_none)))) scwith_member.nd rfl (.inl rfl) rfl rfl)
  case hg =>
    intro a
    simp only [m_with_member, o_with_member, w_with_member, ofO_rt, ofO_rtN, ofO_bind, ofO_some, ofO_if, ofO_up, ofO_lc, ofO_lca, ofO_lc2, ofO_for, ofO_while, ofO_bindF, ofO_no, ofO_optM]
abbrev sless_square : Stmt := top 29
abbrev Nless_square : List Str := ["lot", "found", "row", "member"]
theorem scless_square : FnScope ["lot", "found", "row", "member"] ["lot"] (defScope sless_square) := ⟨rfl, rfl, rfl, by decide +kernel, rfl, by decide +kernel, by decide +kernel⟩
def w_less_square (a : (List Int) × Unit) : W (Fl (List (List Int)) Empty Unit) :=
  ((((W.ret a.1).bind fun x1 => ((W.ret ()).bind fun y2 => (W.ret (x1, y2)))).bind fun a3 => (ofO (m_check_lot a3))).bind fun _v4 => ((W.ret ([] : List (List Int))).bind fun (v5 : (List (List Int))) => (((W.ret a.1).bind fun x6 => (W.ret (enumI x6))).bind fun xs36 => bindF (forL (fun (s7 : (List (List Int))) (x8 : (Int × Int)) => (((((W.ret x8.1).bind fun p9 => ((W.ret (1 : Int)).bind fun q10 => (W.ret (p9 + q10)))).bind fun p12 => (((W.ret a.1).bind fun x11 => (W.ret (x11.length : Int))).bind fun q13 => (ofO (some (decide (p12 = q13)))))).bind fun p20 => (if p20 = true then W.ret true else (((W.ret a.1).bind fun x16 => (((W.ret x8.1).bind fun p14 => ((W.ret (1 : Int)).bind fun q15 => (W.ret (p14 + q15)))).bind fun i17 => (ofO (L2.atI x16 i17)))).bind fun p18 => ((W.ret x8.2).bind fun q19 => (ofO (some (decide (p18 < q19)))))))).bind fun b21 => bindF (if b21 = true then ((((W.ret a.1).bind fun x31 => (((W.ret x8.1).bind fun x29 => ((((W.ret x8.2).bind fun p25 => ((W.ret (1 : Int)).bind fun q26 => (W.ret (p25 - q26)))).bind fun x27 => ((W.ret ()).bind fun y28 => (W.ret (x27, y28)))).bind fun y30 => (W.ret (x29, y30)))).bind fun y32 => (W.ret (x31, y32)))).bind fun a33 => (ofO (m_with_member a33))).bind fun v23 => ((ofO (addO s7 v23)).bind fun (l24 : (List (List Int))) => (W.ret (Fl.nx l24)))) else (W.ret (Fl.nx s7))) (fun (s22 : (List (List Int))) => (W.ret (Fl.nx s22))))) xs36 v5) (fun (s7 : (List (List Int))) => (((W.ret s7).bind fun x34 => (ofO (sortTT x34))).bind fun x35 => (W.ret (Fl.rt x35)))))))
def o_less_square (a : (List Int) × Unit) : Option (Fl (List (List Int)) Empty Unit) :=
  ((((some a.1).bind fun x1 => ((some ()).bind fun y2 => (some (x1, y2)))).bind fun a3 => (m_check_lot a3)).bind fun _v4 => ((some ([] : List (List Int))).bind fun (v5 : (List (List Int))) => (((some a.1).bind fun x6 => (some (enumI x6))).bind fun xs36 => bindFO (forO (fun (s7 : (List (List Int))) (x8 : (Int × Int)) => (((((some x8.1).bind fun p9 => ((some (1 : Int)).bind fun q10 => (some (p9 + q10)))).bind fun p12 => (((some a.1).bind fun x11 => (some (x11.length : Int))).bind fun q13 => (some (decide (p12 = q13))))).bind fun p20 => (if p20 = true then some true else (((some a.1).bind fun x16 => (((some x8.1).bind fun p14 => ((some (1 : Int)).bind fun q15 => (some (p14 + q15)))).bind fun i17 => (L2.atI x16 i17))).bind fun p18 => ((some x8.2).bind fun q19 => (some (decide (p18 < q19))))))).bind fun b21 => bindFO (if b21 = true then ((((some a.1).bind fun x31 => (((some x8.1).bind fun x29 => ((((some x8.2).bind fun p25 => ((some (1 : Int)).bind fun q26 => (some (p25 - q26)))).bind fun x27 => ((some ()).bind fun y28 => (some (x27, y28)))).bind fun y30 => (some (x29, y30)))).bind fun y32 => (some (x31, y32)))).bind fun a33 => (m_with_member a33)).bind fun v23 => ((addO s7 v23).bind fun (l24 : (List (List Int))) => (some (Fl.nx l24)))) else (some (Fl.nx s7))) (fun (s22 : (List (List Int))) => (some (Fl.nx s22))))) xs36 v5) (fun (s7 : (List (List Int))) => (((some s7).bind fun x34 => (sortTT x34)).bind fun x35 => (some (Fl.rt x35)))))))
def m_less_square (a : (List Int) × Unit) : Option (List (List Int)) := rtO (o_less_square a)
theorem k_less_square {f : Addr} {fd : FuncData} (F : Fun K "less_square" "less_square" sless_square f fd) (T : Txt K mg) {π : Around → Prop} (sπ : Stb π) (h_check_lot : Has P w K mg base π "check_lot" 4 ["value"] (SpF (pC (qT qI) p0).ra qN m_check_lot)) (h_with_member : Has P w K mg base π "_with_member" 1 ["lot", "row", "member"] (SpF (pC (qT qI) (pC qI (pC qI p0))).ra (qT qI) m_with_member)) : FnP π P w K mg base CX0 5 f fd ["lot"] (SpF (pC (qT qI) p0).ra (qT (qT qI)) m_less_square) := by
  refine fn_okF (p := (pC (qT qI) p0)) (m := w_less_square) (pn := (fun z _ => nomatch z)) (pl := fun _ _ => []) (env := fun a => [.im (qT qI) a.1, .un, .un, .un]) 3 sπ F scless_square rfl rfl (fun _ => rfl) ?hb ?hg
  case hb =>
    intro cdv A outer s H E hp hr C a hA
    unfold w_less_square
    exact (xs_exp (xe_callH h_check_lot hp hr (by decide) (by rfl) (xa_cons (xe_var (pv 0)) xa_nil)) (fun _v4 => (xs_setN (i := 1) (xn_nil (r := (qT qI))) (fun v5 => (xs_for (s0 := v5) (up := (uP (uN 2 qI) (uN 3 qI))) (pt := fun (s7 : (List (List Int))) g => [.im (qT qI) a.1, .ow (qT qI) s7, .un, .un]) PassesOwn.never rfl (xi_enT (by rfl) T.enumerate (xe_var (pv 0))) (xg_pairW rfl (xg_name (pg_name (i := 2) scless_square.nd rfl (by first | exact .inl rfl | exact .inr rfl))) (xg_name (pg_name (i := 3) scless_square.nd rfl (by first | exact .inl rfl | exact .inr rfl)))) (fun _ => (.keep (.keep (.keep (.keep .nil))))) (fun s7 x8 => (xs_if (pt := fun (s22 : (List (List Int))) g => [.im (qT qI) a.1, .ow (qT qI) s22, .im qI x8.1, .im qI x8.2]) (PW.pt (xw_or (xt_cmpD cd_eqI (xe_add (xe_var (pv 2)) xe_int) (xe_len (by rfl) T.len (xq_im (xe_var (pv 0)))) rfl) (xw_or1 (xt_cmpD cd_lt (xe_ix (xq_im (xe_var (pv 0))) (xe_add (xe_var (pv 2)) xe_int)) (xe_var (pv 3)) rfl)))) (xs_app (i := 1) (pv 1) (xe_callH h_with_member hp hr (by decide) (by rfl) (xa_cons (xe_var (pv 0)) (xa_cons (xe_var (pv 2)) (xa_cons (xe_sub (xe_var (pv 3)) xe_int) xa_nil)))) (fun l24 => (xs_nil (fun _ => (.keep (.keep (.keep (.keep .nil))))))) (hb := pe_bm PySem.F.plainAttrs_list PySem.F.slot_list_append PySem.F.type_list_append mt_append (pv 1) (pa_cons (xe_callH h_with_member hp hr (by decide) (by rfl) (xa_cons (xe_var (pv 0)) (xa_cons (xe_var (pv 2)) (xa_cons (xe_sub (xe_var (pv 3)) xe_int) xa_nil)))) pa_nil))) (xs_nil (fun _ => (.keep (.keep (.keep (.keep .nil)))))) (fun s22 => (xs_nil (fun _ => (.keep (.keep (.drop (.drop .nil))))))))) (fun s7 => (xs_ret (xe_tuple (by rfl) T.tuple (xq_im (xe_N (xn_sortedTT (by rfl) T.sorted (xq_own (pv 1)))))))))) scless_square.nd rfl (.inl rfl) rfl rfl)))
  case hg =>
    intro a
    simp only [m_less_square, o_less_square, w_less_square, ofO_rt, ofO_rtN, ofO_bind, ofO_some, ofO_if, ofO_up, ofO_lc, ofO_lca, ofO_lc2, ofO_for, ofO_while, ofO_bindF, ofO_no, ofO_optM]
abbrev smore_square : Stmt := top 30
abbrev Nmore_square : List Str := ["lot", "found", "row", "member"]
theorem scmore_square : FnScope ["lot", "found", "row", "member"] ["lot"] (defScope smore_square) := ⟨rfl, rfl, rfl, by decide +kernel, rfl, by decide +kernel, by decide +kernel⟩
def w_more_square (a : (List Int) × Unit) : W (Fl (List (List Int)) Empty Unit) :=
  ((((W.ret a.1).bind fun x1 => ((W.ret ()).bind fun y2 => (W.ret (x1, y2)))).bind fun a3 => (ofO (m_check_lot a3))).bind fun _v4 => ((((W.ret a.1).bind fun x5 => (W.ret x5.sum)).bind fun p6 => ((W.ret (24 : Int)).bind fun q7 => (ofO (some (decide (p6 = q7)))))).bind fun b8 => (if b8 = true then upF W.no else (((((W.ret a.1).bind fun p11 => (((W.ret (1 : Int)).bind fun x10 => (W.ret [x10])).bind fun q12 => (ofO (catC p11 q12)))).bind fun x13 => ((W.ret []).bind fun y14 => (W.ret (x13 :: y14)))).bind fun x15 => (ofO (lenK x15))).bind fun (v9 : (List (List Int))) => (((W.ret a.1).bind fun x16 => (W.ret (enumI x16))).bind fun xs43 => bindF (forL (fun (s17 : (List (List Int))) (x18 : (Int × Int)) => ((((W.ret x18.1).bind fun p19 => ((W.ret (0 : Int)).bind fun q20 => (ofO (some (decide (p19 = q20)))))).bind fun p27 => (if p27 = true then W.ret true else (((W.ret a.1).bind fun x23 => (((W.ret x18.1).bind fun p21 => ((W.ret (1 : Int)).bind fun q22 => (W.ret (p21 - q22)))).bind fun i24 => (ofO (L2.atI x23 i24)))).bind fun p25 => ((W.ret x18.2).bind fun q26 => (ofO (some (decide (q26 < p25)))))))).bind fun b28 => bindF (if b28 = true then ((((W.ret a.1).bind fun x38 => (((W.ret x18.1).bind fun x36 => ((((W.ret x18.2).bind fun p32 => ((W.ret (1 : Int)).bind fun q33 => (W.ret (p32 + q33)))).bind fun x34 => ((W.ret ()).bind fun y35 => (W.ret (x34, y35)))).bind fun y37 => (W.ret (x36, y37)))).bind fun y39 => (W.ret (x38, y39)))).bind fun a40 => (ofO (m_with_member a40))).bind fun v30 => ((ofO (addO s17 v30)).bind fun (l31 : (List (List Int))) => (W.ret (Fl.nx l31)))) else (W.ret (Fl.nx s17))) (fun (s29 : (List (List Int))) => (W.ret (Fl.nx s29))))) xs43 v9) (fun (s17 : (List (List Int))) => (((W.ret s17).bind fun x41 => (ofO (sortTT x41))).bind fun x42 => (W.ret (Fl.rt x42)))))))))
def o_more_square (a : (List Int) × Unit) : Option (Fl (List (List Int)) Empty Unit) :=
  ((((some a.1).bind fun x1 => ((some ()).bind fun y2 => (some (x1, y2)))).bind fun a3 => (m_check_lot a3)).bind fun _v4 => ((((some a.1).bind fun x5 => (some x5.sum)).bind fun p6 => ((some (24 : Int)).bind fun q7 => (some (decide (p6 = q7))))).bind fun b8 => (if b8 = true then upO none else (((((some a.1).bind fun p11 => (((some (1 : Int)).bind fun x10 => (some [x10])).bind fun q12 => (catC p11 q12))).bind fun x13 => ((some []).bind fun y14 => (some (x13 :: y14)))).bind fun x15 => (lenK x15)).bind fun (v9 : (List (List Int))) => (((some a.1).bind fun x16 => (some (enumI x16))).bind fun xs43 => bindFO (forO (fun (s17 : (List (List Int))) (x18 : (Int × Int)) => ((((some x18.1).bind fun p19 => ((some (0 : Int)).bind fun q20 => (some (decide (p19 = q20))))).bind fun p27 => (if p27 = true then some true else (((some a.1).bind fun x23 => (((some x18.1).bind fun p21 => ((some (1 : Int)).bind fun q22 => (some (p21 - q22)))).bind fun i24 => (L2.atI x23 i24))).bind fun p25 => ((some x18.2).bind fun q26 => (some (decide (q26 < p25))))))).bind fun b28 => bindFO (if b28 = true then ((((some a.1).bind fun x38 => (((some x18.1).bind fun x36 => ((((some x18.2).bind fun p32 => ((some (1 : Int)).bind fun q33 => (some (p32 + q33)))).bind fun x34 => ((some ()).bind fun y35 => (some (x34, y35)))).bind fun y37 => (some (x36, y37)))).bind fun y39 => (some (x38, y39)))).bind fun a40 => (m_with_member a40)).bind fun v30 => ((addO s17 v30).bind fun (l31 : (List (List Int))) => (some (Fl.nx l31)))) else (some (Fl.nx s17))) (fun (s29 : (List (List Int))) => (some (Fl.nx s29))))) xs43 v9) (fun (s17 : (List (List Int))) => (((some s17).bind fun x41 => (sortTT x41)).bind fun x42 => (some (Fl.rt x42)))))))))
def m_more_square (a : (List Int) × Unit) : Option (List (List Int)) := rtO (o_more_square a)
theorem k_more_square {f : Addr} {fd : FuncData} (F : Fun K "more_square" "more_square" smore_square f fd) (T : Txt K mg) {π : Around → Prop} (sπ : Stb π) (h_check_lot : Has P w K mg base π "check_lot" 4 ["value"] (SpF (pC (qT qI) p0).ra qN m_check_lot)) (h_with_member : Has P w K mg base π "_with_member" 1 ["lot", "row", "member"] (SpF (pC (qT qI) (pC qI (pC qI p0))).ra (qT qI) m_with_member)) : FnP π P w K mg base CX0 5 f fd ["lot"] (SpF (pC (qT qI) p0).ra (qT (qT qI)) m_more_square) := by
  refine fn_okF (p := (pC (qT qI) p0)) (m := w_more_square) (pn := (fun z _ => nomatch z)) (pl := fun _ _ => []) (env := fun a => [.im (qT qI) a.1, .un, .un, .un]) 3 sπ F scmore_square rfl rfl (fun _ => rfl) ?hb ?hg
  case hb =>
    intro cdv A outer s H E hp hr C a hA
    unfold w_more_square
    exact (xs_exp (xe_callH h_check_lot hp hr (by decide) (by rfl) (xa_cons (xe_var (pv 0)) xa_nil)) (fun _v4 => (xs_ifx (xt_cmpD cd_eqI (xe_sum rfl (by rfl) T.sum (xq_im (xe_var (pv 0)))) (xe_gintE (by rfl) T.MAX_SUM_) rfl) xs_never (xs_setN (i := 1) (xn_lst (xa_consL (xe_catT (xe_var (pv 0)) (xe_tup1 xe_int)) xa_nilL)) (fun v9 => (xs_for (s0 := v9) (up := (uP (uN 2 qI) (uN 3 qI))) (pt := fun (s17 : (List (List Int))) g => [.im (qT qI) a.1, .ow (qT qI) s17, .un, .un]) PassesOwn.never rfl (xi_enT (by rfl) T.enumerate (xe_var (pv 0))) (xg_pairW rfl (xg_name (pg_name (i := 2) scmore_square.nd rfl (by first | exact .inl rfl | exact .inr rfl))) (xg_name (pg_name (i := 3) scmore_square.nd rfl (by first | exact .inl rfl | exact .inr rfl)))) (fun _ => (.keep (.keep (.keep (.keep .nil))))) (fun s17 x18 => (xs_if (pt := fun (s29 : (List (List Int))) g => [.im (qT qI) a.1, .ow (qT qI) s29, .im qI x18.1, .im qI x18.2]) (PW.pt (xw_or (xt_cmpD cd_eqI (xe_var (pv 2)) xe_int rfl) (xw_or1 (xt_cmpD cd_gt (xe_ix (xq_im (xe_var (pv 0))) (xe_sub (xe_var (pv 2)) xe_int)) (xe_var (pv 3)) rfl)))) (xs_app (i := 1) (pv 1) (xe_callH h_with_member hp hr (by decide) (by rfl) (xa_cons (xe_var (pv 0)) (xa_cons (xe_var (pv 2)) (xa_cons (xe_add (xe_var (pv 3)) xe_int) xa_nil)))) (fun l31 => (xs_nil (fun _ => (.keep (.keep (.keep (.keep .nil))))))) (hb := pe_bm PySem.F.plainAttrs_list PySem.F.slot_list_append PySem.F.type_list_append mt_append (pv 1) (pa_cons (xe_callH h_with_member hp hr (by decide) (by rfl) (xa_cons (xe_var (pv 0)) (xa_cons (xe_var (pv 2)) (xa_cons (xe_add (xe_var (pv 3)) xe_int) xa_nil)))) pa_nil))) (xs_nil (fun _ => (.keep (.keep (.keep (.keep .nil)))))) (fun s29 => (xs_nil (fun _ => (.keep (.keep (.drop (.drop .nil))))))))) (fun s17 => (xs_ret (xe_tuple (by rfl) T.tuple (xq_im (xe_N (xn_sortedTT (by rfl) T.sorted (xq_own (pv 1)))))))))) scmore_square.nd rfl (.inl rfl) rfl rfl))))
  case hg =>
    intro a
    simp only [m_more_square, o_more_square, w_more_square, ofO_rt, ofO_rtN, ofO_bind, ofO_some, ofO_if, ofO_up, ofO_lc, ofO_lca, ofO_lc2, ofO_for, ofO_while, ofO_bindF, ofO_no, ofO_optM]
abbrev slaw_more : Stmt := top 49
abbrev Nlaw_more : List Str := ["_law_lot", "_law_longer", "_law_found", "_law_place", "_law_member", "_law_more_here", "_law_one"]
theorem sclaw_more : FnScope ["_law_lot", "_law_longer", "_law_found", "_law_place", "_law_member", "_law_more_here", "_law_one"] ["_law_lot"] (defScope slaw_more) := ⟨rfl, rfl, rfl, by decide +kernel, rfl, by decide +kernel, by decide +kernel⟩
def w_law_more (a : (List Int) × Unit) : W (Fl (List (List Int)) Empty Unit) :=
  (((W.ret a.1).bind fun p3 => (((W.ret (0 : Int)).bind fun x2 => (W.ret [x2])).bind fun q4 => (ofO (catC p3 q4)))).bind fun (v1 : (List Int)) => ((W.ret ([] : List (List Int))).bind fun (v5 : (List (List Int))) => (((W.ret v1).bind fun x6 => (W.ret (enumI x6))).bind fun xs46 => bindF (forL (fun (s7 : (List (List Int))) (x8 : (Int × Int)) => ((((W.ret x8.1).bind fun p9 => ((W.ret (0 : Int)).bind fun q10 => (ofO (some (decide (p9 = q10)))))).bind fun p17 => (if p17 = true then W.ret true else (((W.ret v1).bind fun x13 => (((W.ret x8.1).bind fun p11 => ((W.ret (1 : Int)).bind fun q12 => (W.ret (p11 - q12)))).bind fun i14 => (ofO (L2.atI x13 i14)))).bind fun p15 => ((W.ret x8.2).bind fun q16 => (ofO (some (decide (q16 < p15)))))))).bind fun b18 => bindF (if b18 = true then (((((W.ret v1).bind fun x22 => ((W.ret (none : Option Int)).bind fun l23 => (((W.ret x8.1).bind fun x21 => (W.ret (some x21))).bind fun h24 => (W.ret (cutL x22 l23 h24))))).bind fun p28 => ((((W.ret x8.2).bind fun p25 => ((W.ret (1 : Int)).bind fun q26 => (W.ret (p25 + q26)))).bind fun x27 => (W.ret [x27])).bind fun q29 => (ofO (catC p28 q29)))).bind fun p36 => (((W.ret v1).bind fun x33 => ((((W.ret x8.1).bind fun p30 => ((W.ret (1 : Int)).bind fun q31 => (W.ret (p30 + q31)))).bind fun x32 => (W.ret (some x32))).bind fun l34 => ((W.ret (none : Option Int)).bind fun h35 => (W.ret (cutL x33 l34 h35))))).bind fun q37 => (ofO (catC p36 q37)))).bind fun (v20 : (List Int)) => (((W.ret v20).bind fun xs43 => (lcW (fun (x40 : Int) => ((W.ret x40).bind fun p41 => ((W.ret (0 : Int)).bind fun q42 => (ofO (some (decide (q42 < p41))))))) (fun (x40 : Int) => (W.ret x40)) xs43)).bind fun v38 => ((ofO (addO s7 v38)).bind fun (l39 : (List (List Int))) => (W.ret (Fl.nx l39))))) else (W.ret (Fl.nx s7))) (fun (s19 : (List (List Int))) => (W.ret (Fl.nx s19))))) xs46 v5) (fun (s7 : (List (List Int))) => (((W.ret s7).bind fun x44 => (ofO (sortTT x44))).bind fun x45 => (W.ret (Fl.rt x45)))))))
def o_law_more (a : (List Int) × Unit) : Option (Fl (List (List Int)) Empty Unit) :=
  (((some a.1).bind fun p3 => (((some (0 : Int)).bind fun x2 => (some [x2])).bind fun q4 => (catC p3 q4))).bind fun (v1 : (List Int)) => ((some ([] : List (List Int))).bind fun (v5 : (List (List Int))) => (((some v1).bind fun x6 => (some (enumI x6))).bind fun xs46 => bindFO (forO (fun (s7 : (List (List Int))) (x8 : (Int × Int)) => ((((some x8.1).bind fun p9 => ((some (0 : Int)).bind fun q10 => (some (decide (p9 = q10))))).bind fun p17 => (if p17 = true then some true else (((some v1).bind fun x13 => (((some x8.1).bind fun p11 => ((some (1 : Int)).bind fun q12 => (some (p11 - q12)))).bind fun i14 => (L2.atI x13 i14))).bind fun p15 => ((some x8.2).bind fun q16 => (some (decide (q16 < p15))))))).bind fun b18 => bindFO (if b18 = true then (((((some v1).bind fun x22 => ((some (none : Option Int)).bind fun l23 => (((some x8.1).bind fun x21 => (some (some x21))).bind fun h24 => (some (cutL x22 l23 h24))))).bind fun p28 => ((((some x8.2).bind fun p25 => ((some (1 : Int)).bind fun q26 => (some (p25 + q26)))).bind fun x27 => (some [x27])).bind fun q29 => (catC p28 q29))).bind fun p36 => (((some v1).bind fun x33 => ((((some x8.1).bind fun p30 => ((some (1 : Int)).bind fun q31 => (some (p30 + q31)))).bind fun x32 => (some (some x32))).bind fun l34 => ((some (none : Option Int)).bind fun h35 => (some (cutL x33 l34 h35))))).bind fun q37 => (catC p36 q37))).bind fun (v20 : (List Int)) => (((some v20).bind fun xs43 => (lcO (fun (x40 : Int) => ((some x40).bind fun p41 => ((some (0 : Int)).bind fun q42 => (some (decide (q42 < p41)))))) (fun (x40 : Int) => (some x40)) xs43)).bind fun v38 => ((addO s7 v38).bind fun (l39 : (List (List Int))) => (some (Fl.nx l39))))) else (some (Fl.nx s7))) (fun (s19 : (List (List Int))) => (some (Fl.nx s19))))) xs46 v5) (fun (s7 : (List (List Int))) => (((some s7).bind fun x44 => (sortTT x44)).bind fun x45 => (some (Fl.rt x45)))))))
def m_law_more (a : (List Int) × Unit) : Option (List (List Int)) := rtO (o_law_more a)
theorem k_law_more {f : Addr} {fd : FuncData} (F : Fun K "_law_more" "_law_more" slaw_more f fd) (T : Txt K mg) {π : Around → Prop} (sπ : Stb π) : FnP π P w K mg base CX0 1 f fd ["_law_lot"] (SpF (pC (qT qI) p0).ra (qL (qT qI)) m_law_more) := by
  refine fn_okF (p := (pC (qT qI) p0)) (m := w_law_more) (pn := (fun z _ => nomatch z)) (pl := fun _ _ => []) (env := fun a => [.im (qT qI) a.1, .un, .un, .un, .un, .un, .un]) 6 sπ F sclaw_more rfl rfl (fun _ => rfl) ?hb ?hg
  case hb =>
    intro cdv A outer s H E hp hr C a hA
    unfold w_law_more
    exact (xs_set (i := 1) (xe_catT (xe_var (pv 0)) (xe_tup1 xe_int)) (fun v1 => (xs_setN (i := 2) (xn_nil (r := (qT qI))) (fun v5 => (xs_for (s0 := v5) (up := (uP (uN 3 qI) (uN 4 qI))) (pt := fun (s7 : (List (List Int))) g => [.im (qT qI) a.1, .im (qT qI) v1, .ow (qT qI) s7, .un, .un, .un, .un]) PassesOwn.never rfl (xi_enT (by rfl) T.enumerate (xe_var (pv 1))) (xg_pairW rfl (xg_name (pg_name (i := 3) sclaw_more.nd rfl (by first | exact .inl rfl | exact .inr rfl))) (xg_name (pg_name (i := 4) sclaw_more.nd rfl (by first | exact .inl rfl | exact .inr rfl)))) (fun _ => (.keep (.keep (.keep (.keep (.keep (.keep (.keep .nil)))))))) (fun s7 x8 => (xs_if (pt := fun (s19 : (List (List Int))) g => [.im (qT qI) a.1, .im (qT qI) v1, .ow (qT qI) s19, .im qI x8.1, .im qI x8.2, .un, .un]) (PW.pt (xw_or (xt_cmpD cd_eqI (xe_var (pv 3)) xe_int rfl) (xw_or1 (xt_cmpD cd_gt (xe_ix (xq_im (xe_var (pv 1))) (xe_sub (xe_var (pv 3)) xe_int)) (xe_var (pv 4)) rfl)))) (xs_set (i := 5) (xe_catT (xe_catT (xe_slT (xe_var (pv 1)) xo_none (xo_some (xe_var (pv 3)))) (xe_tup1 (xe_add (xe_var (pv 4)) xe_int))) (xe_slT (xe_var (pv 1)) (xo_some (xe_add (xe_var (pv 3)) xe_int)) xo_none)) (fun v20 => (xs_app (i := 2) (pv 2) (xe_tuple (by rfl) T.tuple (xq_im (xe_N (xn_lc (own := [("_law_one", 6)]) (up := (uN 6 qI)) rfl sclaw_more.nd (xi_seq (xe_var (pv 5))) (blkOk_by (N := Nlaw_more) (sc := defScope slaw_more) (by decide +kernel)) rfl (fun _ => rfl) (fun _ _ _ _ _ => (xg_name (pg_name (i := 6) sclaw_more.nd rfl (by first | exact .inl rfl | exact .inr rfl)))) (fun _ _ _ _ _ _ x40 => (xts_one (xt_cmpD cd_gt (xe_var (pv 6)) xe_int rfl))) (fun _ _ _ _ _ _ x40 => (xe_var (pv 6))))))) (fun l39 => (xs_nil (fun _ => (.keep (.keep (.keep (.keep (.keep (.drop (.keep .nil)))))))))) (hb := pe_bm PySem.F.plainAttrs_list PySem.F.slot_list_append PySem.F.type_list_append mt_append (pv 2) (pa_cons (xe_tuple (by rfl) T.tuple (xq_im (xe_N (xn_lc (own := [("_law_one", 6)]) (up := (uN 6 qI)) rfl sclaw_more.nd (xi_seq (xe_var (pv 5))) (blkOk_by (N := Nlaw_more) (sc := defScope slaw_more) (by decide +kernel)) rfl (fun _ => rfl) (fun _ _ _ _ _ => (xg_name (pg_name (i := 6) sclaw_more.nd rfl (by first | exact .inl rfl | exact .inr rfl)))) (fun _ _ _ _ _ _ x40 => (xts_one (xt_cmpD cd_gt (xe_var (pv 6)) xe_int rfl))) (fun _ _ _ _ _ _ x40 => (xe_var (pv 6))))))) pa_nil)))) sclaw_more.nd rfl (.inl rfl) rfl rfl) (xs_nil (fun _ => (.keep (.keep (.keep (.keep (.keep (.keep (.keep .nil))))))))) (fun s19 => (xs_nil (fun _ => (.keep (.keep (.keep (.drop (.drop (.keep (.keep .nil)))))))))))) (fun s7 => (xs_ret (xe_N (xn_sortedTT (by rfl) T.sorted (xq_own (pv 2)))))))) sclaw_more.nd rfl (.inl rfl) rfl rfl)) sclaw_more.nd rfl (.inl rfl) rfl rfl)
  case hg =>
    intro a
    simp only [m_law_more, o_law_more, w_law_more, ofO_rt, ofO_rtN, ofO_bind, ofO_some, ofO_if, ofO_up, ofO_lc, ofO_lca, ofO_lc2, ofO_for, ofO_while, ofO_bindF, ofO_no, ofO_optM]
abbrev scheck_lots : Stmt := top 21
abbrev Ncheck_lots : List Str := ["one", "other"]
theorem sccheck_lots : FnScope ["one", "other"] ["one", "other"] (defScope scheck_lots) := ⟨rfl, rfl, rfl, by decide +kernel, rfl, by decide +kernel, by decide +kernel⟩
def w_check_lots (a : (List Int) × (List Int) × Unit) : W (Fl Unit Unit Unit) :=
  ((((W.ret a.1).bind fun x1 => ((W.ret ()).bind fun y2 => (W.ret (x1, y2)))).bind fun a3 => (ofO (m_check_lot a3))).bind fun _v4 => ((((W.ret a.2.1).bind fun x5 => ((W.ret ()).bind fun y6 => (W.ret (x5, y6)))).bind fun a7 => (ofO (m_check_lot a7))).bind fun _v8 => ((((W.ret a.1).bind fun x9 => (W.ret x9.sum)).bind fun p11 => (((W.ret a.2.1).bind fun x10 => (W.ret x10.sum)).bind fun q12 => (ofO (some (!decide (p11 = q12)))))).bind fun b13 => (if b13 = true then upF W.no else (W.ret (Fl.nx ()))))))
def o_check_lots (a : (List Int) × (List Int) × Unit) : Option (Fl Unit Unit Unit) :=
  ((((some a.1).bind fun x1 => ((some ()).bind fun y2 => (some (x1, y2)))).bind fun a3 => (m_check_lot a3)).bind fun _v4 => ((((some a.2.1).bind fun x5 => ((some ()).bind fun y6 => (some (x5, y6)))).bind fun a7 => (m_check_lot a7)).bind fun _v8 => ((((some a.1).bind fun x9 => (some x9.sum)).bind fun p11 => (((some a.2.1).bind fun x10 => (some x10.sum)).bind fun q12 => (some (!decide (p11 = q12))))).bind fun b13 => (if b13 = true then upO none else (some (Fl.nx ()))))))
def m_check_lots (a : (List Int) × (List Int) × Unit) : Option Unit := rtNO (o_check_lots a)
theorem k_check_lots {f : Addr} {fd : FuncData} (F : Fun K "check_lots" "check_lots" scheck_lots f fd) (T : Txt K mg) {π : Around → Prop} (sπ : Stb π) (h_check_lot : Has P w K mg base π "check_lot" 4 ["value"] (SpF (pC (qT qI) p0).ra qN m_check_lot)) : FnP π P w K mg base CX0 5 f fd ["one", "other"] (SpF (pC (qT qI) (pC (qT qI) p0)).ra qN m_check_lots) := by
  refine fn_okN (p := (pC (qT qI) (pC (qT qI) p0))) (m := w_check_lots) (pn := (fun _ g => [.un, .un])) (pl := fun _ _ => []) (env := fun a => [.im (qT qI) a.1, .im (qT qI) a.2.1]) 0 sπ F sccheck_lots rfl rfl (fun _ => rfl) ?hb ?hg
  case hb =>
    intro cdv A outer s H E hp hr C a hA
    unfold w_check_lots
    exact (xs_exp (xe_callH h_check_lot hp hr (by decide) (by rfl) (xa_cons (xe_var (pv 0)) xa_nil)) (fun _v4 => (xs_exp (xe_callH h_check_lot hp hr (by decide) (by rfl) (xa_cons (xe_var (pv 1)) xa_nil)) (fun _v8 => (xs_ifx (xt_cmpD cd_neI (xe_sum rfl (by rfl) T.sum (xq_im (xe_var (pv 0)))) (xe_sum rfl (by rfl) T.sum (xq_im (xe_var (pv 1)))) rfl) xs_never (xs_nil (fun _ => (.drop (.drop .nil)))))))))
  case hg =>
    intro a
    simp only [m_check_lots, o_check_lots, w_check_lots, ofO_rt, ofO_rtN, ofO_bind, ofO_some, ofO_if, ofO_up, ofO_lc, ofO_lca, ofO_lc2, ofO_for, ofO_while, ofO_bindF, ofO_no, ofO_optM]
abbrev scheck_sum : Stmt := top 22
abbrev Ncheck_sum : List Str := ["lot", "limit"]
theorem sccheck_sum : FnScope ["lot", "limit"] ["lot", "limit"] (defScope scheck_sum) := ⟨rfl, rfl, rfl, by decide +kernel, rfl, by decide +kernel, by decide +kernel⟩
def w_check_sum (a : (List Int) × Int × Unit) : W (Fl Unit Unit Unit) :=
  ((((W.ret a.1).bind fun x1 => (W.ret x1.sum)).bind fun p2 => ((W.ret a.2.1).bind fun q3 => (ofO (some (decide (q3 < p2)))))).bind fun b4 => (if b4 = true then upF W.no else (W.ret (Fl.nx ()))))
def o_check_sum (a : (List Int) × Int × Unit) : Option (Fl Unit Unit Unit) :=
  ((((some a.1).bind fun x1 => (some x1.sum)).bind fun p2 => ((some a.2.1).bind fun q3 => (some (decide (q3 < p2))))).bind fun b4 => (if b4 = true then upO none else (some (Fl.nx ()))))
def m_check_sum (a : (List Int) × Int × Unit) : Option Unit := rtNO (o_check_sum a)
theorem k_check_sum {f : Addr} {fd : FuncData} (F : Fun K "check_sum" "check_sum" scheck_sum f fd) (T : Txt K mg) {π : Around → Prop} (sπ : Stb π) : FnP π P w K mg base CX0 1 f fd ["lot", "limit"] (SpF (pC (qT qI) (pC qI p0)).ra qN m_check_sum) := by
  refine fn_okN (p := (pC (qT qI) (pC qI p0))) (m := w_check_sum) (pn := (fun _ g => [.un, .un])) (pl := fun _ _ => []) (env := fun a => [.im (qT qI) a.1, .im qI a.2.1]) 0 sπ F sccheck_sum rfl rfl (fun _ => rfl) ?hb ?hg
  case hb =>
    intro cdv A outer s H E hp hr C a hA
    unfold w_check_sum
    exact (xs_ifx (xt_cmpD cd_gt (xe_sum rfl (by rfl) T.sum (xq_im (xe_var (pv 0)))) (xe_var (pv 1)) rfl) xs_never (xs_nil (fun _ => (.drop (.drop .nil)))))
  case hg =>
    intro a
    simp only [m_check_sum, o_check_sum, w_check_sum, ofO_rt, ofO_rtN, ofO_bind, ofO_some, ofO_if, ofO_up, ofO_lc, ofO_lca, ofO_lc2, ofO_for, ofO_while, ofO_bindF, ofO_no, ofO_optM]
abbrev sbeads_for : Stmt := top 32
abbrev Nbeads_for : List Str := ["lot", "rows", "members", "row", "member"]
theorem scbeads_for : FnScope ["lot", "rows", "members", "row", "member"] ["lot", "rows"] (defScope sbeads_for) := ⟨rfl, rfl, rfl, by decide +kernel, rfl, by decide +kernel, by decide +kernel⟩
def w_beads_for (a : (List Int) × Int × Unit) : W (Fl (List Int) Empty Unit) :=
  (((W.ret a.1).bind fun p8 => ((((W.ret (0 : Int)).bind fun x2 => (W.ret [x2])).bind fun x6 => (((W.ret a.2.1).bind fun p4 => (((W.ret a.1).bind fun x3 => (W.ret (x3.length : Int))).bind fun q5 => (W.ret (p4 - q5)))).bind fun k7 => (ofO (repT1 x6 k7)))).bind fun q9 => (ofO (catC p8 q9)))).bind fun (v1 : (List Int)) => ((((W.ret v1).bind fun x10 => (W.ret (enumI x10))).bind fun xs18 => (lcW (fun (x11 : (Int × Int)) => (W.ret true)) (fun (x11 : (Int × Int)) => ((((W.ret x11.2).bind fun p12 => ((W.ret a.2.1).bind fun q13 => (W.ret (p12 + q13)))).bind fun p14 => ((W.ret (1 : Int)).bind fun q15 => (W.ret (p14 - q15)))).bind fun p16 => ((W.ret x11.1).bind fun q17 => (W.ret (p16 - q17))))) xs18)).bind fun x19 => (W.ret (Fl.rt x19))))
def o_beads_for (a : (List Int) × Int × Unit) : Option (Fl (List Int) Empty Unit) :=
  (((some a.1).bind fun p8 => ((((some (0 : Int)).bind fun x2 => (some [x2])).bind fun x6 => (((some a.2.1).bind fun p4 => (((some a.1).bind fun x3 => (some (x3.length : Int))).bind fun q5 => (some (p4 - q5)))).bind fun k7 => (repT1 x6 k7))).bind fun q9 => (catC p8 q9))).bind fun (v1 : (List Int)) => ((((some v1).bind fun x10 => (some (enumI x10))).bind fun xs18 => (lcO (fun (x11 : (Int × Int)) => (some true)) (fun (x11 : (Int × Int)) => ((((some x11.2).bind fun p12 => ((some a.2.1).bind fun q13 => (some (p12 + q13)))).bind fun p14 => ((some (1 : Int)).bind fun q15 => (some (p14 - q15)))).bind fun p16 => ((some x11.1).bind fun q17 => (some (p16 - q17))))) xs18)).bind fun x19 => (some (Fl.rt x19))))
def m_beads_for (a : (List Int) × Int × Unit) : Option (List Int) := rtO (o_beads_for a)
theorem k_beads_for {f : Addr} {fd : FuncData} (F : Fun K "beads_for" "beads_for" sbeads_for f fd) (T : Txt K mg) {π : Around → Prop} (sπ : Stb π) : FnP π P w K mg base CX0 1 f fd ["lot", "rows"] (SpF (pC (qT qI) (pC qI p0)).ra (qT qI) m_beads_for) := by
  refine fn_okF (p := (pC (qT qI) (pC qI p0))) (m := w_beads_for) (pn := (fun z _ => nomatch z)) (pl := fun _ _ => []) (env := fun a => [.im (qT qI) a.1, .im qI a.2.1, .un, .un, .un]) 3 sπ F scbeads_for rfl rfl (fun _ => rfl) ?hb ?hg
  case hb =>
    intro cdv A outer s H E hp hr C a hA
    unfold w_beads_for
    exact (xs_set (i := 2) (xe_catT (xe_var (pv 0)) (xe_repT1 (xe_tup1 xe_int) (xe_sub (xe_var (pv 1)) (xe_len (by rfl) T.len (xq_im (xe_var (pv 0))))))) (fun v1 => (xs_ret (xe_tuple (by rfl) T.tuple (xq_im (xe_N (xn_lc (own := [("row", 3), ("member", 4)]) (up := (uP (uN 3 qI) (uN 4 qI))) rfl scbeads_for.nd (xi_enT (by rfl) T.enumerate (xe_var (pv 2))) (blkOk_by (N := Nbeads_for) (sc := defScope sbeads_for) (by decide +kernel)) rfl (fun _ => rfl) (fun _ _ _ _ _ => (xg_pairW rfl (xg_name (pg_name (i := 3) scbeads_for.nd rfl (by first | exact .inl rfl | exact .inr rfl))) (xg_name (pg_name (i := 4) scbeads_for.nd rfl (by first | exact .inl rfl | exact .inr rfl))))) (fun _ _ _ _ _ _ x11 => xts_nil) (fun _ _ _ _ _ _ x11 => (xe_sub (xe_sub (xe_add (xe_var (pv 4)) (xe_var (pv 1))) xe_int) (xe_var (pv 3)))))))))) scbeads_for.nd rfl (.inl rfl) rfl rfl)
  case hg =>
    intro a
    simp only [m_beads_for, o_beads_for, w_beads_for, ofO_rt, ofO_rtN, ofO_bind, ofO_some, ofO_if, ofO_up, ofO_lc, ofO_lca, ofO_lc2, ofO_for, ofO_while, ofO_bindF, ofO_no, ofO_optM]
abbrev slot_behind : Stmt := top 33
abbrev Nlot_behind : List Str := ["spots", "members", "at", "bead", "member"]
theorem sclot_behind : FnScope ["spots", "members", "at", "bead", "member"] ["spots"] (defScope slot_behind) := ⟨rfl, rfl, rfl, by decide +kernel, rfl, by decide +kernel, by decide +kernel⟩
def w_lot_behind (a : (List Int) × Unit) : W (Fl (List Int) Empty Unit) :=
  ((((W.ret a.1).bind fun x2 => (W.ret (enumI x2))).bind fun xs11 => (lcW (fun (x3 : (Int × Int)) => (W.ret true)) (fun (x3 : (Int × Int)) => ((W.ret x3.2).bind fun p9 => (((((W.ret a.1).bind fun x4 => (W.ret (x4.length : Int))).bind fun p5 => ((W.ret (1 : Int)).bind fun q6 => (W.ret (p5 - q6)))).bind fun p7 => ((W.ret x3.1).bind fun q8 => (W.ret (p7 - q8)))).bind fun q10 => (W.ret (p9 - q10))))) xs11)).bind fun (v1 : (List Int)) => (((W.ret v1).bind fun xs15 => (lcW (fun (x12 : Int) => ((W.ret x12).bind fun p13 => ((W.ret (0 : Int)).bind fun q14 => (ofO (some (decide (q14 < p13))))))) (fun (x12 : Int) => (W.ret x12)) xs15)).bind fun x16 => (W.ret (Fl.rt x16))))
def o_lot_behind (a : (List Int) × Unit) : Option (Fl (List Int) Empty Unit) :=
  ((((some a.1).bind fun x2 => (some (enumI x2))).bind fun xs11 => (lcO (fun (x3 : (Int × Int)) => (some true)) (fun (x3 : (Int × Int)) => ((some x3.2).bind fun p9 => (((((some a.1).bind fun x4 => (some (x4.length : Int))).bind fun p5 => ((some (1 : Int)).bind fun q6 => (some (p5 - q6)))).bind fun p7 => ((some x3.1).bind fun q8 => (some (p7 - q8)))).bind fun q10 => (some (p9 - q10))))) xs11)).bind fun (v1 : (List Int)) => (((some v1).bind fun xs15 => (lcO (fun (x12 : Int) => ((some x12).bind fun p13 => ((some (0 : Int)).bind fun q14 => (some (decide (q14 < p13)))))) (fun (x12 : Int) => (some x12)) xs15)).bind fun x16 => (some (Fl.rt x16))))
def m_lot_behind (a : (List Int) × Unit) : Option (List Int) := rtO (o_lot_behind a)
theorem k_lot_behind {f : Addr} {fd : FuncData} (F : Fun K "_lot_behind" "_lot_behind" slot_behind f fd) (T : Txt K mg) {π : Around → Prop} (sπ : Stb π) : FnP π P w K mg base CX0 1 f fd ["spots"] (SpF (pC (qL qI) p0).ra (qT qI) m_lot_behind) := by
  refine fn_okF (p := (pC (qL qI) p0)) (m := w_lot_behind) (pn := (fun z _ => nomatch z)) (pl := fun _ _ => []) (env := fun a => [.im (qL qI) a.1, .un, .un, .un, .un]) 4 sπ F sclot_behind rfl rfl (fun _ => rfl) ?hb ?hg
  case hb =>
    intro cdv A outer s H E hp hr C a hA
    unfold w_lot_behind
    exact (xs_setLc (i := 1) (own := [("at", 2), ("bead", 3)]) (up := (uP (uN 2 qI) (uN 3 qI))) rfl sclot_behind.nd rfl rfl (sw_true rfl rfl rfl (by decide +kernel)) (xi_enL (by rfl) T.enumerate (xe_var (pv 0))) (blkOk_by (N := Nlot_behind) (sc := defScope slot_behind) (by decide +kernel)) rfl (fun _ => rfl) (fun _ _ _ _ _ => (xg_pairW rfl (xg_name (pg_name (i := 2) sclot_behind.nd rfl (by first | exact .inl rfl | exact .inr rfl))) (xg_name (pg_name (i := 3) sclot_behind.nd rfl (by first | exact .inl rfl | exact .inr rfl))))) (fun _ _ _ _ _ _ x3 => xts_nil) (fun _ _ _ _ _ _ x3 => (xe_sub (xe_var (pv 3)) (xe_sub (xe_sub (xe_len (by rfl) T.len (xq_im (xe_var (pv 0)))) xe_int) (xe_var (pv 2))))) (fun v1 => (xs_ret (xe_tuple (by rfl) T.tuple (xq_im (xe_N (xn_lc (own := [("member", 4)]) (up := (uN 4 qI)) rfl sclot_behind.nd (xi_seq (xe_var (pv 1))) (blkOk_by (N := Nlot_behind) (sc := defScope slot_behind) (by decide +kernel)) rfl (fun _ => rfl) (fun _ _ _ _ _ => (xg_name (pg_name (i := 4) sclot_behind.nd rfl (by first | exact .inl rfl | exact .inr rfl)))) (fun _ _ _ _ _ _ x12 => (xts_one (xt_cmpD cd_gt (xe_var (pv 4)) xe_int rfl))) (fun _ _ _ _ _ _ x12 => (xe_var (pv 4))))))))))
  case hg =>
    intro a
    simp only [m_lot_behind, o_lot_behind, w_lot_behind, ofO_rt, ofO_rtN, ofO_bind, ofO_some, ofO_if, ofO_up, ofO_lc, ofO_lca, ofO_lc2, ofO_for, ofO_while, ofO_bindF, ofO_no, ofO_optM]
abbrev sshifted_beads : Stmt := top 35
abbrev Nshifted_beads : List Str := ["spots", "step", "found", "at", "bead", "place", "between", "shifted", "other"]
theorem scshifted_beads : FnScope ["spots", "step", "found", "at", "bead", "place", "between", "shifted", "other"] ["spots", "step"] (defScope sshifted_beads) := ⟨rfl, rfl, rfl, by decide +kernel, rfl, by decide +kernel, by decide +kernel⟩
def w_shifted_beads (a : (List Int) × Int × Unit) : W (Fl (List ((List Int) × Int)) Empty Unit) :=
  ((W.ret ([] : List ((List Int) × Int))).bind fun (v1 : (List ((List Int) × Int))) => (((W.ret a.1).bind fun x2 => (W.ret (enumI x2))).bind fun xs59 => bindF (forL (fun (s3 : (List ((List Int) × Int))) (x4 : (Int × Int)) => (((W.ret x4.2).bind fun p6 => ((W.ret a.2.1).bind fun q7 => (W.ret (p6 + q7)))).bind fun (v5 : Int) => ((((W.ret v5).bind fun p8 => ((W.ret (0 : Int)).bind fun q9 => (ofO (some (decide (p8 < q9)))))).bind fun p13 => (if p13 = true then W.ret true else ((W.ret v5).bind fun p10 => ((W.ret a.1).bind fun q11 => (W.ret ((q11.any fun y12 => decide (y12 = p10)))))))).bind fun b14 => (if b14 = true then upF (W.ret (Fl.ct s3)) else (((W.ret a.1).bind fun xs25 => (lcW (fun (x16 : Int) => (((W.ret x4.2).bind fun i17 => ((W.ret v5).bind fun j18 => (W.ret (if j18 < i17 then j18 else i17)))).bind fun p21 => ((W.ret x16).bind fun q22 => ((ofO (some (decide (p21 < q22)))).bind fun t24 => (if t24 = true then (((W.ret x4.2).bind fun i19 => ((W.ret v5).bind fun j20 => (W.ret (if j20 > i19 then j20 else i19)))).bind fun u23 => (ofO (some (decide (q22 < u23))))) else W.ret false))))) (fun (x16 : Int) => (W.ret x16)) xs25)).bind fun (v15 : (List Int)) => ((((((W.ret a.1).bind fun x28 => ((W.ret (none : Option Int)).bind fun l29 => (((W.ret x4.1).bind fun x27 => (W.ret (some x27))).bind fun h30 => (W.ret (cutL x28 l29 h30))))).bind fun p32 => (((W.ret v5).bind fun x31 => (W.ret [x31])).bind fun q33 => (ofO (catC p32 q33)))).bind fun p40 => (((W.ret a.1).bind fun x37 => ((((W.ret x4.1).bind fun p34 => ((W.ret (1 : Int)).bind fun q35 => (W.ret (p34 + q35)))).bind fun x36 => (W.ret (some x36))).bind fun l38 => ((W.ret (none : Option Int)).bind fun h39 => (W.ret (cutL x37 l38 h39))))).bind fun q41 => (ofO (catC p40 q41)))).bind fun x42 => (W.ret (sortI x42).reverse)).bind fun (v26 : (List Int)) => (((((W.ret v26).bind fun x45 => ((W.ret ()).bind fun y46 => (W.ret (x45, y46)))).bind fun a47 => (ofO (m_lot_behind a47))).bind fun x55 => (((W.ret (1 : Int)).bind fun p53 => (((W.ret (2 : Int)).bind fun p51 => ((((W.ret v15).bind fun x48 => (W.ret (x48.length : Int))).bind fun p49 => ((W.ret (2 : Int)).bind fun q50 => (ofO (modC p49 q50)))).bind fun q52 => (ofO (mulC p51 q52)))).bind fun q54 => (W.ret (p53 - q54)))).bind fun x56 => (W.ret (x55, x56)))).bind fun v43 => ((ofO (addO s3 v43)).bind fun (l44 : (List ((List Int) × Int))) => (W.ret (Fl.nx l44)))))))))) xs59 v1) (fun (s3 : (List ((List Int) × Int))) => (((W.ret s3).bind fun x57 => (W.ret (sortPI x57))).bind fun x58 => (W.ret (Fl.rt x58))))))
def o_shifted_beads (a : (List Int) × Int × Unit) : Option (Fl (List ((List Int) × Int)) Empty Unit) :=
  ((some ([] : List ((List Int) × Int))).bind fun (v1 : (List ((List Int) × Int))) => (((some a.1).bind fun x2 => (some (enumI x2))).bind fun xs59 => bindFO (forO (fun (s3 : (List ((List Int) × Int))) (x4 : (Int × Int)) => (((some x4.2).bind fun p6 => ((some a.2.1).bind fun q7 => (some (p6 + q7)))).bind fun (v5 : Int) => ((((some v5).bind fun p8 => ((some (0 : Int)).bind fun q9 => (some (decide (p8 < q9))))).bind fun p13 => (if p13 = true then some true else ((some v5).bind fun p10 => ((some a.1).bind fun q11 => (some ((q11.any fun y12 => decide (y12 = p10)))))))).bind fun b14 => (if b14 = true then upO (some (Fl.ct s3)) else (((some a.1).bind fun xs25 => (lcO (fun (x16 : Int) => (((some x4.2).bind fun i17 => ((some v5).bind fun j18 => (some (if j18 < i17 then j18 else i17)))).bind fun p21 => ((some x16).bind fun q22 => ((some (decide (p21 < q22))).bind fun t24 => (if t24 = true then (((some x4.2).bind fun i19 => ((some v5).bind fun j20 => (some (if j20 > i19 then j20 else i19)))).bind fun u23 => (some (decide (q22 < u23)))) else some false))))) (fun (x16 : Int) => (some x16)) xs25)).bind fun (v15 : (List Int)) => ((((((some a.1).bind fun x28 => ((some (none : Option Int)).bind fun l29 => (((some x4.1).bind fun x27 => (some (some x27))).bind fun h30 => (some (cutL x28 l29 h30))))).bind fun p32 => (((some v5).bind fun x31 => (some [x31])).bind fun q33 => (catC p32 q33))).bind fun p40 => (((some a.1).bind fun x37 => ((((some x4.1).bind fun p34 => ((some (1 : Int)).bind fun q35 => (some (p34 + q35)))).bind fun x36 => (some (some x36))).bind fun l38 => ((some (none : Option Int)).bind fun h39 => (some (cutL x37 l38 h39))))).bind fun q41 => (catC p40 q41))).bind fun x42 => (some (sortI x42).reverse)).bind fun (v26 : (List Int)) => (((((some v26).bind fun x45 => ((some ()).bind fun y46 => (some (x45, y46)))).bind fun a47 => (m_lot_behind a47)).bind fun x55 => (((some (1 : Int)).bind fun p53 => (((some (2 : Int)).bind fun p51 => ((((some v15).bind fun x48 => (some (x48.length : Int))).bind fun p49 => ((some (2 : Int)).bind fun q50 => (modC p49 q50))).bind fun q52 => (mulC p51 q52))).bind fun q54 => (some (p53 - q54)))).bind fun x56 => (some (x55, x56)))).bind fun v43 => ((addO s3 v43).bind fun (l44 : (List ((List Int) × Int))) => (some (Fl.nx l44)))))))))) xs59 v1) (fun (s3 : (List ((List Int) × Int))) => (((some s3).bind fun x57 => (some (sortPI x57))).bind fun x58 => (some (Fl.rt x58))))))
def m_shifted_beads (a : (List Int) × Int × Unit) : Option (List ((List Int) × Int)) := rtO (o_shifted_beads a)
theorem k_shifted_beads {f : Addr} {fd : FuncData} (F : Fun K "shifted_beads" "shifted_beads" sshifted_beads f fd) (T : Txt K mg) {π : Around → Prop} (sπ : Stb π) (h_lot_behind : Has P w K mg base π "_lot_behind" 1 ["spots"] (SpF (pC (qL qI) p0).ra (qT qI) m_lot_behind)) : FnP π P w K mg base CX0 2 f fd ["spots", "step"] (SpF (pC (qT qI) (pC qI p0)).ra (qT (qP (qT qI) qI)) m_shifted_beads) := by
  refine fn_okF (p := (pC (qT qI) (pC qI p0))) (m := w_shifted_beads) (pn := (fun z _ => nomatch z)) (pl := fun _ _ => []) (env := fun a => [.im (qT qI) a.1, .im qI a.2.1, .un, .un, .un, .un, .un, .un, .un]) 7 sπ F scshifted_beads rfl rfl (fun _ => rfl) ?hb ?hg
  case hb =>
    intro cdv A outer s H E hp hr C a hA
    unfold w_shifted_beads
    exact (xs_setN (i := 2) (xn_nil (r := (qP (qT qI) qI))) (fun v1 => (xs_for (s0 := v1) (up := (uP (uN 3 qI) (uN 4 qI))) (pt := fun (s3 : (List ((List Int) × Int))) g => [.im (qT qI) a.1, .im qI a.2.1, .ow (qP (qT qI) qI) s3, .un, .un, .un, .un, .un, .un]) PassesOwn.never rfl (xi_enT (by rfl) T.enumerate (xe_var (pv 0))) (xg_pairW rfl (xg_name (pg_name (i := 3) scshifted_beads.nd rfl (by first | exact .inl rfl | exact .inr rfl))) (xg_name (pg_name (i := 4) scshifted_beads.nd rfl (by first | exact .inl rfl | exact .inr rfl)))) (fun _ => (.keep (.keep (.keep (.keep (.keep (.keep (.keep (.keep (.keep .nil)))))))))) (fun s3 x4 => (xs_set (i := 5) (xe_add (xe_var (pv 4)) (xe_var (pv 1))) (fun v5 => (xs_ifx (PW.pt (xw_or (xt_cmpD cd_lt (xe_var (pv 5)) xe_int rfl) (xw_or1 (xt_in (xe_var (pv 5)) (xq_im (xe_var (pv 0))))))) (xs_cont (fun _ => (.keep (.keep (.keep (.drop (.drop (.drop (.keep (.keep (.keep .nil))))))))))) (xs_setLc (i := 6) (own := [("other", 8)]) (up := (uN 8 qI)) rfl scshifted_beads.nd rfl rfl (sw_true rfl rfl rfl (by decide +kernel)) (xi_seq (xe_var (pv 0))) (blkOk_by (N := Nshifted_beads) (sc := defScope sshifted_beads) (by decide +kernel)) rfl (fun _ => rfl) (fun _ _ _ _ _ => (xg_name (pg_name (i := 8) scshifted_beads.nd rfl (by first | exact .inl rfl | exact .inr rfl)))) (fun _ _ _ _ _ _ x16 => (xts_one (xt_chainD cd_lt cd_lt (xe_min2 rfl (by rfl) T.min (xe_var (pv 4)) (xe_var (pv 5))) (xe_var (pv 8)) (xe_max2 rfl (by rfl) T.max (xe_var (pv 4)) (xe_var (pv 5)))))) (fun _ _ _ _ _ _ x16 => (xe_var (pv 8))) (fun v15 => (xs_set (i := 7) (xe_N (xn_sortRevT (by rfl) T.sorted (xe_catT (xe_catT (xe_slT (xe_var (pv 0)) xo_none (xo_some (xe_var (pv 3)))) (xe_tup1 (xe_var (pv 5)))) (xe_slT (xe_var (pv 0)) (xo_some (xe_add (xe_var (pv 3)) xe_int)) xo_none)) (pk_cons pe_bl pk_nil))) (fun v26 => (xs_app (i := 2) (pv 2) (xe_tup2 (xe_callH h_lot_behind hp hr (by decide) (by rfl) (xa_cons (xe_var (pv 7)) xa_nil)) (xe_sub xe_int (xe_mul xe_int (xe_mod (xe_len (by rfl) T.len (xq_im (xe_var (pv 6)))) xe_int)))) (fun l44 => (xs_nil (fun _ => (.keep (.keep (.keep (.drop (.drop (.drop (.drop (.drop (.keep .nil)))))))))))) (hb := pe_bm PySem.F.plainAttrs_list PySem.F.slot_list_append PySem.F.type_list_append mt_append (pv 2) (pa_cons (xe_tup2 (xe_callH h_lot_behind hp hr (by decide) (by rfl) (xa_cons (xe_var (pv 7)) xa_nil)) (xe_sub xe_int (xe_mul xe_int (xe_mod (xe_len (by rfl) T.len (xq_im (xe_var (pv 6)))) xe_int)))) pa_nil)))) scshifted_beads.nd rfl (.inl rfl) rfl rfl))))) scshifted_beads.nd rfl (.inr rfl) rfl rfl)) (fun s3 => (xs_ret (xe_tuple (by rfl) T.tuple (xq_im (xe_N (xn_sortedPI (units65 hr) (by rfl) T.sorted (xq_own (pv 2)))))))))) scshifted_beads.nd rfl (.inl rfl) rfl rfl)
  case hg =>
    intro a
    simp only [m_shifted_beads, o_shifted_beads, w_shifted_beads, ofO_rt, ofO_rtN, ofO_bind, ofO_some, ofO_if, ofO_up, ofO_lc, ofO_lca, ofO_lc2, ofO_for, ofO_while, ofO_bindF, ofO_no, ofO_optM]
abbrev srims : Stmt := top 34
abbrev Nrims : List Str := ["lot", "length"]
theorem scrims : FnScope ["lot", "length"] ["lot", "length"] (defScope srims) := ⟨rfl, rfl, rfl, by decide +kernel, rfl, by decide +kernel, by decide +kernel⟩
def w_rims (a : (List Int) × Int × Unit) : W (Fl (List ((List Int) × Int)) Empty Unit) :=
  ((((W.ret a.1).bind fun x1 => ((W.ret ()).bind fun y2 => (W.ret (x1, y2)))).bind fun a3 => (ofO (m_check_lot a3))).bind fun _v4 => ((((W.ret a.2.1).bind fun x9 => (((W.ret (1 : Int)).bind fun x7 => (((W.ret (24 : Int)).bind fun x5 => ((W.ret ()).bind fun y6 => (W.ret (x5, y6)))).bind fun y8 => (W.ret (x7, y8)))).bind fun y10 => (W.ret (x9, y10)))).bind fun a11 => (ofO (m_check_count a11))).bind fun _v12 => ((((((W.ret a.1).bind fun x16 => ((((W.ret a.1).bind fun x13 => (W.ret (x13.length : Int))).bind fun x14 => ((W.ret ()).bind fun y15 => (W.ret (x14, y15)))).bind fun y17 => (W.ret (x16, y17)))).bind fun a18 => (ofO (m_beads_for a18))).bind fun x22 => ((((W.ret a.2.1).bind fun p19 => (W.ret (-p19))).bind fun x20 => ((W.ret ()).bind fun y21 => (W.ret (x20, y21)))).bind fun y23 => (W.ret (x22, y23)))).bind fun a24 => (ofO (m_shifted_beads a24))).bind fun x25 => (W.ret (Fl.rt x25)))))
def o_rims (a : (List Int) × Int × Unit) : Option (Fl (List ((List Int) × Int)) Empty Unit) :=
  ((((some a.1).bind fun x1 => ((some ()).bind fun y2 => (some (x1, y2)))).bind fun a3 => (m_check_lot a3)).bind fun _v4 => ((((some a.2.1).bind fun x9 => (((some (1 : Int)).bind fun x7 => (((some (24 : Int)).bind fun x5 => ((some ()).bind fun y6 => (some (x5, y6)))).bind fun y8 => (some (x7, y8)))).bind fun y10 => (some (x9, y10)))).bind fun a11 => (m_check_count a11)).bind fun _v12 => ((((((some a.1).bind fun x16 => ((((some a.1).bind fun x13 => (some (x13.length : Int))).bind fun x14 => ((some ()).bind fun y15 => (some (x14, y15)))).bind fun y17 => (some (x16, y17)))).bind fun a18 => (m_beads_for a18)).bind fun x22 => ((((some a.2.1).bind fun p19 => (some (-p19))).bind fun x20 => ((some ()).bind fun y21 => (some (x20, y21)))).bind fun y23 => (some (x22, y23)))).bind fun a24 => (m_shifted_beads a24)).bind fun x25 => (some (Fl.rt x25)))))
def m_rims (a : (List Int) × Int × Unit) : Option (List ((List Int) × Int)) := rtO (o_rims a)
theorem k_rims {f : Addr} {fd : FuncData} (F : Fun K "rims" "rims" srims f fd) (T : Txt K mg) {π : Around → Prop} (sπ : Stb π) (h_beads_for : Has P w K mg base π "beads_for" 1 ["lot", "rows"] (SpF (pC (qT qI) (pC qI p0)).ra (qT qI) m_beads_for)) (h_check_count : Has P w K mg base π "check_count" 4 ["value", "low", "high"] (SpF (pC qI (pC qI (pC qI p0))).ra qN m_check_count)) (h_check_lot : Has P w K mg base π "check_lot" 4 ["value"] (SpF (pC (qT qI) p0).ra qN m_check_lot)) (h_shifted_beads : Has P w K mg base π "shifted_beads" 2 ["spots", "step"] (SpF (pC (qT qI) (pC qI p0)).ra (qT (qP (qT qI) qI)) m_shifted_beads)) : FnP π P w K mg base CX0 5 f fd ["lot", "length"] (SpF (pC (qT qI) (pC qI p0)).ra (qT (qP (qT qI) qI)) m_rims) := by
  refine fn_okF (p := (pC (qT qI) (pC qI p0))) (m := w_rims) (pn := (fun z _ => nomatch z)) (pl := fun _ _ => []) (env := fun a => [.im (qT qI) a.1, .im qI a.2.1]) 0 sπ F scrims rfl rfl (fun _ => rfl) ?hb ?hg
  case hb =>
    intro cdv A outer s H E hp hr C a hA
    unfold w_rims
    exact (xs_exp (xe_callH h_check_lot hp hr (by decide) (by rfl) (xa_cons (xe_var (pv 0)) xa_nil)) (fun _v4 => (xs_exp (xe_callH h_check_count hp hr (by decide) (by rfl) (xa_cons (xe_var (pv 1)) (xa_cons xe_int (xa_cons (xe_gintE (by rfl) T.MAX_SUM_) xa_nil)))) (fun _v12 => (xs_ret (xe_callH h_shifted_beads hp hr (by decide) (by rfl) (xa_cons (xe_callH h_beads_for hp hr (by decide) (by rfl) (xa_cons (xe_var (pv 0)) (xa_cons (xe_len (by rfl) T.len (xq_im (xe_var (pv 0)))) xa_nil))) (xa_cons (xe_neg (xe_var (pv 1))) xa_nil))))))))
  case hg =>
    intro a
    simp only [m_rims, o_rims, w_rims, ofO_rt, ofO_rtN, ofO_bind, ofO_some, ofO_if, ofO_up, ofO_lc, ofO_lca, ofO_lc2, ofO_for, ofO_while, ofO_bindF, ofO_no, ofO_optM]
abbrev sled_on : Stmt := top 39
theorem scled_on : FnScope ["states", "length", "ways", "known", "found", "shape", "number", "lot", "sign"] ["states", "length", "ways", "known"] (defScope sled_on) := ⟨rfl, rfl, rfl, by decide +kernel, rfl, by decide +kernel, by decide +kernel⟩
def uw_led_on : List KLI × (KLI → Option (List PTI)) := (uKeys, fun k => m_rims (k.1, k.2, ()))
def w_led_on (d0 : Memo) (a : Sts × Int × Unit × Unit) : W (Fl Sts Empty Unit) :=
  ((W.ret a.1).bind fun xs35 => bindF (forL (fun (s2 : (Memo × (List ((List Int) × Int)))) (x3 : ((List Int) × Int)) => ((((W.ret x3.1).bind fun x4 => ((W.ret a.2.1).bind fun x5 => (W.ret (x4, x5)))).bind fun k6 => (W.ret (!(tget s2.1 k6).isSome))).bind fun b7 => bindF (if b7 = true then ((((W.ret x3.1).bind fun x11 => (((W.ret a.2.1).bind fun x9 => ((W.ret ()).bind fun y10 => (W.ret (x9, y10)))).bind fun y12 => (W.ret (x11, y12)))).bind fun a13 => (ofO (m_rims a13))).bind fun v16 => (((W.ret x3.1).bind fun x14 => ((W.ret a.2.1).bind fun x15 => (W.ret (x14, x15)))).bind fun k17 => ((ofO (tputC s2.1 k17 v16)).bind fun (d18 : Memo) => (W.ret (Fl.nx d18))))) else (W.ret (Fl.nx s2.1))) (fun (s8 : Memo) => ((((W.ret x3.1).bind fun x19 => ((W.ret a.2.1).bind fun x20 => (W.ret (x19, x20)))).bind fun k21 => (ofO (tget s8 k21))).bind fun xs33 => bindF (forL (fun (s22 : (List ((List Int) × Int))) (x23 : ((List Int) × Int)) => ((((W.ret x23.1).bind fun k24 => ((W.ret (0 : Int)).bind fun z25 => (W.ret ((tget s22 k24).getD z25)))).bind fun p28 => (((W.ret x23.2).bind fun p26 => ((W.ret x3.2).bind fun q27 => (ofO (mulC p26 q27)))).bind fun q29 => (W.ret (p28 + q29)))).bind fun v30 => ((W.ret x23.1).bind fun k31 => ((ofO (tputC s22 k31 v30)).bind fun (d32 : (List ((List Int) × Int))) => (W.ret (Fl.nx d32)))))) xs33 s2.2) (fun (s22 : (List ((List Int) × Int))) => (W.ret (Fl.nx (s8, s22)))))))) xs35 (d0, ([] : (List ((List Int) × Int))))) (fun (s2 : (Memo × (List ((List Int) × Int)))) => ((W.grd (Good uw_led_on s2.1)).bind fun _ => ((W.ret s2.2).bind fun x34 => (W.ret (Fl.rt x34))))))
def tail_led_on (a : Sts × Int × Unit × Unit) (x3 : List Int × Int) (s2 : Memo × Sts) (s8 : Memo) : W (Fl Sts (Memo × Sts) (Memo × Sts)) :=
   ((((W.ret x3.1).bind fun x19 => ((W.ret a.2.1).bind fun x20 => (W.ret (x19, x20)))).bind fun k21 => (ofO (tget s8 k21))).bind fun xs33 => bindF (forL (fun (s22 : (List ((List Int) × Int))) (x23 : ((List Int) × Int)) => ((((W.ret x23.1).bind fun k24 => ((W.ret (0 : Int)).bind fun z25 => (W.ret ((tget s22 k24).getD z25)))).bind fun p28 => (((W.ret x23.2).bind fun p26 => ((W.ret x3.2).bind fun q27 => (ofO (mulC p26 q27)))).bind fun q29 => (W.ret (p28 + q29)))).bind fun v30 => ((W.ret x23.1).bind fun k31 => ((ofO (tputC s22 k31 v30)).bind fun (d32 : (List ((List Int) × Int))) => (W.ret (Fl.nx d32)))))) xs33 s2.2) (fun (s22 : (List ((List Int) × Int))) => (W.ret (Fl.nx (s8, s22)))))
theorem sim_led_on {d0 : Memo} (hd : Good uw_led_on d0) {a : Sts × Int × Unit × Unit} {o : Sts} (e : mled uw_led_on a = some o) (g : Gh) (P : Fl Sts Empty Unit → Gh → Prop) (hP : P (.rt o) g) : w_led_on d0 a g P := by
  unfold mled at e
  split at e
  case isFalse => cases e
  rename_i hU
  have hK : ∀ e ∈ a.1, (e.1, a.2.1) ∈ uw_led_on.1 := fun e he => okU_mem (List.all_eq_true.mp hU e he)
  replace hU : uw_led_on.1.length ≤ 1000000 := uKeys_len
  show forL _ a.1 (d0, []) g (fun w g1 => bindK _ w g1 P)
  refine forL_sim (h := ledOut uw_led_on.2 a.2.1) (R := fun t s => s.2 = t ∧ Good uw_led_on s.1) a.1 (d0, []) [] o e ⟨rfl, hd⟩ (fun x hx s t t1 g P ht hR hQ => ?_) g _ fun s hR => ?_
  · obtain ⟨k0, f0⟩ := s
    obtain ⟨rfl, hG⟩ := hR
    obtain ⟨ws, e1, e2⟩ := Option.bind_eq_some_iff.mp ht
    have fin : ∀ k1 : Memo, Good uw_led_on k1 → tget k1 (x.1, a.2.1) = some ws → ∀ P : Fl Sts (Memo × Sts) (Memo × Sts) → Gh → Prop, (∀ s1 : Memo × Sts, s1.2 = t1 ∧ Good uw_led_on s1.1 → P (.nx s1) g) → tail_led_on a x (k0, f0) k1 g P := fun k1 h1 h2 P hP => by
      show ∃ z, tget k1 (x.1, a.2.1) = some z ∧ forL _ z f0 g (fun w g1 => bindK _ w g1 P)
      refine ⟨ws, h2, ?_⟩
      refine forL_sim (h := ledIn x.2) (R := fun t s => s = t) ws f0 f0 t1 e2 rfl (fun y hy s t t2 g P ht hR hQ => ?_) g _ fun s hR => ?_
      · subst hR
        obtain ⟨q, q1, q2⟩ := Option.bind_eq_some_iff.mp ht
        show ∃ z, mulC y.2 x.2 = some z ∧ ∃ u, tputC s y.1 ((tget s y.1).getD 0 + z) = some u ∧ P (.nx u) g
        exact ⟨q, q1, t2, q2, hQ t2 rfl⟩
      · subst hR
        exact hP (k1, s) ⟨rfl, h1⟩
    cases hk : tget k0 (x.1, a.2.1) with
    | some v =>
      have ev : v = ws := Option.some.inj ((good_get hG hk).symm.trans e1)
      subst ev
      show bindF (if (!(tget k0 (x.1, a.2.1)).isSome) = true then _ else _) _ g P
      rw [hk, if_neg (by simp)]
      exact fin k0 hG hk P hQ
    | none =>
      obtain ⟨p1, p2, p3⟩ := good_put hG hU hk (hK x hx) e1
      show bindF (if (!(tget k0 (x.1, a.2.1)).isSome) = true then _ else _) _ g P
      rw [hk, if_pos (by decide)]
      show ∃ v, m_rims (x.1, a.2.1, ()) = some v ∧ ∃ d, tputC k0 (x.1, a.2.1) v = some d ∧ tail_led_on a x (k0, f0) d g P
      exact ⟨ws, e1, _, p1, fin _ p2 p3 P hQ⟩
  · show Good uw_led_on s.1 ∧ P (.rt s.2) g
    exact ⟨hR.2, by rw [hR.1]; exact hP⟩
theorem k_led_on {f : Addr} {fd : FuncData} (F : Fun K "_led_on" "_led_on" sled_on f fd) (T : Txt K mg) {π : Around → Prop} (sπ : Stb π) (h_rims : Has P w K mg base π "rims" 5 ["lot", "length"] (SpF (pC (qT qI) (pC qI p0)).ra (qT (qP (qT qI) qI)) m_rims)) : FnP π P w K mg base CX0 6 f fd ["states", "length", "ways", "known"] (SpK (oMe P w (kxP (kvT kvI) kvI (by decide)) (qT (qP (qT qI) qI)) uw_led_on) (pC (qTb P w (kxT kvI (by decide)) qI) (pC qI (pC (qFn mg "rims") p0))).ra (qTb P w (kxT kvI (by decide)) qI) (mled uw_led_on)) := by
  refine fn_okK (β := Empty) (γ := Unit) (p := (pC (qTb P w (kxT kvI (by decide)) qI) (pC qI (pC (qFn mg "rims") p0)))) (m := fun a => (ofO (mled uw_led_on a)).bind fun x => W.ret (Fl.rt x)) (pn := (fun z _ => nomatch z)) (pl := fun _ _ => []) (env := fun a d => [.im (qTb P w (kxT kvI (by decide)) qI) a.1, .im qI a.2.1, .im (qFn mg "rims") a.2.2.1, .ob (oMa P w (kxP (kvT kvI) kvI (by decide)) (qT (qP (qT qI) qI)) uw_led_on d) (), .un, .un, .un, .un, .un]) 5 sπ F scled_on rfl rfl (fun _ _ => rfl) ?hb ?hg
  case hb =>
    intro cdv A outer s H E hp hr C d a hA
    refine xs_unhide 3 (a0 := d) fun d0 hd => xs_weak (m' := w_led_on d0 a) (fun g P ⟨o, e, hP⟩ => sim_led_on hd e g P hP) ?_
    unfold w_led_on
    exact (xs_setT0 (E := (kxT kvI (by decide))) (rv := qI) (i := 4) (xs_for (s0 := (d0, ([] : (List ((List Int) × Int))))) (up := (uP (uN 5 (qT qI)) (uN 6 qI))) (pt := fun (s2 : (Memo × (List ((List Int) × Int)))) g => [.im (qTb P w (kxT kvI (by decide)) qI) a.1, .im qI a.2.1, .im (qFn mg "rims") (), .ob (oTa P w (kxP (kvT kvI) kvI (by decide)) (qT (qP (qT qI) qI)) d) s2.1, .ob (oTb P w (kxT kvI (by decide)) qI) s2.2, .un, .un, .un, .un]) PassesOwn.never rfl (xi_itemsT (xe_var (pv 0))) (xg_pairW rfl (xg_name (pg_name (i := 5) scled_on.nd rfl (by first | exact .inl rfl | exact .inr rfl))) (xg_name (pg_name (i := 6) scled_on.nd rfl (by first | exact .inl rfl | exact .inr rfl)))) (fun _ => (.keep (.keep (.keep (.keep (.keep (.keep (.keep (.keep (.keep .nil)))))))))) (fun s2 x3 => (xs_if (pt := fun (s8 : Memo) g => [.im (qTb P w (kxT kvI (by decide)) qI) a.1, .im qI a.2.1, .im (qFn mg "rims") (), .ob (oTa P w (kxP (kvT kvI) kvI (by decide)) (qT (qP (qT qI) qI)) d) s8, .ob (oTb P w (kxT kvI (by decide)) qI) s2.2, .im (qT qI) x3.1, .im qI x3.2, .un, .un]) (xt_ninA (E := (kxP (kvT kvI) kvI (by decide))) (rv := (qT (qP (qT qI) qI))) (i := 3) (a0 := d) (d := s2.1) (units9 hr) (xe_tup2 (xe_var (pv 5)) (xe_var (pv 1))) (pv 3)) (xs_putA (E := (kxP (kvT kvI) kvI (by decide))) (rv := (qT (qP (qT qI) qI))) (i := 3) (a0 := d) (d := s2.1) (units9 hr) (xe_callLoc (i := 2) h_rims hp hr (by decide) rfl (.inl rfl) (xa_cons (xe_var (pv 5)) (xa_cons (xe_var (pv 1)) xa_nil))) (pv 3) (xe_tup2 (xe_var (pv 5)) (xe_var (pv 1))) (fun d18 => (xs_nil (fun _ => (.keep (.keep (.keep (.keep (.keep (.keep (.keep (.keep (.keep .nil))))))))))))) (xs_nil (fun _ => (.keep (.keep (.keep (.keep (.keep (.keep (.keep (.keep (.keep .nil))))))))))) (fun s8 => (xs_for (s0 := s2.2) (up := (uP (uN 7 (qT qI)) (uN 8 qI))) (pt := fun (s22 : (List ((List Int) × Int))) g => [.im (qTb P w (kxT kvI (by decide)) qI) a.1, .im qI a.2.1, .im (qFn mg "rims") (), .ob (oTa P w (kxP (kvT kvI) kvI (by decide)) (qT (qP (qT qI) qI)) d) s8, .ob (oTb P w (kxT kvI (by decide)) qI) s22, .im (qT qI) x3.1, .im qI x3.2, .un, .un]) PassesOwn.never rfl (xi_seq (xe_subA (E := (kxP (kvT kvI) kvI (by decide))) (rv := (qT (qP (qT qI) qI))) (i := 3) (a0 := d) (d := s8) (units9 hr) (pv 3) (xe_tup2 (xe_var (pv 5)) (xe_var (pv 1))))) (xg_pair rfl (xg_name (pg_name (i := 7) scled_on.nd rfl (by first | exact .inl rfl | exact .inr rfl))) (xg_name (pg_name (i := 8) scled_on.nd rfl (by first | exact .inl rfl | exact .inr rfl)))) (fun _ => (.keep (.keep (.keep (.keep (.keep (.keep (.keep (.keep (.keep .nil)))))))))) (fun s22 x23 => (xs_putT (E := (kxT kvI (by decide))) (rv := qI) (i := 4) (units9 hr) (xe_add (xe_getT (E := (kxT kvI (by decide))) (i := 4) (units9 hr) (pv 4) (xe_var (pv 7)) xe_int) (xe_mul (xe_var (pv 8)) (xe_var (pv 6)))) (pv 4) (xe_var (pv 7)) (fun d32 => (xs_nil (fun _ => (.keep (.keep (.keep (.keep (.keep (.keep (.keep (.drop (.drop .nil)))))))))))))) (fun s22 => (xs_nil (fun _ => (.keep (.keep (.keep (.keep (.keep (.drop (.drop (.keep (.keep .nil)))))))))))))))) (fun s2 => (xs_lkTA (E := (kxT kvI (by decide))) (rv := qI) (E' := (kxP (kvT kvI) kvI (by decide))) (rv' := (qT (qP (qT qI) qI))) 4 3 (d := d) (dd := s2.1) hA (xs_hide (E := (kxP (kvT kvI) kvI (by decide))) (rv := (qT (qP (qT qI) qI))) (mw := uw_led_on) 3 (a0 := d) (d := s2.1) (xs_ret (hk := ⟨4, fun _ => rfl⟩) (xe_var (pv 4))))))) scled_on.nd rfl (.inl rfl) rfl rfl)
  case hg => exact fun a => ofO_ret _
abbrev scharacter : Stmt := top 38
abbrev Ncharacter : List Str := ["shape", "lot", "member", "states", "known"]
theorem sccharacter : FnScope ["shape", "lot", "member", "states", "known"] ["shape", "lot"] (defScope scharacter) := ⟨rfl, rfl, rfl, by decide +kernel, rfl, by decide +kernel, by decide +kernel⟩
def w_character (a : (List Int) × (List Int) × Unit) : W (Fl Int Empty Unit) :=
  ((((W.ret a.1).bind fun x3 => (((W.ret a.2.1).bind fun x1 => ((W.ret ()).bind fun y2 => (W.ret (x1, y2)))).bind fun y4 => (W.ret (x3, y4)))).bind fun a5 => (ofO (m_check_lots a5))).bind fun _v6 => ((((W.ret a.1).bind fun x9 => (((W.ret (14 : Int)).bind fun x7 => ((W.ret ()).bind fun y8 => (W.ret (x7, y8)))).bind fun y10 => (W.ret (x9, y10)))).bind fun a11 => (ofO (m_check_sum a11))).bind fun _v12 => (((W.ret a.1).bind fun k15 => ((W.ret (1 : Int)).bind fun u16 => (W.ret [(k15, u16)]))).bind fun (v13 : (List ((List Int) × Int))) => ((W.ret a.2.1).bind fun xs29 => bindF (forL (fun (s17 : (List ((List Int) × Int))) (x18 : Int) => (((W.ret s17).bind fun x20 => ((W.ret x18).bind fun x21 => (ofO (mled uw_led_on (x20, x21, (), ()))))).bind fun (v19 : (List ((List Int) × Int))) => (W.ret (Fl.nx v19)))) xs29 v13) (fun (s17 : (List ((List Int) × Int))) => (((W.ret s17).bind fun x27 => ((W.ret ([] : List Int)).bind fun k25 => ((W.ret (0 : Int)).bind fun z26 => (W.ret ((tget x27 k25).getD z26))))).bind fun x28 => (W.ret (Fl.rt x28))))))))
def o_character (a : (List Int) × (List Int) × Unit) : Option (Fl Int Empty Unit) :=
  ((((some a.1).bind fun x3 => (((some a.2.1).bind fun x1 => ((some ()).bind fun y2 => (some (x1, y2)))).bind fun y4 => (some (x3, y4)))).bind fun a5 => (m_check_lots a5)).bind fun _v6 => ((((some a.1).bind fun x9 => (((some (14 : Int)).bind fun x7 => ((some ()).bind fun y8 => (some (x7, y8)))).bind fun y10 => (some (x9, y10)))).bind fun a11 => (m_check_sum a11)).bind fun _v12 => (((some a.1).bind fun k15 => ((some (1 : Int)).bind fun u16 => (some [(k15, u16)]))).bind fun (v13 : (List ((List Int) × Int))) => ((some a.2.1).bind fun xs29 => bindFO (forO (fun (s17 : (List ((List Int) × Int))) (x18 : Int) => (((some s17).bind fun x20 => ((some x18).bind fun x21 => (mled uw_led_on (x20, x21, (), ())))).bind fun (v19 : (List ((List Int) × Int))) => (some (Fl.nx v19)))) xs29 v13) (fun (s17 : (List ((List Int) × Int))) => (((some s17).bind fun x27 => ((some ([] : List Int)).bind fun k25 => ((some (0 : Int)).bind fun z26 => (some ((tget x27 k25).getD z26))))).bind fun x28 => (some (Fl.rt x28))))))))
def m_character (a : (List Int) × (List Int) × Unit) : Option Int := rtO (o_character a)
theorem k_character {f : Addr} {fd : FuncData} (F : Fun K "character" "character" scharacter f fd) (T : Txt K mg) {π : Around → Prop} (sπ : Stb π) (h_check_lots : Has P w K mg base π "check_lots" 5 ["one", "other"] (SpF (pC (qT qI) (pC (qT qI) p0)).ra qN m_check_lots)) (h_check_sum : Has P w K mg base π "check_sum" 1 ["lot", "limit"] (SpF (pC (qT qI) (pC qI p0)).ra qN m_check_sum)) (h_led_on : Has P w K mg base π "_led_on" 6 ["states", "length", "ways", "known"] (SpK (oMe P w (kxP (kvT kvI) kvI (by decide)) (qT (qP (qT qI) qI)) uw_led_on) (pC (qTb P w (kxT kvI (by decide)) qI) (pC qI (pC (qFn mg "rims") p0))).ra (qTb P w (kxT kvI (by decide)) qI) (mled uw_led_on))) (h_rims : Has P w K mg base π "rims" 5 ["lot", "length"] (SpF (pC (qT qI) (pC qI p0)).ra (qT (qP (qT qI) qI)) m_rims)) : FnP π P w K mg base CX0 7 f fd ["shape", "lot"] (SpF (pC (qT qI) (pC (qT qI) p0)).ra qI m_character) := by
  refine fn_okF (p := (pC (qT qI) (pC (qT qI) p0))) (m := w_character) (pn := (fun z _ => nomatch z)) (pl := fun _ _ => []) (env := fun a => [.im (qT qI) a.1, .im (qT qI) a.2.1, .un, .un, .un]) 3 sπ F sccharacter rfl rfl (fun _ => rfl) ?hb ?hg
  case hb =>
    intro cdv A outer s H E hp hr C a hA
    unfold w_character
    exact (xs_exp (xe_callH h_check_lots hp hr (by decide) (by rfl) (xa_cons (xe_var (pv 0)) (xa_cons (xe_var (pv 1)) xa_nil))) (fun _v6 => (xs_exp (xe_callH h_check_sum hp hr (by decide) (by rfl) (xa_cons (xe_var (pv 0)) (xa_cons (xe_gintE (by rfl) T.MAX_CHARTED_) xa_nil))) (fun _v12 => (xs_parT (E := (kxP (kvT kvI) kvI (by decide))) (rv := (qT (qP (qT qI) qI))) (i := 3) (j := 4) (xe_disp1 (E := (kxT kvI (by decide))) (units9 hr) (fun _ => (xe_var (pv 0))) (fun _ => xe_int)) (fun v13 => (xs_hide0 (E := (kxP (kvT kvI) kvI (by decide))) (rv := (qT (qP (qT qI) qI))) (mw := uw_led_on) 4 (xs_for (s0 := v13) (up := (uN 2 qI)) (pt := fun (s17 : (List ((List Int) × Int))) g => [.im (qT qI) a.1, .im (qT qI) a.2.1, .un, .im (qTb P w (kxT kvI (by decide)) qI) s17, .ob (oMe P w (kxP (kvT kvI) kvI (by decide)) (qT (qP (qT qI) qI)) uw_led_on) ()]) PassesOwn.never rfl (xi_seq (xe_var (pv 1))) (xg_name (pg_name (i := 2) sccharacter.nd rfl (by first | exact .inl rfl | exact .inr rfl))) (fun _ => (.keep (.keep (.keep (.keep (.keep .nil)))))) (fun s17 x18 => (xs_set (i := 3) (pe_eq (xe_callK (i := 4) h_led_on hp hr (by decide) (by rfl) (xk_cons (xe_var (pv 3)) (xk_cons (xe_var (pv 2)) (xk_cons (xe_fn (by rfl) (let ⟨fa, _, _, hm, _, _⟩ := h_rims; ⟨fa, hm⟩)) (xk_nil (pv 4)))))) (by funext g P; rfl)) (fun v19 => (xs_nil (fun _ => (.keep (.keep (.drop (.keep (.keep .nil)))))))) sccharacter.nd rfl (.inl rfl) rfl rfl)) (fun s17 => (xs_ret (xe_getF (units9 hr) (xe_var (pv 3)) (xe_tup0 (r := qI)) xe_int)))))) rfl sccharacter.nd rfl rfl (by decide) rfl rfl rfl)))))
  case hg =>
    intro a
    simp only [m_character, o_character, w_character, ofO_rt, ofO_rtN, ofO_bind, ofO_some, ofO_if, ofO_up, ofO_lc, ofO_lca, ofO_lc2, ofO_for, ofO_while, ofO_bindF, ofO_no, ofO_optM]
abbrev slaw_right : Stmt := top 50
abbrev Nlaw_right : List Str := ["_law_dice_here", "_law_lot", "_law_total", "_law_due", "_law_less", "_law_more_here", "_law_one"]
theorem sclaw_right : FnScope ["_law_dice_here", "_law_lot", "_law_total", "_law_due", "_law_less", "_law_more_here", "_law_one"] ["_law_dice_here"] (defScope slaw_right) := ⟨rfl, rfl, rfl, by decide +kernel, rfl, by decide +kernel, by decide +kernel⟩
def w_law_right (a : Unit) : W (Fl Bool Empty Unit) :=
  ((((((W.ret (13 : Int)).bind fun x2 => ((W.ret ()).bind fun y3 => (W.ret (x2, y3)))).bind fun a4 => (m_law_roll a4)).bind fun x5 => ((W.ret ()).bind fun y6 => (W.ret (x5, y6)))).bind fun a7 => (m_law_lot_drawn a7)).bind fun (v1 : (List Int)) => (((W.ret v1).bind fun x10 => (W.ret x10.sum)).bind fun (v8 : Int) => ((((W.ret v1).bind fun x11 => ((W.ret ()).bind fun y12 => (W.ret (x11, y12)))).bind fun a13 => (ofO (m_law_dg_ways a13))).bind fun (v9 : Int) => ((((((W.ret v1).bind fun x14 => ((W.ret ()).bind fun y15 => (W.ret (x14, y15)))).bind fun a16 => (ofO (m_dimension a16))).bind fun p17 => ((W.ret v9).bind fun q18 => (ofO (some (!decide (p17 = q18)))))).bind fun p32 => (if p32 = true then W.ret true else (((((W.ret v1).bind fun x19 => ((W.ret ()).bind fun y20 => (W.ret (x19, y20)))).bind fun a21 => (ofO (m_dimension a21))).bind fun p25 => ((((W.ret v1).bind fun x22 => ((W.ret ()).bind fun y23 => (W.ret (x22, y23)))).bind fun a24 => (ofO (m_hooks_product a24))).bind fun q26 => (ofO (mulC p25 q26)))).bind fun p30 => ((((W.ret v8).bind fun x27 => ((W.ret ()).bind fun y28 => (W.ret (x27, y28)))).bind fun a29 => (ofO (m_law_factorial a29))).bind fun q31 => (ofO (some (!decide (p30 = q31)))))))).bind fun b33 => (if b33 = true then upF ((W.ret false).bind fun x34 => (W.ret (Fl.rt x34))) else ((((W.ret v1).bind fun x37 => ((W.ret ()).bind fun y38 => (W.ret (x37, y38)))).bind fun a39 => (ofO (m_less_square a39))).bind fun (v35 : (List (List Int))) => ((((W.ret v1).bind fun x40 => ((W.ret ()).bind fun y41 => (W.ret (x40, y41)))).bind fun a42 => (ofO (m_more_square a42))).bind fun (v36 : (List (List Int))) => ((((W.ret v35).bind fun p46 => ((((W.ret v1).bind fun x43 => ((W.ret ()).bind fun y44 => (W.ret (x43, y44)))).bind fun a45 => (ofO (m_law_dg_less a45))).bind fun q47 => (ofO (some (!PyData.eqv ((dT (dT dI)).d p46) ((dT (dT dI)).d q47)))))).bind fun p53 => (if p53 = true then W.ret true else ((W.ret v36).bind fun p51 => ((((W.ret v1).bind fun x48 => ((W.ret ()).bind fun y49 => (W.ret (x48, y49)))).bind fun a50 => (ofO (m_law_more a50))).bind fun q52 => (ofO (some (!PyData.eqv ((dT (dT dI)).d p51) ((dT (dT dI)).d q52)))))))).bind fun b54 => (if b54 = true then upF ((W.ret false).bind fun x55 => (W.ret (Fl.rt x55))) else ((((W.ret v8).bind fun p56 => ((W.ret (0 : Int)).bind fun q57 => (ofO (some (decide (q57 < p56)))))).bind fun p66 => (if p66 = true then ((((W.ret v35).bind fun xs62 => (lcW (fun (x58 : (List Int)) => (W.ret true)) (fun (x58 : (List Int)) => (((W.ret x58).bind fun x59 => ((W.ret ()).bind fun y60 => (W.ret (x59, y60)))).bind fun a61 => (ofO (m_dimension a61)))) xs62)).bind fun x63 => (W.ret x63.sum)).bind fun p64 => ((W.ret v9).bind fun q65 => (ofO (some (!decide (p64 = q65)))))) else W.ret false)).bind fun b67 => (if b67 = true then upF ((W.ret false).bind fun x68 => (W.ret (Fl.rt x68))) else (((((W.ret v36).bind fun xs73 => (lcW (fun (x69 : (List Int)) => (W.ret true)) (fun (x69 : (List Int)) => (((W.ret x69).bind fun x70 => ((W.ret ()).bind fun y71 => (W.ret (x70, y71)))).bind fun a72 => (ofO (m_dimension a72)))) xs73)).bind fun x74 => (W.ret x74.sum)).bind fun p79 => ((((W.ret v8).bind fun p75 => ((W.ret (1 : Int)).bind fun q76 => (W.ret (p75 + q76)))).bind fun p77 => ((W.ret v9).bind fun q78 => (ofO (mulC p77 q78)))).bind fun q80 => (ofO (some (!decide (p79 = q80)))))).bind fun b81 => (if b81 = true then upF ((W.ret false).bind fun x82 => (W.ret (Fl.rt x82))) else (((((W.ret v1).bind fun x88 => (((((W.ret (1 : Int)).bind fun x83 => (W.ret [x83])).bind fun x84 => ((W.ret v8).bind fun k85 => (ofO (repT1 x84 k85)))).bind fun x86 => ((W.ret ()).bind fun y87 => (W.ret (x86, y87)))).bind fun y89 => (W.ret (x88, y89)))).bind fun a90 => (ofO (m_character a90))).bind fun p91 => ((W.ret v9).bind fun q92 => (ofO (some (decide (p91 = q92)))))).bind fun x93 => (W.ret (Fl.rt x93))))))))))))))))
def p_law_right (a : Unit) (v1 : (List Int)) : Option (Fl Bool Empty Unit) :=
  (((some v1).bind fun x10 => (some x10.sum)).bind fun (v8 : Int) => ((((some v1).bind fun x11 => ((some ()).bind fun y12 => (some (x11, y12)))).bind fun a13 => (m_law_dg_ways a13)).bind fun (v9 : Int) => ((((((some v1).bind fun x14 => ((some ()).bind fun y15 => (some (x14, y15)))).bind fun a16 => (m_dimension a16)).bind fun p17 => ((some v9).bind fun q18 => (some (!decide (p17 = q18))))).bind fun p32 => (if p32 = true then some true else (((((some v1).bind fun x19 => ((some ()).bind fun y20 => (some (x19, y20)))).bind fun a21 => (m_dimension a21)).bind fun p25 => ((((some v1).bind fun x22 => ((some ()).bind fun y23 => (some (x22, y23)))).bind fun a24 => (m_hooks_product a24)).bind fun q26 => (mulC p25 q26))).bind fun p30 => ((((some v8).bind fun x27 => ((some ()).bind fun y28 => (some (x27, y28)))).bind fun a29 => (m_law_factorial a29)).bind fun q31 => (some (!decide (p30 = q31))))))).bind fun b33 => (if b33 = true then upO ((some false).bind fun x34 => (some (Fl.rt x34))) else ((((some v1).bind fun x37 => ((some ()).bind fun y38 => (some (x37, y38)))).bind fun a39 => (m_less_square a39)).bind fun (v35 : (List (List Int))) => ((((some v1).bind fun x40 => ((some ()).bind fun y41 => (some (x40, y41)))).bind fun a42 => (m_more_square a42)).bind fun (v36 : (List (List Int))) => ((((some v35).bind fun p46 => ((((some v1).bind fun x43 => ((some ()).bind fun y44 => (some (x43, y44)))).bind fun a45 => (m_law_dg_less a45)).bind fun q47 => (some (!PyData.eqv ((dT (dT dI)).d p46) ((dT (dT dI)).d q47))))).bind fun p53 => (if p53 = true then some true else ((some v36).bind fun p51 => ((((some v1).bind fun x48 => ((some ()).bind fun y49 => (some (x48, y49)))).bind fun a50 => (m_law_more a50)).bind fun q52 => (some (!PyData.eqv ((dT (dT dI)).d p51) ((dT (dT dI)).d q52))))))).bind fun b54 => (if b54 = true then upO ((some false).bind fun x55 => (some (Fl.rt x55))) else ((((some v8).bind fun p56 => ((some (0 : Int)).bind fun q57 => (some (decide (q57 < p56))))).bind fun p66 => (if p66 = true then ((((some v35).bind fun xs62 => (lcO (fun (x58 : (List Int)) => (some true)) (fun (x58 : (List Int)) => (((some x58).bind fun x59 => ((some ()).bind fun y60 => (some (x59, y60)))).bind fun a61 => (m_dimension a61))) xs62)).bind fun x63 => (some x63.sum)).bind fun p64 => ((some v9).bind fun q65 => (some (!decide (p64 = q65))))) else some false)).bind fun b67 => (if b67 = true then upO ((some false).bind fun x68 => (some (Fl.rt x68))) else (((((some v36).bind fun xs73 => (lcO (fun (x69 : (List Int)) => (some true)) (fun (x69 : (List Int)) => (((some x69).bind fun x70 => ((some ()).bind fun y71 => (some (x70, y71)))).bind fun a72 => (m_dimension a72))) xs73)).bind fun x74 => (some x74.sum)).bind fun p79 => ((((some v8).bind fun p75 => ((some (1 : Int)).bind fun q76 => (some (p75 + q76)))).bind fun p77 => ((some v9).bind fun q78 => (mulC p77 q78))).bind fun q80 => (some (!decide (p79 = q80))))).bind fun b81 => (if b81 = true then upO ((some false).bind fun x82 => (some (Fl.rt x82))) else (((((some v1).bind fun x88 => (((((some (1 : Int)).bind fun x83 => (some [x83])).bind fun x84 => ((some v8).bind fun k85 => (repT1 x84 k85))).bind fun x86 => ((some ()).bind fun y87 => (some (x86, y87)))).bind fun y89 => (some (x88, y89)))).bind fun a90 => (m_character a90)).bind fun p91 => ((some v9).bind fun q92 => (some (decide (p91 = q92))))).bind fun x93 => (some (Fl.rt x93)))))))))))))))
theorem s_law_right (a : Unit) : w_law_right a = ((((((W.ret (13 : Int)).bind fun x2 => ((W.ret ()).bind fun y3 => (W.ret (x2, y3)))).bind fun a4 => (m_law_roll a4)).bind fun x5 => ((W.ret ()).bind fun y6 => (W.ret (x5, y6)))).bind fun a7 => (m_law_lot_drawn a7))).bind fun v1 => ofO (p_law_right a v1) := by
  simp only [w_law_right, p_law_right, ofO_rt, ofO_rtN, ofO_bind, ofO_some, ofO_if, ofO_up, ofO_lc, ofO_lca, ofO_lc2, ofO_for, ofO_while, ofO_bindF, ofO_no, ofO_optM]
def m_law_right (a : Unit) : W Bool := rtOf (w_law_right a)
theorem k_law_right {f : Addr} {fd : FuncData} (F : Fun K "_law_right" "_law_right" slaw_right f fd) (T : Txt K mg) {π : Around → Prop} (sπ : Stb π) (h_character : Has P w K mg base π "character" 7 ["shape", "lot"] (SpF (pC (qT qI) (pC (qT qI) p0)).ra qI m_character)) (h_dimension : Has P w K mg base π "dimension" 7 ["lot"] (SpF (pC (qT qI) p0).ra qI m_dimension)) (h_hooks_product : Has P w K mg base π "hooks_product" 6 ["lot"] (SpF (pC (qT qI) p0).ra qI m_hooks_product)) (h_law_dg_less : Has P w K mg base π "_law_dg_less" 1 ["_law_lot"] (SpF (pC (qT qI) p0).ra (qL (qT qI)) m_law_dg_less)) (h_law_dg_ways : Has P w K mg base π "_law_dg_ways" 2 ["_law_lot"] (SpF (pC (qT qI) p0).ra qI m_law_dg_ways)) (h_law_factorial : Has P w K mg base π "_law_factorial" 1 ["_law_number"] (SpF (pC qI p0).ra qI m_law_factorial)) (h_law_lot_drawn : Has P w K mg base π "_law_lot_drawn" 3 ["_law_dice_here", "_law_total"] (SpD (pC qI p0).ra (qT qI) m_law_lot_drawn)) (h_law_more : Has P w K mg base π "_law_more" 1 ["_law_lot"] (SpF (pC (qT qI) p0).ra (qL (qT qI)) m_law_more)) (h_law_roll : Has P w K mg base π "_law_roll" 1 ["_law_dice_here", "_law_total"] (SpD (pC qI p0).ra qI m_law_roll)) (h_less_square : Has P w K mg base π "less_square" 5 ["lot"] (SpF (pC (qT qI) p0).ra (qT (qT qI)) m_less_square)) (h_more_square : Has P w K mg base π "more_square" 5 ["lot"] (SpF (pC (qT qI) p0).ra (qT (qT qI)) m_more_square)) : FnP π P w K mg base CX0 8 f fd ["_law_dice_here"] (SpD p0.ra qB m_law_right) := by
  refine fn_okD (p := p0) (m := w_law_right) (pn := (fun z _ => nomatch z)) (pl := fun _ _ => []) (env := fun a => [.un, .un, .un, .un, .un, .un]) 6 sπ F sclaw_right rfl rfl (fun _ => rfl) ?hb ?hg
  case hb =>
    intro cdv A outer s H E hp hr C d a hA
    unfold w_law_right
    exact (xs_set (i := 1) (xe_callDH h_law_lot_drawn hp hr (by decide) (by rfl) (pv 0) (xa_cons (xe_callDH h_law_roll hp hr (by decide) (by rfl) (pv 0) (xa_cons xe_int xa_nil)) xa_nil)) (fun v1 => (xs_par (env := fun g => [.iv d (oD g), .im (qT qI) v1, .un, .un, .un, .un, .un]) (i := 2) (j := 3) (xe_sum rfl (by rfl) T.sum (xq_im (xe_var (pv 1)))) (xe_callH h_law_dg_ways hp hr (by decide) (by rfl) (xa_cons (xe_var (pv 1)) xa_nil)) (fun v8 v9 => (xs_ifx (PW.pt (xw_or (xt_cmpD cd_neI (xe_callH h_dimension hp hr (by decide) (by rfl) (xa_cons (xe_var (pv 1)) xa_nil)) (xe_var (pv 3)) rfl) (xw_or1 (xt_cmpD cd_neI (xe_mul (xe_callH h_dimension hp hr (by decide) (by rfl) (xa_cons (xe_var (pv 1)) xa_nil)) (xe_callH h_hooks_product hp hr (by decide) (by rfl) (xa_cons (xe_var (pv 1)) xa_nil))) (xe_callH h_law_factorial hp hr (by decide) (by rfl) (xa_cons (xe_var (pv 2)) xa_nil)) rfl)))) (xs_ret xe_bl) (xs_par (env := fun g => [.iv d (oD g), .im (qT qI) v1, .im qI v8, .im qI v9, .un, .un, .un]) (i := 4) (j := 5) (xe_callH h_less_square hp hr (by decide) (by rfl) (xa_cons (xe_var (pv 1)) xa_nil)) (xe_callH h_more_square hp hr (by decide) (by rfl) (xa_cons (xe_var (pv 1)) xa_nil)) (fun v35 v36 => (xs_ifx (PW.pt (xw_or (xt_cmpD (cd_ne (dT (dT dI)) (dT (dT dI)) hr.units) (xe_var (pv 4)) (xe_tuple (by rfl) T.tuple (xq_im (xe_callH h_law_dg_less hp hr (by decide) (by rfl) (xa_cons (xe_var (pv 1)) xa_nil)))) rfl) (xw_or1 (xt_cmpD (cd_ne (dT (dT dI)) (dT (dT dI)) hr.units) (xe_var (pv 5)) (xe_tuple (by rfl) T.tuple (xq_im (xe_callH h_law_more hp hr (by decide) (by rfl) (xa_cons (xe_var (pv 1)) xa_nil)))) rfl)))) (xs_ret xe_bl) (xs_ifx (PW.pt (xw_and (xt_cmpD cd_gt (xe_var (pv 2)) xe_int rfl) (xw_and1 (xt_cmpD cd_neI (xe_sum rfl (by rfl) T.sum (xq_im (xe_N (xn_lc (own := [("_law_one", 6)]) (up := (uN 6 (qT qI))) rfl sclaw_right.nd (xi_seq (xe_var (pv 4))) (blkOk_by (N := Nlaw_right) (sc := defScope slaw_right) (by decide +kernel)) rfl (fun _ => rfl) (fun _ _ _ _ _ => (xg_name (pg_name (i := 6) sclaw_right.nd rfl (by first | exact .inl rfl | exact .inr rfl)))) (fun _ _ _ _ _ _ x58 => xts_nil) (fun _ _ _ _ _ _ x58 => (xe_callH h_dimension hp hr (by decide) (by rfl) (xa_cons (xe_var (pv 6)) xa_nil))))))) (xe_var (pv 3)) rfl)))) (xs_ret xe_bl) (xs_ifx (xt_cmpD cd_neI (xe_sum rfl (by rfl) T.sum (xq_im (xe_N (xn_lc (own := [("_law_one", 6)]) (up := (uN 6 (qT qI))) rfl sclaw_right.nd (xi_seq (xe_var (pv 5))) (blkOk_by (N := Nlaw_right) (sc := defScope slaw_right) (by decide +kernel)) rfl (fun _ => rfl) (fun _ _ _ _ _ => (xg_name (pg_name (i := 6) sclaw_right.nd rfl (by first | exact .inl rfl | exact .inr rfl)))) (fun _ _ _ _ _ _ x69 => xts_nil) (fun _ _ _ _ _ _ x69 => (xe_callH h_dimension hp hr (by decide) (by rfl) (xa_cons (xe_var (pv 6)) xa_nil))))))) (xe_mul (xe_add (xe_var (pv 2)) xe_int) (xe_var (pv 3))) rfl) (xs_ret xe_bl) (xs_ret (xe_cmpD cd_eqI (xe_callH h_character hp hr (by decide) (by rfl) (xa_cons (xe_var (pv 1)) (xa_cons (xe_repT1 (xe_tup1 xe_int) (xe_var (pv 2))) xa_nil))) (xe_var (pv 3)) rfl)))))) rfl sclaw_right.nd rfl rfl (by decide) rfl rfl rfl))) rfl sclaw_right.nd rfl rfl (by decide) rfl rfl rfl)) sclaw_right.nd rfl (.inl rfl) rfl rfl)
  case hg => exact fun _ => rfl
abbrev slots_up_to : Stmt := top 18
abbrev Nlots_up_to : List Str := ["total", "most", "found", "first", "rest"]
theorem sclots_up_to : FnScope ["total", "most", "found", "first", "rest"] ["total", "most"] (defScope slots_up_to) := ⟨rfl, rfl, rfl, by decide +kernel, rfl, by decide +kernel, by decide +kernel⟩
abbrev L0_lots_up_to : Nat := 1
def w_lots_up_to (mself : Int × Int × Unit → Option (List (List Int))) (a : Int × Int × Unit) : W (Fl (List (List Int)) Empty Unit) :=
  (((W.ret a.1).bind fun p1 => ((W.ret (0 : Int)).bind fun q2 => (ofO (some (decide (p1 = q2)))))).bind fun b3 => (if b3 = true then upF ((((W.ret ([] : List Int)).bind fun x4 => ((W.ret []).bind fun y5 => (W.ret (x4 :: y5)))).bind fun x6 => (ofO (lenK x6))).bind fun x7 => (W.ret (Fl.rt x7))) else ((W.ret ([] : List (List Int))).bind fun (v8 : (List (List Int))) => (((W.ret (1 : Int)).bind fun i13 => ((((W.ret a.1).bind fun i9 => ((W.ret a.2.1).bind fun j10 => (W.ret (if j10 < i9 then j10 else i9)))).bind fun p11 => ((W.ret (1 : Int)).bind fun q12 => (W.ret (p11 + q12)))).bind fun j14 => (ofO (rngC i13 j14)))).bind fun xs32 => bindF (forL (fun (s15 : (List (List Int))) (x16 : Int) => ((((((W.ret a.1).bind fun p19 => ((W.ret x16).bind fun q20 => (W.ret (p19 - q20)))).bind fun x23 => (((W.ret x16).bind fun x21 => ((W.ret ()).bind fun y22 => (W.ret (x21, y22)))).bind fun y24 => (W.ret (x23, y24)))).bind fun a25 => (ofO (mself a25))).bind fun xs30 => (lcW (fun (x26 : (List Int)) => (W.ret true)) (fun (x26 : (List Int)) => (((W.ret x16).bind fun x27 => (W.ret [x27])).bind fun p28 => ((W.ret x26).bind fun q29 => (ofO (catC p28 q29))))) xs30)).bind fun v17 => ((ofO (catC s15 v17)).bind fun (l18 : (List (List Int))) => (W.ret (Fl.nx l18))))) xs32 v8) (fun (s15 : (List (List Int))) => ((W.ret s15).bind fun x31 => (W.ret (Fl.rt x31))))))))
def o_lots_up_to (mself : Int × Int × Unit → Option (List (List Int))) (a : Int × Int × Unit) : Option (Fl (List (List Int)) Empty Unit) :=
  (((some a.1).bind fun p1 => ((some (0 : Int)).bind fun q2 => (some (decide (p1 = q2))))).bind fun b3 => (if b3 = true then upO ((((some ([] : List Int)).bind fun x4 => ((some []).bind fun y5 => (some (x4 :: y5)))).bind fun x6 => (lenK x6)).bind fun x7 => (some (Fl.rt x7))) else ((some ([] : List (List Int))).bind fun (v8 : (List (List Int))) => (((some (1 : Int)).bind fun i13 => ((((some a.1).bind fun i9 => ((some a.2.1).bind fun j10 => (some (if j10 < i9 then j10 else i9)))).bind fun p11 => ((some (1 : Int)).bind fun q12 => (some (p11 + q12)))).bind fun j14 => (rngC i13 j14))).bind fun xs32 => bindFO (forO (fun (s15 : (List (List Int))) (x16 : Int) => ((((((some a.1).bind fun p19 => ((some x16).bind fun q20 => (some (p19 - q20)))).bind fun x23 => (((some x16).bind fun x21 => ((some ()).bind fun y22 => (some (x21, y22)))).bind fun y24 => (some (x23, y24)))).bind fun a25 => (mself a25)).bind fun xs30 => (lcO (fun (x26 : (List Int)) => (some true)) (fun (x26 : (List Int)) => (((some x16).bind fun x27 => (some [x27])).bind fun p28 => ((some x26).bind fun q29 => (catC p28 q29)))) xs30)).bind fun v17 => ((catC s15 v17).bind fun (l18 : (List (List Int))) => (some (Fl.nx l18))))) xs32 v8) (fun (s15 : (List (List Int))) => ((some s15).bind fun x31 => (some (Fl.rt x31))))))))
def mr_lots_up_to : Nat → Int × Int × Unit → Option (List (List Int))
  | 0 => fun _ => none
  | n + 1 => fun a => rtO (o_lots_up_to (mr_lots_up_to n) a)
def m_lots_up_to (a : Int × Int × Unit) : Option (List (List Int)) := mr_lots_up_to 30 a
theorem kr_lots_up_to {k : Nat} (hk : L0_lots_up_to ≤ k) {f : Addr} {fd : FuncData} (F : Fun K "_lots_up_to" "_lots_up_to" slots_up_to f fd) (T : Txt K mg) {π : Around → Prop} (sπ : Stb π) {mself : Int × Int × Unit → Option (List (List Int))} (hself : Has P w K mg base π "_lots_up_to" k ["total", "most"] (SpF (pC qI (pC qI p0)).ra (qL (qT qI)) mself)) : FnP π P w K mg base CX0 (k + 1) f fd ["total", "most"] (SpF (pC qI (pC qI p0)).ra (qL (qT qI)) (fun a => rtO (o_lots_up_to mself a))) := by
  refine fn_okF (p := (pC qI (pC qI p0))) (m := w_lots_up_to mself) (pn := (fun z _ => nomatch z)) (pl := fun _ _ => []) (env := fun a => [.im qI a.1, .im qI a.2.1, .un, .un, .un]) 3 sπ F sclots_up_to rfl rfl (fun _ => rfl) ?hb ?hg
  case hb =>
    intro cdv A outer s H E hp hr C a hA
    unfold w_lots_up_to
    exact (xs_ifx (xt_cmpD cd_eqI (xe_var (pv 0)) xe_int rfl) (xs_ret (xe_N (xn_lst (xa_consL (xe_tup0 (r := qI)) xa_nilL)))) (xs_setN (i := 2) (xn_nil (r := (qT qI))) (fun v8 => (xs_for (s0 := v8) (up := (uN 3 qI)) (pt := fun (s15 : (List (List Int))) g => [.im qI a.1, .im qI a.2.1, .ow (qT qI) s15, .un, .un]) PassesOwn.never rfl (xi_rng2 (by rfl) T.range xe_int (xe_add (xe_min2 rfl (by rfl) T.min (xe_var (pv 0)) (xe_var (pv 1))) xe_int)) (xg_name (pg_name (i := 3) sclots_up_to.nd rfl (by first | exact .inl rfl | exact .inr rfl))) (fun _ => (.keep (.keep (.keep (.keep (.keep .nil)))))) (fun s15 x16 => (xs_ext (i := 2) (fun l18 => (xs_nil (fun _ => (.keep (.keep (.keep (.drop (.keep .nil)))))))) (pe_bm PySem.F.plainAttrs_list PySem.F.slot_list_extend PySem.F.type_list_extend mt_extend (pv 2) (pa_cons (xn_lc (own := [("rest", 4)]) (up := (uN 4 (qT qI))) rfl sclots_up_to.nd (xi_seq (xe_callH hself hp hr (Nat.le_refl _) (by rfl) (xa_cons (xe_sub (xe_var (pv 0)) (xe_var (pv 3))) (xa_cons (xe_var (pv 3)) xa_nil)))) (blkOk_by (N := Nlots_up_to) (sc := defScope slots_up_to) (by decide +kernel)) rfl (fun _ => rfl) (fun _ _ _ _ _ => (xg_name (pg_name (i := 4) sclots_up_to.nd rfl (by first | exact .inl rfl | exact .inr rfl)))) (fun _ _ _ _ _ _ x26 => xts_nil) (fun _ _ _ _ _ _ x26 => (xe_catT (xe_tup1 (xe_var (pv 3))) (xe_var (pv 4))))) pa_nil)))) (fun s15 => (xs_frz 2 hA (xs_ret (xe_var (pv 2))))))) sclots_up_to.nd rfl (.inl rfl) rfl rfl))
  case hg =>
    intro a
    simp only [o_lots_up_to, w_lots_up_to, ofO_rt, ofO_rtN, ofO_bind, ofO_some, ofO_if, ofO_up, ofO_lc, ofO_lca, ofO_lc2, ofO_for, ofO_while, ofO_bindF, ofO_no, ofO_optM]
theorem k_lots_up_to {f : Addr} {fd : FuncData} (F : Fun K "_lots_up_to" "_lots_up_to" slots_up_to f fd) (T : Txt K mg) {π : Around → Prop} (sπ : Stb π) (hm : mg "_lots_up_to" = some (.ref f)) (hkp : PySem.W.keepIn K (.ref f) = true) (hb : Binds K fd ["total", "most"] []) : Has P w K mg base π "_lots_up_to" 31 ["total", "most"] (SpF (pC qI (pC qI p0)).ra (qL (qT qI)) m_lots_up_to) := by
  have go : ∀ n : Nat, Has P w K mg base π "_lots_up_to" (L0_lots_up_to + n) ["total", "most"] (SpF (pC qI (pC qI p0)).ra (qL (qT qI)) (mr_lots_up_to n)) := by
    intro n
    induction n with
    | zero => exact has_noneF hm hkp hb
    | succ n ih => exact ⟨f, fd, kr_lots_up_to (Nat.le_add_right _ _) F T sπ ih, hm, hkp, hb⟩
  exact go 30
abbrev slots : Stmt := top 17
abbrev Nlots : List Str := ["total"]
theorem sclots : FnScope ["total"] ["total"] (defScope slots) := ⟨rfl, rfl, rfl, by decide +kernel, rfl, by decide +kernel, by decide +kernel⟩
def w_lots (a : Int × Unit) : W (Fl (List (List Int)) Empty Unit) :=
  ((((W.ret a.1).bind fun x5 => (((W.ret (0 : Int)).bind fun x3 => (((W.ret (24 : Int)).bind fun x1 => ((W.ret ()).bind fun y2 => (W.ret (x1, y2)))).bind fun y4 => (W.ret (x3, y4)))).bind fun y6 => (W.ret (x5, y6)))).bind fun a7 => (ofO (m_check_count a7))).bind fun _v8 => ((((W.ret a.1).bind fun x11 => (((W.ret a.1).bind fun x9 => ((W.ret ()).bind fun y10 => (W.ret (x9, y10)))).bind fun y12 => (W.ret (x11, y12)))).bind fun a13 => (ofO (m_lots_up_to a13))).bind fun x14 => (W.ret (Fl.rt x14))))
def o_lots (a : Int × Unit) : Option (Fl (List (List Int)) Empty Unit) :=
  ((((some a.1).bind fun x5 => (((some (0 : Int)).bind fun x3 => (((some (24 : Int)).bind fun x1 => ((some ()).bind fun y2 => (some (x1, y2)))).bind fun y4 => (some (x3, y4)))).bind fun y6 => (some (x5, y6)))).bind fun a7 => (m_check_count a7)).bind fun _v8 => ((((some a.1).bind fun x11 => (((some a.1).bind fun x9 => ((some ()).bind fun y10 => (some (x9, y10)))).bind fun y12 => (some (x11, y12)))).bind fun a13 => (m_lots_up_to a13)).bind fun x14 => (some (Fl.rt x14))))
def m_lots (a : Int × Unit) : Option (List (List Int)) := rtO (o_lots a)
theorem k_lots {f : Addr} {fd : FuncData} (F : Fun K "lots" "lots" slots f fd) (T : Txt K mg) {π : Around → Prop} (sπ : Stb π) (h_check_count : Has P w K mg base π "check_count" 4 ["value", "low", "high"] (SpF (pC qI (pC qI (pC qI p0))).ra qN m_check_count)) (h_lots_up_to : Has P w K mg base π "_lots_up_to" 31 ["total", "most"] (SpF (pC qI (pC qI p0)).ra (qL (qT qI)) m_lots_up_to)) : FnP π P w K mg base CX0 32 f fd ["total"] (SpF (pC qI p0).ra (qT (qT qI)) m_lots) := by
  refine fn_okF (p := (pC qI p0)) (m := w_lots) (pn := (fun z _ => nomatch z)) (pl := fun _ _ => []) (env := fun a => [.im qI a.1]) 0 sπ F sclots rfl rfl (fun _ => rfl) ?hb ?hg
  case hb =>
    intro cdv A outer s H E hp hr C a hA
    unfold w_lots
    exact (xs_exp (xe_callH h_check_count hp hr (by decide) (by rfl) (xa_cons (xe_var (pv 0)) (xa_cons xe_int (xa_cons (xe_gintE (by rfl) T.MAX_SUM_) xa_nil)))) (fun _v8 => (xs_ret (xe_tuple (by rfl) T.tuple (xq_im (xe_callH h_lots_up_to hp hr (by decide) (by rfl) (xa_cons (xe_var (pv 0)) (xa_cons (xe_var (pv 0)) xa_nil))))))))
  case hg =>
    intro a
    simp only [m_lots, o_lots, w_lots, ofO_rt, ofO_rtN, ofO_bind, ofO_some, ofO_if, ofO_up, ofO_lc, ofO_lca, ofO_lc2, ofO_for, ofO_while, ofO_bindF, ofO_no, ofO_optM]
abbrev slaw_squares_right : Stmt := top 51
abbrev Nlaw_squares_right : List Str := ["_law_dice_here", "_law_total", "_law_lot"]
theorem sclaw_squares_right : FnScope ["_law_dice_here", "_law_total", "_law_lot"] ["_law_dice_here"] (defScope slaw_squares_right) := ⟨rfl, rfl, rfl, by decide +kernel, rfl, by decide +kernel, by decide +kernel⟩
def w_law_squares_right (a : Unit) : W (Fl Bool Empty Unit) :=
  ((((W.ret (9 : Int)).bind fun x2 => ((W.ret ()).bind fun y3 => (W.ret (x2, y3)))).bind fun a4 => (m_law_roll a4)).bind fun (v1 : Int) => (((((((W.ret v1).bind fun x5 => ((W.ret ()).bind fun y6 => (W.ret (x5, y6)))).bind fun a7 => (ofO (m_lots a7))).bind fun xs17 => (lcW (fun (x8 : (List Int)) => (W.ret true)) (fun (x8 : (List Int)) => ((((W.ret x8).bind fun x9 => ((W.ret ()).bind fun y10 => (W.ret (x9, y10)))).bind fun a11 => (ofO (m_dimension a11))).bind fun p15 => ((((W.ret x8).bind fun x12 => ((W.ret ()).bind fun y13 => (W.ret (x12, y13)))).bind fun a14 => (ofO (m_dimension a14))).bind fun q16 => (ofO (mulC p15 q16))))) xs17)).bind fun x18 => (W.ret x18.sum)).bind fun p22 => ((((W.ret v1).bind fun x19 => ((W.ret ()).bind fun y20 => (W.ret (x19, y20)))).bind fun a21 => (ofO (m_law_factorial a21))).bind fun q23 => (ofO (some (decide (p22 = q23)))))).bind fun x24 => (W.ret (Fl.rt x24))))
def p_law_squares_right (a : Unit) (v1 : Int) : Option (Fl Bool Empty Unit) :=
  (((((((some v1).bind fun x5 => ((some ()).bind fun y6 => (some (x5, y6)))).bind fun a7 => (m_lots a7)).bind fun xs17 => (lcO (fun (x8 : (List Int)) => (some true)) (fun (x8 : (List Int)) => ((((some x8).bind fun x9 => ((some ()).bind fun y10 => (some (x9, y10)))).bind fun a11 => (m_dimension a11)).bind fun p15 => ((((some x8).bind fun x12 => ((some ()).bind fun y13 => (some (x12, y13)))).bind fun a14 => (m_dimension a14)).bind fun q16 => (mulC p15 q16)))) xs17)).bind fun x18 => (some x18.sum)).bind fun p22 => ((((some v1).bind fun x19 => ((some ()).bind fun y20 => (some (x19, y20)))).bind fun a21 => (m_law_factorial a21)).bind fun q23 => (some (decide (p22 = q23))))).bind fun x24 => (some (Fl.rt x24)))
theorem s_law_squares_right (a : Unit) : w_law_squares_right a = ((((W.ret (9 : Int)).bind fun x2 => ((W.ret ()).bind fun y3 => (W.ret (x2, y3)))).bind fun a4 => (m_law_roll a4))).bind fun v1 => ofO (p_law_squares_right a v1) := by
  simp only [w_law_squares_right, p_law_squares_right, ofO_rt, ofO_rtN, ofO_bind, ofO_some, ofO_if, ofO_up, ofO_lc, ofO_lca, ofO_lc2, ofO_for, ofO_while, ofO_bindF, ofO_no, ofO_optM]
def m_law_squares_right (a : Unit) : W Bool := rtOf (w_law_squares_right a)
theorem k_law_squares_right {f : Addr} {fd : FuncData} (F : Fun K "_law_squares_right" "_law_squares_right" slaw_squares_right f fd) (T : Txt K mg) {π : Around → Prop} (sπ : Stb π) (h_dimension : Has P w K mg base π "dimension" 7 ["lot"] (SpF (pC (qT qI) p0).ra qI m_dimension)) (h_law_factorial : Has P w K mg base π "_law_factorial" 1 ["_law_number"] (SpF (pC qI p0).ra qI m_law_factorial)) (h_law_roll : Has P w K mg base π "_law_roll" 1 ["_law_dice_here", "_law_total"] (SpD (pC qI p0).ra qI m_law_roll)) (h_lots : Has P w K mg base π "lots" 32 ["total"] (SpF (pC qI p0).ra (qT (qT qI)) m_lots)) : FnP π P w K mg base CX0 33 f fd ["_law_dice_here"] (SpD p0.ra qB m_law_squares_right) := by
  refine fn_okD (p := p0) (m := w_law_squares_right) (pn := (fun z _ => nomatch z)) (pl := fun _ _ => []) (env := fun a => [.un, .un]) 2 sπ F sclaw_squares_right rfl rfl (fun _ => rfl) ?hb ?hg
  case hb =>
    intro cdv A outer s H E hp hr C d a hA
    unfold w_law_squares_right
    exact (xs_set (i := 1) (xe_callDH h_law_roll hp hr (by decide) (by rfl) (pv 0) (xa_cons xe_int xa_nil)) (fun v1 => (xs_ret (xe_cmpD cd_eqI (xe_sum rfl (by rfl) T.sum (xq_im (xe_N (xn_lc (own := [("_law_lot", 2)]) (up := (uN 2 (qT qI))) rfl sclaw_squares_right.nd (xi_seq (xe_callH h_lots hp hr (by decide) (by rfl) (xa_cons (xe_var (pv 1)) xa_nil))) (blkOk_by (N := Nlaw_squares_right) (sc := defScope slaw_squares_right) (by decide +kernel)) rfl (fun _ => rfl) (fun _ _ _ _ _ => (xg_name (pg_name (i := 2) sclaw_squares_right.nd rfl (by first | exact .inl rfl | exact .inr rfl)))) (fun _ _ _ _ _ _ x8 => xts_nil) (fun _ _ _ _ _ _ x8 => (xe_mul (xe_callH h_dimension hp hr (by decide) (by rfl) (xa_cons (xe_var (pv 2)) xa_nil)) (xe_callH h_dimension hp hr (by decide) (by rfl) (xa_cons (xe_var (pv 2)) xa_nil)))))))) (xe_callH h_law_factorial hp hr (by decide) (by rfl) (xa_cons (xe_var (pv 1)) xa_nil)) rfl))) sclaw_squares_right.nd rfl (.inl rfl) rfl rfl)
  case hg => exact fun _ => rfl
abbrev slaw : Stmt := top 52
abbrev Nlaw : List Str := ["_law_script", "_law_spot", "_law_told", "_law_dice_here"]
theorem sclaw : FnScope ["_law_script", "_law_spot", "_law_told", "_law_dice_here"] ["_law_script"] (defScope slaw) := ⟨rfl, rfl, rfl, by decide +kernel, rfl, by decide +kernel, by decide +kernel⟩
def w_law (a : (List Int) × Unit) : W (Fl Bool Empty Unit) :=
  ((((W.ret (1 : Int)).bind fun i4 => (((W.ret (3 : Int)).bind fun i2 => (((W.ret a.1).bind fun x1 => (W.ret (x1.length : Int))).bind fun j3 => (W.ret (if j3 < i2 then j3 else i2)))).bind fun j5 => (W.ret (if j5 > i4 then j5 else i4)))).bind fun i6 => (ofO (rngC 0 i6))).bind fun xs113 => bindF (forL (fun (s7 : Unit) (x8 : Int) => ((((W.ret a.1).bind fun x12 => (((W.ret x8).bind fun x10 => ((W.ret ()).bind fun y11 => (W.ret (x10, y11)))).bind fun y13 => (W.ret (x12, y13)))).bind fun a14 => (ofO (m_law_dice a14))).bind fun (v9 : (List Int)) => ((W.put v9).bind fun _ => (((((W.ret ()).bind fun a15 => (m_law_right a15)).bind fun b16 => (W.ret (!b16))).bind fun p22 => (if p22 = true then W.ret true else ((((W.ret ()).bind fun a17 => (m_law_right a17)).bind fun b18 => (W.ret (!b18))).bind fun p21 => (if p21 = true then W.ret true else (((W.ret ()).bind fun a19 => (m_law_squares_right a19)).bind fun b20 => (W.ret (!b20))))))).bind fun b23 => (if b23 = true then upF ((W.ret false).bind fun x24 => (W.ret (Fl.rt x24))) else (W.ret (Fl.nx ()))))))) xs113 ()) (fun (s7 : Unit) => (((((((((W.ret (3 : Int)).bind fun x26 => ((W.ret (1 : Int)).bind fun x27 => (W.ret (x26, x27)))).bind fun x28 => (W.ret [x28.1, x28.2])).bind fun x29 => ((W.ret ()).bind fun y30 => (W.ret (x29, y30)))).bind fun a31 => (ofO (m_dimension a31))).bind fun x53 => (W.ret (dI.d x53))).bind fun x69 => ((((((W.ret ([] : List Int)).bind fun x32 => ((W.ret ()).bind fun y33 => (W.ret (x32, y33)))).bind fun a34 => (ofO (m_dimension a34))).bind fun x54 => (W.ret (dI.d x54))).bind fun x67 => ((((((((W.ret (3 : Int)).bind fun x35 => ((W.ret (1 : Int)).bind fun x36 => (W.ret (x35, x36)))).bind fun x37 => (W.ret [x37.1, x37.2])).bind fun x38 => ((W.ret ()).bind fun y39 => (W.ret (x38, y39)))).bind fun a40 => (ofO (m_less_square a40))).bind fun x55 => (W.ret ((dT (dT dI)).d x55))).bind fun x65 => ((((((((W.ret (3 : Int)).bind fun x41 => ((W.ret (1 : Int)).bind fun x42 => (W.ret (x41, x42)))).bind fun x43 => (W.ret [x43.1, x43.2])).bind fun x44 => ((W.ret ()).bind fun y45 => (W.ret (x44, y45)))).bind fun a46 => (ofO (m_more_square a46))).bind fun x56 => (W.ret ((dT (dT dI)).d x56))).bind fun x63 => ((((((W.ret ([] : List Int)).bind fun x47 => ((W.ret ()).bind fun y48 => (W.ret (x47, y48)))).bind fun a49 => (ofO (m_less_square a49))).bind fun x57 => (W.ret ((dT (dT dI)).d x57))).bind fun x61 => ((((((W.ret ([] : List Int)).bind fun x50 => ((W.ret ()).bind fun y51 => (W.ret (x50, y51)))).bind fun a52 => (ofO (m_more_square a52))).bind fun x58 => (W.ret ((dT (dT dI)).d x58))).bind fun x59 => ((W.ret []).bind fun y60 => (W.ret (x59 :: y60)))).bind fun y62 => (W.ret (x61 :: y62)))).bind fun y64 => (W.ret (x63 :: y64)))).bind fun y66 => (W.ret (x65 :: y66)))).bind fun y68 => (W.ret (x67 :: y68)))).bind fun y70 => (W.ret (x69 :: y70)))).bind fun x71 => (ofO (lenK x71))).bind fun (v25 : (List PyData)) => ((((W.ret v25).bind fun x110 => (W.ret (PyData.list x110))).bind fun p108 => ((((((W.ret (3 : Int)).bind fun x89 => (W.ret (dI.d x89))).bind fun x105 => ((((W.ret (1 : Int)).bind fun x90 => (W.ret (dI.d x90))).bind fun x103 => ((((((W.ret (2 : Int)).bind fun x72 => ((W.ret (1 : Int)).bind fun x73 => (W.ret (x72, x73)))).bind fun x75 => (((W.ret (3 : Int)).bind fun x74 => (W.ret [x74])).bind fun x76 => (W.ret (x75, x76)))).bind fun x91 => (W.ret ((dP (dP dI dI) (dT dI)).d x91))).bind fun x101 => ((((((W.ret (3 : Int)).bind fun x77 => ((W.ret (1 : Int)).bind fun x78 => ((W.ret (1 : Int)).bind fun x79 => (W.ret (x77, x78, x79))))).bind fun x84 => (((W.ret (3 : Int)).bind fun x80 => ((W.ret (2 : Int)).bind fun x81 => (W.ret (x80, x81)))).bind fun x85 => (((W.ret (4 : Int)).bind fun x82 => ((W.ret (1 : Int)).bind fun x83 => (W.ret (x82, x83)))).bind fun x86 => (W.ret (x84, x85, x86))))).bind fun x92 => (W.ret ((dP3 (dP3 dI dI dI) (dP dI dI) (dP dI dI)).d x92))).bind fun x99 => ((((W.ret ([] : List Int)).bind fun x93 => (W.ret ((dT dI).d x93))).bind fun x97 => ((((((W.ret (1 : Int)).bind fun x87 => (W.ret [x87])).bind fun x88 => (W.ret [x88])).bind fun x94 => (W.ret ((dT (dT dI)).d x94))).bind fun x95 => ((W.ret []).bind fun y96 => (W.ret (x95 :: y96)))).bind fun y98 => (W.ret (x97 :: y98)))).bind fun y100 => (W.ret (x99 :: y100)))).bind fun y102 => (W.ret (x101 :: y102)))).bind fun y104 => (W.ret (x103 :: y104)))).bind fun y106 => (W.ret (x105 :: y106)))).bind fun x107 => (ofO (lenK x107))).bind fun x111 => (W.ret (PyData.list x111))).bind fun q109 => (ofO (eqC p108 q109)))).bind fun x112 => (W.ret (Fl.rt x112))))))
def m_law (a : (List Int) × Unit) : W Bool := rtOf (w_law a)
theorem k_law {f : Addr} {fd : FuncData} (F : Fun K "law" "law" slaw f fd) (T : Txt K mg) {π : Around → Prop} (sπ : Stb π) (h_dimension : Has P w K mg base π "dimension" 7 ["lot"] (SpF (pC (qT qI) p0).ra qI m_dimension)) (h_law_dice : Has P w K mg base π "_law_dice" 1 ["_law_script", "_law_spot"] (SpN (pC (qX K) (pC qI p0)).ra qI m_law_dice)) (h_law_right : Has P w K mg base π "_law_right" 8 ["_law_dice_here"] (SpD p0.ra qB m_law_right)) (h_law_squares_right : Has P w K mg base π "_law_squares_right" 33 ["_law_dice_here"] (SpD p0.ra qB m_law_squares_right)) (h_less_square : Has P w K mg base π "less_square" 5 ["lot"] (SpF (pC (qT qI) p0).ra (qT (qT qI)) m_less_square)) (h_more_square : Has P w K mg base π "more_square" 5 ["lot"] (SpF (pC (qT qI) p0).ra (qT (qT qI)) m_more_square)) : FnP π P w K mg base CX0 34 f fd ["_law_script"] (SpW (pC (qX K) p0).ra qB m_law) := by
  refine fn_okW (p := (pC (qX K) p0)) (m := w_law) (pn := (fun z _ => nomatch z)) (pl := fun _ _ => []) (env := fun a => [.im (qX K) a.1, .un, .un, .un]) 3 sπ F sclaw rfl rfl (fun _ => rfl) ?hb ?hg
  case hb =>
    intro cdv A outer s H E hp hr C a hA
    unfold w_law
    exact (xs_for (s0 := ()) (up := (uN 1 qI)) (pt := fun (s7 : Unit) g => [.im (qX K) a.1, .un, .un, .un]) PassesOwn.never rfl (xi_rng1 (by rfl) T.range (xe_max2 rfl (by rfl) T.max xe_int (xe_min2 rfl (by rfl) T.min xe_int (xe_lenX (by rfl) T.len (xe_var (pv 0)))))) (xg_name (pg_name (i := 1) sclaw.nd rfl (by first | exact .inl rfl | exact .inr rfl))) (fun _ => (.keep (.keep (.keep (.keep .nil))))) (fun s7 x8 => (xs_setN (i := 3) (xe_callL h_law_dice hp hr (by decide) (by rfl) (xa_cons (xe_var (pv 0)) (xa_cons (xe_var (pv 1)) xa_nil))) (fun v9 => xs_gh 3 (fun d => (xs_ifx (PW.pt (xw_or (xt_not (xt_val (xe_callDH h_law_right hp hr (by decide) (by rfl) (pv 3) xa_nil))) (xw_or (xt_not (xt_val (xe_callDH h_law_right hp hr (by decide) (by rfl) (pv 3) xa_nil))) (xw_or1 (xt_not (xt_val (xe_callDH h_law_squares_right hp hr (by decide) (by rfl) (pv 3) xa_nil))))))) (xs_ret xe_bl) (xs_nil (fun _ => (.keep (.drop (.keep (.drop .nil))))))))) sclaw.nd rfl (.inl rfl) rfl rfl)) (fun s7 => (xs_set (i := 2) (xe_N (xn_lst (xa_consL (xe_data dI (xe_callH h_dimension hp hr (by decide) (by rfl) (xa_cons (xe_row2 (xe_tup2 xe_int xe_int)) xa_nil))) (xa_consL (xe_data dI (xe_callH h_dimension hp hr (by decide) (by rfl) (xa_cons (xe_tup0 (r := qI)) xa_nil))) (xa_consL (xe_data (dT (dT dI)) (xe_callH h_less_square hp hr (by decide) (by rfl) (xa_cons (xe_row2 (xe_tup2 xe_int xe_int)) xa_nil))) (xa_consL (xe_data (dT (dT dI)) (xe_callH h_more_square hp hr (by decide) (by rfl) (xa_cons (xe_row2 (xe_tup2 xe_int xe_int)) xa_nil))) (xa_consL (xe_data (dT (dT dI)) (xe_callH h_less_square hp hr (by decide) (by rfl) (xa_cons (xe_tup0 (r := qI)) xa_nil))) (xa_consL (xe_data (dT (dT dI)) (xe_callH h_more_square hp hr (by decide) (by rfl) (xa_cons (xe_tup0 (r := qI)) xa_nil))) xa_nilL)))))))) (fun v25 => (xs_ret (xe_cmpD (cd_eqD hr.units) (xe_dataL (xe_var (pv 2))) (xe_dataL (xe_N (xn_lst (xa_consL (xe_data dI xe_int) (xa_consL (xe_data dI xe_int) (xa_consL (xe_data (dP (dP dI dI) (dT dI)) (xe_tup2 (xe_tup2 xe_int xe_int) (xe_tup1 xe_int))) (xa_consL (xe_data (dP3 (dP3 dI dI dI) (dP dI dI) (dP dI dI)) (xe_tup3 (xe_tup3 xe_int xe_int xe_int) (xe_tup2 xe_int xe_int) (xe_tup2 xe_int xe_int))) (xa_consL (xe_data (dT dI) (xe_tup0 (r := qI))) (xa_consL (xe_data (dT (dT dI)) (xe_tup1 (xe_tup1 xe_int))) xa_nilL))))))))) rfl))) sclaw.nd rfl (.inl rfl) rfl rfl)))
  case hg => exact fun _ => rfl
end
section
theorem all_mk {l : PySem.W.OpenLaw} {w : World} {K : PySem.W.Frag} {h : Heap} {mg : Str → Option Value} {pp : Program} {lv : List (Str × PySem.W.WData)} {fa f_law_dice f_law_roll f_law_pick f_law_lot_of f_law_lot_drawn f_law_dg_less f_law_dg_ways f_is_whole f_is_integer f_is_lot f_check_lot f_is_count f_check_count f_falling_product f_factorial f_columns f_conjugate f_squares_of f_hook_at f_hooks_product f_dimension f_law_factorial f_with_member f_less_square f_more_square f_law_more f_check_lots f_check_sum f_beads_for f_lot_behind f_shifted_beads f_rims f_led_on f_character f_law_right f_lots_up_to f_lots f_law_squares_right f_law : Addr} {t_MAX_CHARTED : Tok} {t_MAX_CHOSEN : Tok} {t_MAX_SUM : Tok} (KX : K.In h) (G : h.Ns mainGlobals mg) (hfa : mg "law" = some (.ref fa)) (XX : PySem.W.XL pp lv mg h)
    (a_law_dice : PySem.W.nsIn K mainGlobals "_law_dice" = some (some (.ref f_law_dice))) (d_law_dice : Dfn K "_law_dice" slaw_dice f_law_dice)
    (a_law_roll : PySem.W.nsIn K mainGlobals "_law_roll" = some (some (.ref f_law_roll))) (d_law_roll : Dfn K "_law_roll" slaw_roll f_law_roll)
    (a_law_pick : PySem.W.nsIn K mainGlobals "_law_pick" = some (some (.ref f_law_pick))) (d_law_pick : Dfn K "_law_pick" slaw_pick f_law_pick)
    (a_law_lot_of : PySem.W.nsIn K mainGlobals "_law_lot_of" = some (some (.ref f_law_lot_of))) (d_law_lot_of : Dfn K "_law_lot_of" slaw_lot_of f_law_lot_of)
    (a_law_lot_drawn : PySem.W.nsIn K mainGlobals "_law_lot_drawn" = some (some (.ref f_law_lot_drawn))) (d_law_lot_drawn : Dfn K "_law_lot_drawn" slaw_lot_drawn f_law_lot_drawn)
    (a_law_dg_less : PySem.W.nsIn K mainGlobals "_law_dg_less" = some (some (.ref f_law_dg_less))) (d_law_dg_less : Dfn K "_law_dg_less" slaw_dg_less f_law_dg_less)
    (a_law_dg_ways : PySem.W.nsIn K mainGlobals "_law_dg_ways" = some (some (.ref f_law_dg_ways))) (d_law_dg_ways : Dfn K "_law_dg_ways" slaw_dg_ways f_law_dg_ways)
    (a_is_whole : PySem.W.nsIn K mainGlobals "is_whole" = some (some (.ref f_is_whole))) (d_is_whole : Dfn K "is_whole" sis_whole f_is_whole)
    (a_is_integer : PySem.W.nsIn K mainGlobals "is_integer" = some (some (.ref f_is_integer))) (d_is_integer : Dfn K "is_integer" sis_integer f_is_integer)
    (a_is_lot : PySem.W.nsIn K mainGlobals "is_lot" = some (some (.ref f_is_lot))) (d_is_lot : Dfn K "is_lot" sis_lot f_is_lot)
    (a_check_lot : PySem.W.nsIn K mainGlobals "check_lot" = some (some (.ref f_check_lot))) (d_check_lot : Dfn K "check_lot" scheck_lot f_check_lot)
    (a_is_count : PySem.W.nsIn K mainGlobals "is_count" = some (some (.ref f_is_count))) (d_is_count : Dfn K "is_count" sis_count f_is_count)
    (a_check_count : PySem.W.nsIn K mainGlobals "check_count" = some (some (.ref f_check_count))) (d_check_count : Dfn K "check_count" scheck_count f_check_count)
    (a_falling_product : PySem.W.nsIn K mainGlobals "_falling_product" = some (some (.ref f_falling_product))) (d_falling_product : Dfn K "_falling_product" sfalling_product f_falling_product)
    (a_factorial : PySem.W.nsIn K mainGlobals "factorial" = some (some (.ref f_factorial))) (d_factorial : Dfn K "factorial" sfactorial f_factorial)
    (a_columns : PySem.W.nsIn K mainGlobals "_columns" = some (some (.ref f_columns))) (d_columns : Dfn K "_columns" scolumns f_columns)
    (a_conjugate : PySem.W.nsIn K mainGlobals "conjugate" = some (some (.ref f_conjugate))) (d_conjugate : Dfn K "conjugate" sconjugate f_conjugate)
    (a_squares_of : PySem.W.nsIn K mainGlobals "squares_of" = some (some (.ref f_squares_of))) (d_squares_of : Dfn K "squares_of" ssquares_of f_squares_of)
    (a_hook_at : PySem.W.nsIn K mainGlobals "_hook_at" = some (some (.ref f_hook_at))) (d_hook_at : Dfn K "_hook_at" shook_at f_hook_at)
    (a_hooks_product : PySem.W.nsIn K mainGlobals "hooks_product" = some (some (.ref f_hooks_product))) (d_hooks_product : Dfn K "hooks_product" shooks_product f_hooks_product)
    (a_dimension : PySem.W.nsIn K mainGlobals "dimension" = some (some (.ref f_dimension))) (d_dimension : Dfn K "dimension" sdimension f_dimension)
    (a_law_factorial : PySem.W.nsIn K mainGlobals "_law_factorial" = some (some (.ref f_law_factorial))) (d_law_factorial : Dfn K "_law_factorial" slaw_factorial f_law_factorial)
    (a_with_member : PySem.W.nsIn K mainGlobals "_with_member" = some (some (.ref f_with_member))) (d_with_member : Dfn K "_with_member" swith_member f_with_member)
    (a_less_square : PySem.W.nsIn K mainGlobals "less_square" = some (some (.ref f_less_square))) (d_less_square : Dfn K "less_square" sless_square f_less_square)
    (a_more_square : PySem.W.nsIn K mainGlobals "more_square" = some (some (.ref f_more_square))) (d_more_square : Dfn K "more_square" smore_square f_more_square)
    (a_law_more : PySem.W.nsIn K mainGlobals "_law_more" = some (some (.ref f_law_more))) (d_law_more : Dfn K "_law_more" slaw_more f_law_more)
    (a_check_lots : PySem.W.nsIn K mainGlobals "check_lots" = some (some (.ref f_check_lots))) (d_check_lots : Dfn K "check_lots" scheck_lots f_check_lots)
    (a_check_sum : PySem.W.nsIn K mainGlobals "check_sum" = some (some (.ref f_check_sum))) (d_check_sum : Dfn K "check_sum" scheck_sum f_check_sum)
    (a_beads_for : PySem.W.nsIn K mainGlobals "beads_for" = some (some (.ref f_beads_for))) (d_beads_for : Dfn K "beads_for" sbeads_for f_beads_for)
    (a_lot_behind : PySem.W.nsIn K mainGlobals "_lot_behind" = some (some (.ref f_lot_behind))) (d_lot_behind : Dfn K "_lot_behind" slot_behind f_lot_behind)
    (a_shifted_beads : PySem.W.nsIn K mainGlobals "shifted_beads" = some (some (.ref f_shifted_beads))) (d_shifted_beads : Dfn K "shifted_beads" sshifted_beads f_shifted_beads)
    (a_rims : PySem.W.nsIn K mainGlobals "rims" = some (some (.ref f_rims))) (d_rims : Dfn K "rims" srims f_rims)
    (a_led_on : PySem.W.nsIn K mainGlobals "_led_on" = some (some (.ref f_led_on))) (d_led_on : Dfn K "_led_on" sled_on f_led_on)
    (a_character : PySem.W.nsIn K mainGlobals "character" = some (some (.ref f_character))) (d_character : Dfn K "character" scharacter f_character)
    (a_law_right : PySem.W.nsIn K mainGlobals "_law_right" = some (some (.ref f_law_right))) (d_law_right : Dfn K "_law_right" slaw_right f_law_right)
    (a_lots_up_to : PySem.W.nsIn K mainGlobals "_lots_up_to" = some (some (.ref f_lots_up_to))) (d_lots_up_to : Dfn K "_lots_up_to" slots_up_to f_lots_up_to)
    (a_lots : PySem.W.nsIn K mainGlobals "lots" = some (some (.ref f_lots))) (d_lots : Dfn K "lots" slots f_lots)
    (a_law_squares_right : PySem.W.nsIn K mainGlobals "_law_squares_right" = some (some (.ref f_law_squares_right))) (d_law_squares_right : Dfn K "_law_squares_right" slaw_squares_right f_law_squares_right)
    (a_law : PySem.W.nsIn K mainGlobals "law" = some (some (.ref f_law))) (d_law : Dfn K "law" slaw f_law)
    (z_abs : PySem.W.nsIn K mainGlobals "abs" = some none) (z_all : PySem.W.nsIn K mainGlobals "all" = some none) (z_bool : PySem.W.nsIn K mainGlobals "bool" = some none) (z_dict : PySem.W.nsIn K mainGlobals "dict" = some none) (z_enumerate : PySem.W.nsIn K mainGlobals "enumerate" = some none) (z_int : PySem.W.nsIn K mainGlobals "int" = some none) (z_isinstance : PySem.W.nsIn K mainGlobals "isinstance" = some none) (z_len : PySem.W.nsIn K mainGlobals "len" = some none) (z_list : PySem.W.nsIn K mainGlobals "list" = some none) (z_max : PySem.W.nsIn K mainGlobals "max" = some none) (z_min : PySem.W.nsIn K mainGlobals "min" = some none) (z_range : PySem.W.nsIn K mainGlobals "range" = some none) (z_sorted : PySem.W.nsIn K mainGlobals "sorted" = some none) (z_sum : PySem.W.nsIn K mainGlobals "sum" = some none) (z_tuple : PySem.W.nsIn K mainGlobals "tuple" = some none)
    (i_MAX_CHARTED : PySem.W.nsIn K mainGlobals "MAX_CHARTED" = some (some (.int 14 t_MAX_CHARTED)))
    (i_MAX_CHOSEN : PySem.W.nsIn K mainGlobals "MAX_CHOSEN" = some (some (.int 1000 t_MAX_CHOSEN)))
    (i_MAX_SUM : PySem.W.nsIn K mainGlobals "MAX_SUM" = some (some (.int 24 t_MAX_SUM)))
    (i_g_FIRST_TOO_LONG : (("_FIRST_TOO_LONG" : Str), PySem.W.WData.int 1000000000000000000000000000000000000000000000000000000000000) ∈ lv)
    : ∃ fd : FuncData, (∀ (s : Shared) (v : Value), BindsTo s fd ⟨[v], []⟩ [("_law_script", v)]) ∧ ∀ base : Heap, K.In base → base.Ns mainGlobals mg → FnP (fun A => A.guards = some []) l.prog w K mg base CX0 34 fa fd ["_law_script"] (SpW (pC (qX K) p0).ra qB m_law) := by
  have e := hfa.symm.trans (PySem.W.mg_of KX G a_law)
  cases e
  have T : Txt K mg := ⟨PySem.W.mg_none_of KX G z_abs, PySem.W.mg_none_of KX G z_all, PySem.W.mg_none_of KX G z_bool, PySem.W.mg_none_of KX G z_dict, PySem.W.mg_none_of KX G z_enumerate, PySem.W.mg_none_of KX G z_int, PySem.W.mg_none_of KX G z_isinstance, PySem.W.mg_none_of KX G z_len, PySem.W.mg_none_of KX G z_list, PySem.W.mg_none_of KX G z_max, PySem.W.mg_none_of KX G z_min, PySem.W.mg_none_of KX G z_range, PySem.W.mg_none_of KX G z_sorted, PySem.W.mg_none_of KX G z_sum, PySem.W.mg_none_of KX G z_tuple, ⟨_, PySem.W.mg_of KX G i_MAX_CHARTED⟩, ⟨_, PySem.W.mg_of KX G i_MAX_CHOSEN⟩, ⟨_, PySem.W.mg_of KX G i_MAX_SUM⟩, gint_of XX i_g_FIRST_TOO_LONG⟩
  obtain ⟨fd_law_dice, F_law_dice⟩ := d_law_dice
  obtain ⟨fd_law_roll, F_law_roll⟩ := d_law_roll
  obtain ⟨fd_law_pick, F_law_pick⟩ := d_law_pick
  obtain ⟨fd_law_lot_of, F_law_lot_of⟩ := d_law_lot_of
  obtain ⟨fd_law_lot_drawn, F_law_lot_drawn⟩ := d_law_lot_drawn
  obtain ⟨fd_law_dg_less, F_law_dg_less⟩ := d_law_dg_less
  obtain ⟨fd_law_dg_ways, F_law_dg_ways⟩ := d_law_dg_ways
  obtain ⟨fd_is_whole, F_is_whole⟩ := d_is_whole
  obtain ⟨fd_is_integer, F_is_integer⟩ := d_is_integer
  obtain ⟨fd_is_lot, F_is_lot⟩ := d_is_lot
  obtain ⟨fd_check_lot, F_check_lot⟩ := d_check_lot
  obtain ⟨fd_is_count, F_is_count⟩ := d_is_count
  obtain ⟨fd_check_count, F_check_count⟩ := d_check_count
  obtain ⟨fd_falling_product, F_falling_product⟩ := d_falling_product
  obtain ⟨fd_factorial, F_factorial⟩ := d_factorial
  obtain ⟨fd_columns, F_columns⟩ := d_columns
  obtain ⟨fd_conjugate, F_conjugate⟩ := d_conjugate
  obtain ⟨fd_squares_of, F_squares_of⟩ := d_squares_of
  obtain ⟨fd_hook_at, F_hook_at⟩ := d_hook_at
  obtain ⟨fd_hooks_product, F_hooks_product⟩ := d_hooks_product
  obtain ⟨fd_dimension, F_dimension⟩ := d_dimension
  obtain ⟨fd_law_factorial, F_law_factorial⟩ := d_law_factorial
  obtain ⟨fd_with_member, F_with_member⟩ := d_with_member
  obtain ⟨fd_less_square, F_less_square⟩ := d_less_square
  obtain ⟨fd_more_square, F_more_square⟩ := d_more_square
  obtain ⟨fd_law_more, F_law_more⟩ := d_law_more
  obtain ⟨fd_check_lots, F_check_lots⟩ := d_check_lots
  obtain ⟨fd_check_sum, F_check_sum⟩ := d_check_sum
  obtain ⟨fd_beads_for, F_beads_for⟩ := d_beads_for
  obtain ⟨fd_lot_behind, F_lot_behind⟩ := d_lot_behind
  obtain ⟨fd_shifted_beads, F_shifted_beads⟩ := d_shifted_beads
  obtain ⟨fd_rims, F_rims⟩ := d_rims
  obtain ⟨fd_led_on, F_led_on⟩ := d_led_on
  obtain ⟨fd_character, F_character⟩ := d_character
  obtain ⟨fd_law_right, F_law_right⟩ := d_law_right
  obtain ⟨fd_lots_up_to, F_lots_up_to⟩ := d_lots_up_to
  obtain ⟨fd_lots, F_lots⟩ := d_lots
  obtain ⟨fd_law_squares_right, F_law_squares_right⟩ := d_law_squares_right
  obtain ⟨fd_law, F_law⟩ := d_law
  refine ⟨fd_law, fun s v => ?_, fun base _ _ => ?_⟩
  · obtain ⟨oc, od, kV, doc, pm, an, cdv, ct, osl, rfl, lk, hcd⟩ := F_law.ex
    exact .of_eq rfl
  · have h_law_dice : Has l.prog w K mg base (fun A => A.guards = some []) "_law_dice" 1 ["_law_script", "_law_spot"] (SpN (pC (qX K) (pC qI p0)).ra qI m_law_dice) := ⟨_, _, k_law_dice F_law_dice T stb_guards, PySem.W.mg_of KX G a_law_dice, F_law_dice.kp, F_law_dice.binds (ps := ["_law_script", "_law_spot"]) fun _ _ _ _ _ _ us hl => match us, hl with | [_, _], _ => rfl⟩
    have h_law_roll : Has l.prog w K mg base (fun A => A.guards = some []) "_law_roll" 1 ["_law_dice_here", "_law_total"] (SpD (pC qI p0).ra qI m_law_roll) := ⟨_, _, k_law_roll F_law_roll T stb_guards, PySem.W.mg_of KX G a_law_roll, F_law_roll.kp, F_law_roll.binds (ps := ["_law_dice_here", "_law_total"]) fun _ _ _ _ _ _ us hl => match us, hl with | [_, _], _ => rfl⟩
    have h_law_pick : Has l.prog w K mg base (fun A => A.guards = some []) "_law_pick" 2 ["_law_dice_here", "_law_items"] (SpD (pC (qL qI) p0).ra qI m_law_pick) := ⟨_, _, k_law_pick F_law_pick T stb_guards h_law_roll, PySem.W.mg_of KX G a_law_pick, F_law_pick.kp, F_law_pick.binds (ps := ["_law_dice_here", "_law_items"]) fun _ _ _ _ _ _ us hl => match us, hl with | [_, _], _ => rfl⟩
    have h_law_lot_of : Has l.prog w K mg base (fun A => A.guards = some []) "_law_lot_of" 1 ["_law_members"] (SpF (pC (qL qI) p0).ra (qT qI) m_law_lot_of) := ⟨_, _, k_law_lot_of F_law_lot_of T stb_guards, PySem.W.mg_of KX G a_law_lot_of, F_law_lot_of.kp, F_law_lot_of.binds (ps := ["_law_members"]) fun _ _ _ _ _ _ us hl => match us, hl with | [_], _ => rfl⟩
    have h_law_lot_drawn : Has l.prog w K mg base (fun A => A.guards = some []) "_law_lot_drawn" 3 ["_law_dice_here", "_law_total"] (SpD (pC qI p0).ra (qT qI) m_law_lot_drawn) := ⟨_, _, k_law_lot_drawn F_law_lot_drawn T stb_guards h_law_lot_of h_law_pick h_law_roll, PySem.W.mg_of KX G a_law_lot_drawn, F_law_lot_drawn.kp, F_law_lot_drawn.binds (ps := ["_law_dice_here", "_law_total"]) fun _ _ _ _ _ _ us hl => match us, hl with | [_, _], _ => rfl⟩
    have h_law_dg_less : Has l.prog w K mg base (fun A => A.guards = some []) "_law_dg_less" 1 ["_law_lot"] (SpF (pC (qT qI) p0).ra (qL (qT qI)) m_law_dg_less) := ⟨_, _, k_law_dg_less F_law_dg_less T stb_guards, PySem.W.mg_of KX G a_law_dg_less, F_law_dg_less.kp, F_law_dg_less.binds (ps := ["_law_lot"]) fun _ _ _ _ _ _ us hl => match us, hl with | [_], _ => rfl⟩
    have h_law_dg_ways : Has l.prog w K mg base (fun A => A.guards = some []) "_law_dg_ways" 2 ["_law_lot"] (SpF (pC (qT qI) p0).ra qI m_law_dg_ways) := ⟨_, _, k_law_dg_ways F_law_dg_ways T stb_guards h_law_dg_less, PySem.W.mg_of KX G a_law_dg_ways, F_law_dg_ways.kp, F_law_dg_ways.binds (ps := ["_law_lot"]) fun _ _ _ _ _ _ us hl => match us, hl with | [_], _ => rfl⟩
    have h_is_whole : Has l.prog w K mg base (fun A => A.guards = some []) "is_whole" 1 ["value"] (SpF (pC qI p0).ra qB m_is_whole) := ⟨_, _, k_is_whole F_is_whole T stb_guards, PySem.W.mg_of KX G a_is_whole, F_is_whole.kp, F_is_whole.binds (ps := ["value"]) fun _ _ _ _ _ _ us hl => match us, hl with | [_], _ => rfl⟩
    have h_is_integer : Has l.prog w K mg base (fun A => A.guards = some []) "is_integer" 2 ["value"] (SpF (pC qI p0).ra qB m_is_integer) := ⟨_, _, k_is_integer F_is_integer T stb_guards h_is_whole, PySem.W.mg_of KX G a_is_integer, F_is_integer.kp, F_is_integer.binds (ps := ["value"]) fun _ _ _ _ _ _ us hl => match us, hl with | [_], _ => rfl⟩
    have h_is_lot : Has l.prog w K mg base (fun A => A.guards = some []) "is_lot" 3 ["value"] (SpF (pC (qT qI) p0).ra qB m_is_lot) := ⟨_, _, k_is_lot F_is_lot T stb_guards h_is_integer, PySem.W.mg_of KX G a_is_lot, F_is_lot.kp, F_is_lot.binds (ps := ["value"]) fun _ _ _ _ _ _ us hl => match us, hl with | [_], _ => rfl⟩
    have h_check_lot : Has l.prog w K mg base (fun A => A.guards = some []) "check_lot" 4 ["value"] (SpF (pC (qT qI) p0).ra qN m_check_lot) := ⟨_, _, k_check_lot F_check_lot T stb_guards h_is_lot, PySem.W.mg_of KX G a_check_lot, F_check_lot.kp, F_check_lot.binds (ps := ["value"]) fun _ _ _ _ _ _ us hl => match us, hl with | [_], _ => rfl⟩
    have h_is_count : Has l.prog w K mg base (fun A => A.guards = some []) "is_count" 3 ["value", "low", "high"] (SpF (pC qI (pC qI (pC qI p0))).ra qB m_is_count) := ⟨_, _, k_is_count F_is_count T stb_guards h_is_integer, PySem.W.mg_of KX G a_is_count, F_is_count.kp, F_is_count.binds (ps := ["value", "low", "high"]) fun _ _ _ _ _ _ us hl => match us, hl with | [_, _, _], _ => rfl⟩
    have h_check_count : Has l.prog w K mg base (fun A => A.guards = some []) "check_count" 4 ["value", "low", "high"] (SpF (pC qI (pC qI (pC qI p0))).ra qN m_check_count) := ⟨_, _, k_check_count F_check_count T stb_guards h_is_count, PySem.W.mg_of KX G a_check_count, F_check_count.kp, F_check_count.binds (ps := ["value", "low", "high"]) fun _ _ _ _ _ _ us hl => match us, hl with | [_, _, _], _ => rfl⟩
    have h_falling_product : Has l.prog w K mg base (fun A => A.guards = some []) "_falling_product" 1 ["top", "low"] (SpF (pC qI (pC qI p0)).ra qI m_falling_product) := ⟨_, _, k_falling_product F_falling_product T stb_guards, PySem.W.mg_of KX G a_falling_product, F_falling_product.kp, F_falling_product.binds (ps := ["top", "low"]) fun _ _ _ _ _ _ us hl => match us, hl with | [_, _], _ => rfl⟩
    have h_factorial : Has l.prog w K mg base (fun A => A.guards = some []) "factorial" 5 ["number"] (SpF (pC qI p0).ra qI m_factorial) := ⟨_, _, k_factorial F_factorial T stb_guards h_check_count h_falling_product, PySem.W.mg_of KX G a_factorial, F_factorial.kp, F_factorial.binds (ps := ["number"]) fun _ _ _ _ _ _ us hl => match us, hl with | [_], _ => rfl⟩
    have h_columns : Has l.prog w K mg base (fun A => A.guards = some []) "_columns" 1 ["lot"] (SpF (pC (qT qI) p0).ra (qT qI) m_columns) := ⟨_, _, k_columns F_columns T stb_guards, PySem.W.mg_of KX G a_columns, F_columns.kp, F_columns.binds (ps := ["lot"]) fun _ _ _ _ _ _ us hl => match us, hl with | [_], _ => rfl⟩
    have h_conjugate : Has l.prog w K mg base (fun A => A.guards = some []) "conjugate" 5 ["lot"] (SpF (pC (qT qI) p0).ra (qT qI) m_conjugate) := ⟨_, _, k_conjugate F_conjugate T stb_guards h_check_lot h_columns, PySem.W.mg_of KX G a_conjugate, F_conjugate.kp, F_conjugate.binds (ps := ["lot"]) fun _ _ _ _ _ _ us hl => match us, hl with | [_], _ => rfl⟩
    have h_squares_of : Has l.prog w K mg base (fun A => A.guards = some []) "squares_of" 5 ["lot"] (SpF (pC (qT qI) p0).ra (qT (qP qI qI)) m_squares_of) := ⟨_, _, k_squares_of F_squares_of T stb_guards h_check_lot, PySem.W.mg_of KX G a_squares_of, F_squares_of.kp, F_squares_of.binds (ps := ["lot"]) fun _ _ _ _ _ _ us hl => match us, hl with | [_], _ => rfl⟩
    have h_hook_at : Has l.prog w K mg base (fun A => A.guards = some []) "_hook_at" 1 ["lot", "columns", "row", "column"] (SpF (pC (qT qI) (pC (qT qI) (pC qI (pC qI p0)))).ra qI m_hook_at) := ⟨_, _, k_hook_at F_hook_at T stb_guards, PySem.W.mg_of KX G a_hook_at, F_hook_at.kp, F_hook_at.binds (ps := ["lot", "columns", "row", "column"]) fun _ _ _ _ _ _ us hl => match us, hl with | [_, _, _, _], _ => rfl⟩
    have h_hooks_product : Has l.prog w K mg base (fun A => A.guards = some []) "hooks_product" 6 ["lot"] (SpF (pC (qT qI) p0).ra qI m_hooks_product) := ⟨_, _, k_hooks_product F_hooks_product T stb_guards h_conjugate h_hook_at h_squares_of, PySem.W.mg_of KX G a_hooks_product, F_hooks_product.kp, F_hooks_product.binds (ps := ["lot"]) fun _ _ _ _ _ _ us hl => match us, hl with | [_], _ => rfl⟩
    have h_dimension : Has l.prog w K mg base (fun A => A.guards = some []) "dimension" 7 ["lot"] (SpF (pC (qT qI) p0).ra qI m_dimension) := ⟨_, _, k_dimension F_dimension T stb_guards h_check_lot h_factorial h_hooks_product, PySem.W.mg_of KX G a_dimension, F_dimension.kp, F_dimension.binds (ps := ["lot"]) fun _ _ _ _ _ _ us hl => match us, hl with | [_], _ => rfl⟩
    have h_law_factorial : Has l.prog w K mg base (fun A => A.guards = some []) "_law_factorial" 1 ["_law_number"] (SpF (pC qI p0).ra qI m_law_factorial) := ⟨_, _, k_law_factorial F_law_factorial T stb_guards, PySem.W.mg_of KX G a_law_factorial, F_law_factorial.kp, F_law_factorial.binds (ps := ["_law_number"]) fun _ _ _ _ _ _ us hl => match us, hl with | [_], _ => rfl⟩
    have h_with_member : Has l.prog w K mg base (fun A => A.guards = some []) "_with_member" 1 ["lot", "row", "member"] (SpF (pC (qT qI) (pC qI (pC qI p0))).ra (qT qI) m_with_member) := ⟨_, _, k_with_member F_with_member T stb_guards, PySem.W.mg_of KX G a_with_member, F_with_member.kp, F_with_member.binds (ps := ["lot", "row", "member"]) fun _ _ _ _ _ _ us hl => match us, hl with | [_, _, _], _ => rfl⟩
    have h_less_square : Has l.prog w K mg base (fun A => A.guards = some []) "less_square" 5 ["lot"] (SpF (pC (qT qI) p0).ra (qT (qT qI)) m_less_square) := ⟨_, _, k_less_square F_less_square T stb_guards h_check_lot h_with_member, PySem.W.mg_of KX G a_less_square, F_less_square.kp, F_less_square.binds (ps := ["lot"]) fun _ _ _ _ _ _ us hl => match us, hl with | [_], _ => rfl⟩
    have h_more_square : Has l.prog w K mg base (fun A => A.guards = some []) "more_square" 5 ["lot"] (SpF (pC (qT qI) p0).ra (qT (qT qI)) m_more_square) := ⟨_, _, k_more_square F_more_square T stb_guards h_check_lot h_with_member, PySem.W.mg_of KX G a_more_square, F_more_square.kp, F_more_square.binds (ps := ["lot"]) fun _ _ _ _ _ _ us hl => match us, hl with | [_], _ => rfl⟩
    have h_law_more : Has l.prog w K mg base (fun A => A.guards = some []) "_law_more" 1 ["_law_lot"] (SpF (pC (qT qI) p0).ra (qL (qT qI)) m_law_more) := ⟨_, _, k_law_more F_law_more T stb_guards, PySem.W.mg_of KX G a_law_more, F_law_more.kp, F_law_more.binds (ps := ["_law_lot"]) fun _ _ _ _ _ _ us hl => match us, hl with | [_], _ => rfl⟩
    have h_check_lots : Has l.prog w K mg base (fun A => A.guards = some []) "check_lots" 5 ["one", "other"] (SpF (pC (qT qI) (pC (qT qI) p0)).ra qN m_check_lots) := ⟨_, _, k_check_lots F_check_lots T stb_guards h_check_lot, PySem.W.mg_of KX G a_check_lots, F_check_lots.kp, F_check_lots.binds (ps := ["one", "other"]) fun _ _ _ _ _ _ us hl => match us, hl with | [_, _], _ => rfl⟩
    have h_check_sum : Has l.prog w K mg base (fun A => A.guards = some []) "check_sum" 1 ["lot", "limit"] (SpF (pC (qT qI) (pC qI p0)).ra qN m_check_sum) := ⟨_, _, k_check_sum F_check_sum T stb_guards, PySem.W.mg_of KX G a_check_sum, F_check_sum.kp, F_check_sum.binds (ps := ["lot", "limit"]) fun _ _ _ _ _ _ us hl => match us, hl with | [_, _], _ => rfl⟩
    have h_beads_for : Has l.prog w K mg base (fun A => A.guards = some []) "beads_for" 1 ["lot", "rows"] (SpF (pC (qT qI) (pC qI p0)).ra (qT qI) m_beads_for) := ⟨_, _, k_beads_for F_beads_for T stb_guards, PySem.W.mg_of KX G a_beads_for, F_beads_for.kp, F_beads_for.binds (ps := ["lot", "rows"]) fun _ _ _ _ _ _ us hl => match us, hl with | [_, _], _ => rfl⟩
    have h_lot_behind : Has l.prog w K mg base (fun A => A.guards = some []) "_lot_behind" 1 ["spots"] (SpF (pC (qL qI) p0).ra (qT qI) m_lot_behind) := ⟨_, _, k_lot_behind F_lot_behind T stb_guards, PySem.W.mg_of KX G a_lot_behind, F_lot_behind.kp, F_lot_behind.binds (ps := ["spots"]) fun _ _ _ _ _ _ us hl => match us, hl with | [_], _ => rfl⟩
    have h_shifted_beads : Has l.prog w K mg base (fun A => A.guards = some []) "shifted_beads" 2 ["spots", "step"] (SpF (pC (qT qI) (pC qI p0)).ra (qT (qP (qT qI) qI)) m_shifted_beads) := ⟨_, _, k_shifted_beads F_shifted_beads T stb_guards h_lot_behind, PySem.W.mg_of KX G a_shifted_beads, F_shifted_beads.kp, F_shifted_beads.binds (ps := ["spots", "step"]) fun _ _ _ _ _ _ us hl => match us, hl with | [_, _], _ => rfl⟩
    have h_rims : Has l.prog w K mg base (fun A => A.guards = some []) "rims" 5 ["lot", "length"] (SpF (pC (qT qI) (pC qI p0)).ra (qT (qP (qT qI) qI)) m_rims) := ⟨_, _, k_rims F_rims T stb_guards h_beads_for h_check_count h_check_lot h_shifted_beads, PySem.W.mg_of KX G a_rims, F_rims.kp, F_rims.binds (ps := ["lot", "length"]) fun _ _ _ _ _ _ us hl => match us, hl with | [_, _], _ => rfl⟩
    have h_led_on : Has l.prog w K mg base (fun A => A.guards = some []) "_led_on" 6 ["states", "length", "ways", "known"] (SpK (oMe l.prog w (kxP (kvT kvI) kvI (by decide)) (qT (qP (qT qI) qI)) uw_led_on) (pC (qTb l.prog w (kxT kvI (by decide)) qI) (pC qI (pC (qFn mg "rims") p0))).ra (qTb l.prog w (kxT kvI (by decide)) qI) (mled uw_led_on)) := ⟨_, _, k_led_on F_led_on T stb_guards h_rims, PySem.W.mg_of KX G a_led_on, F_led_on.kp, F_led_on.binds (ps := ["states", "length", "ways", "known"]) fun _ _ _ _ _ _ us hl => match us, hl with | [_, _, _, _], _ => rfl⟩
    have h_character : Has l.prog w K mg base (fun A => A.guards = some []) "character" 7 ["shape", "lot"] (SpF (pC (qT qI) (pC (qT qI) p0)).ra qI m_character) := ⟨_, _, k_character F_character T stb_guards h_check_lots h_check_sum h_led_on h_rims, PySem.W.mg_of KX G a_character, F_character.kp, F_character.binds (ps := ["shape", "lot"]) fun _ _ _ _ _ _ us hl => match us, hl with | [_, _], _ => rfl⟩
    have h_law_right : Has l.prog w K mg base (fun A => A.guards = some []) "_law_right" 8 ["_law_dice_here"] (SpD p0.ra qB m_law_right) := ⟨_, _, k_law_right F_law_right T stb_guards h_character h_dimension h_hooks_product h_law_dg_less h_law_dg_ways h_law_factorial h_law_lot_drawn h_law_more h_law_roll h_less_square h_more_square, PySem.W.mg_of KX G a_law_right, F_law_right.kp, F_law_right.binds (ps := ["_law_dice_here"]) fun _ _ _ _ _ _ us hl => match us, hl with | [_], _ => rfl⟩
    have h_lots_up_to : Has l.prog w K mg base (fun A => A.guards = some []) "_lots_up_to" 31 ["total", "most"] (SpF (pC qI (pC qI p0)).ra (qL (qT qI)) m_lots_up_to) := k_lots_up_to F_lots_up_to T stb_guards (PySem.W.mg_of KX G a_lots_up_to) F_lots_up_to.kp (F_lots_up_to.binds (ps := ["total", "most"]) fun _ _ _ _ _ _ us hl => match us, hl with | [_, _], _ => rfl)
    have h_lots : Has l.prog w K mg base (fun A => A.guards = some []) "lots" 32 ["total"] (SpF (pC qI p0).ra (qT (qT qI)) m_lots) := ⟨_, _, k_lots F_lots T stb_guards h_check_count h_lots_up_to, PySem.W.mg_of KX G a_lots, F_lots.kp, F_lots.binds (ps := ["total"]) fun _ _ _ _ _ _ us hl => match us, hl with | [_], _ => rfl⟩
    have h_law_squares_right : Has l.prog w K mg base (fun A => A.guards = some []) "_law_squares_right" 33 ["_law_dice_here"] (SpD p0.ra qB m_law_squares_right) := ⟨_, _, k_law_squares_right F_law_squares_right T stb_guards h_dimension h_law_factorial h_law_roll h_lots, PySem.W.mg_of KX G a_law_squares_right, F_law_squares_right.kp, F_law_squares_right.binds (ps := ["_law_dice_here"]) fun _ _ _ _ _ _ us hl => match us, hl with | [_], _ => rfl⟩
    exact k_law F_law T stb_guards h_dimension h_law_dice h_law_right h_law_squares_right h_less_square h_more_square
end

end K

set_option maxRecDepth 100000
set_option maxHeartbeats 4000000
/-! V4: the dice, and what is drawn. -/
namespace K
open PySem L2 Rt
def DI (n : Int) (g : Gh) : Prop := ∃ l s c : Int, g = [l, s, c] ∧ 0 ≤ l ∧ 0 ≤ s ∧ s < 2 ^ 80 ∧ 0 ≤ c ∧ c ≤ n
theorem log_le {i : Int} (h1 : -(2 ^ 200) < i) (h2 : i < 2 ^ 200) : i.natAbs.log2 ≤ 200 := by
  by_cases z : i.natAbs = 0
  · rw [z]; decide
  · refine Nat.le_of_lt ((Nat.log2_lt z).mpr ?_)
    omega
theorem mulC_of {i j : Int} (h1 : -(2 ^ 200) < i) (h2 : i < 2 ^ 200) (h3 : -(2 ^ 200) < j) (h4 : j < 2 ^ 200) : mulC i j = some (i * j) := by
  unfold mulC
  have a := log_le h1 h2
  have b := log_le h3 h4
  rw [if_pos (by omega)]
theorem modC_of {i j : Int} (h : 0 < j) : modC i j = some (i % j) := by
  unfold modC
  rw [if_pos h]
theorem divC_of {i j : Int} (h : 0 < j) (h2 : j < 2 ^ 200) : divC i j = some (i / j) := by
  unfold divC
  have := log_le (i := j) (by omega) h2
  rw [if_pos ⟨h, by omega⟩]
theorem at0 (l s c : Int) : L2.atI [l, s, c] 0 = some l := rfl
theorem at1 (l s c : Int) : L2.atI [l, s, c] 1 = some s := rfl
theorem at2 (l s c : Int) : L2.atI [l, s, c] 2 = some c := rfl
theorem roll_ok {n total : Int} {g : Gh} {P : Int → Gh → Prop} (h : DI n g) (hn : n < 1000000) (h0 : 0 < total) (h1 : total < 2 ^ 200) (k : ∀ r g', 0 ≤ r → r < total → DI (n + 1) g' → P r g') : m_law_roll (total, ()) g P := by
  obtain ⟨l, s, c, rfl, hl, hs, hs2, hc, hc2⟩ := h
  unfold m_law_roll w_law_roll
  by_cases z : 0 < l
  · simp [rtOf, rtK, upF, Fl.up, W.bind, W.ret, W.get, W.gset, ofO, at0, z, modC, h0]
    refine ⟨l / total, divC_of h0 (by omega), 0, rfl, k _ _ (Int.emod_nonneg _ (by omega)) (Int.emod_lt_of_pos _ h0) ⟨l / total, s, c, rfl, Int.ediv_nonneg hl (by omega), hs, hs2, hc, by omega⟩⟩
  · simp [rtOf, rtK, upF, Fl.up, W.bind, W.ret, W.get, W.gset, ofO, at0, at1, at2, z]
    have m1 : ∀ x : Int, 0 ≤ x % 2305843009213693403 ∧ x % 2305843009213693403 < 2305843009213693403 := fun x => ⟨Int.emod_nonneg _ (by decide), Int.emod_lt_of_pos _ (by decide)⟩
    have m2 : ∀ x : Int, 0 ≤ x % 2305843009213693373 ∧ x % 2305843009213693373 < 2305843009213693373 := fun x => ⟨Int.emod_nonneg _ (by decide), Int.emod_lt_of_pos _ (by decide)⟩
    refine ⟨2, rfl, s, rfl, c + 1, rfl, _, mulC_of (by omega) (by omega) (by omega) (by omega), _, modC_of (by decide), ?_⟩
    obtain ⟨a1, a2⟩ := m1 (s + 99990001 * (c + 1))
    refine ⟨_, mulC_of (by omega) (by omega) (by omega) (by omega), c + 1, rfl, _, mulC_of (by omega) (by omega) (by omega) (by omega), _, modC_of (by decide), ?_⟩
    obtain ⟨b1, b2⟩ := m2 ((s + 99990001 * (c + 1)) % 2305843009213693403 * ((s + 99990001 * (c + 1)) % 2305843009213693403) + 83 * (c + 1))
    refine ⟨_, mulC_of (by omega) (by omega) (by omega) (by omega), _, divC_of (by decide) (by decide), _, modC_of h0, ?_⟩
    exact k _ _ (Int.emod_nonneg _ (by omega)) (Int.emod_lt_of_pos _ h0) ⟨l, s, c + 1, rfl, hl, hs, hs2, by omega, by omega⟩
theorem powC_of {i j : Int} (h0 : 0 ≤ j) (h1 : j ≤ 1000000) (h2 : i.natAbs < 2 ^ 64) : powC i j = some (i ^ j.toNat) := by
  unfold powC
  rw [if_pos ⟨h0, h1, h2⟩]
theorem atI_in {ns : List Int} {i : Int} (h0 : 0 ≤ i) (h1 : i < ns.length) : ∃ x, L2.atI ns i = some x := by
  have e : i.toNat < ns.length := by omega
  refine ⟨ns[i.toNat], ?_⟩
  unfold L2.atI ixN
  rw [if_pos h0, if_pos h1]
  simp [e]
theorem big : (10 : Int) ^ 57 * 10 ^ 60 = 10 ^ 117 := by decide +kernel
theorem bill : (0 : Int) < 1000000000000000000000000000000000000000000000000000000000000000000000000000000000000000000000000000000000000000000000 := by decide
theorem dice_ok (ns : List Int) (spot : Int) (h0 : 0 ≤ spot) (h1 : spot < 5) : ∃ g, m_law_dice (ns, spot, ()) = some g ∧ DI 0 g := by
  have key : ∀ v : Int, 0 ≤ (v.natAbs : Int) % 1152921504606846883 ∧ (v.natAbs : Int) % 1152921504606846883 < 1152921504606846883 := fun v => ⟨Int.emod_nonneg _ (by decide), Int.emod_lt_of_pos _ (by decide)⟩
  have fin : ∀ v : Int, ∃ s : Int, mulC ((v.natAbs : Int) % 1152921504606846883) 59 = some ((v.natAbs : Int) % 1152921504606846883 * 59) ∧ mulC 977 spot = some (977 * spot) ∧ mulC 47 (if v < 0 then 1 else 0) = some (47 * (if v < 0 then 1 else 0)) ∧
      s = (v.natAbs : Int) % 1152921504606846883 * 59 + 977 * spot + 47 * (if v < 0 then 1 else 0) + 13 ∧ 0 ≤ s ∧ s < 2 ^ 80 := fun v => by
    obtain ⟨a, b⟩ := key v
    have c : (0 : Int) ≤ (if v < 0 then 1 else 0) ∧ (if v < 0 then (1 : Int) else 0) ≤ 1 := by split <;> decide
    exact ⟨_, mulC_of (by omega) (by omega) (by omega) (by omega), mulC_of (by omega) (by omega) (by omega) (by omega), mulC_of (by omega) (by omega) (by omega) (by omega), rfl, by omega, by omega⟩
  have go : ∀ v : Int, ∃ g, (((modC (if 100000000000000000 < (v.natAbs : Int) then (v.natAbs : Int) - 100000000000000000 else 0) 1000000000000000000000000000000000000000000000000000000000000000000000000000000000000000000000000000000000000000000000).bind fun v12 =>
      (((((((((modC (↑v.natAbs) 1152921504606846883).bind fun p31 => mulC p31 59).bind fun p35 => (mulC 977 spot).bind fun q36 => some (p35 + q36)).bind fun p42 => (mulC 47 (if v < 0 then 1 else 0)).bind fun q43 => some (p42 + q43)).bind fun p44 => some (p44 + 13)).bind fun x48 => some [x48, 0]).bind
        fun y51 => some (v12 :: y51)).bind fun x52 => lenK x52).bind fun x53 => some (Fl.rt (β := Empty) (γ := Unit) x53))).bind rtKO) = some g ∧ DI 0 g := fun v => by
    obtain ⟨s, e1, e2, e3, es, s0, s1⟩ := fin v
    rw [modC_of bill, modC_of (by decide)]
    simp only [Option.bind_some, e1, e2, e3]
    rw [← es]
    refine ⟨_, rfl, _, s, 0, rfl, Int.emod_nonneg _ (by decide), s0, s1, by decide, by decide⟩
  unfold m_law_dice o_law_dice rtO
  by_cases hlt : spot < ns.length
  · obtain ⟨x, hx⟩ := atI_in h0 hlt
    have := go x
    simp [rtKO, powC, mulC_of, b2, hlt, hx]
    simpa using this
  · have := go (73 * spot + 41)
    simp [rtKO, powC, mulC_of, b2, hlt]
    rw [mulC_of (by decide) (by decide) (by omega) (by omega)]
    simpa using this
theorem pick_ok {n : Int} {g : Gh} {items : List Int} {P : Int → Gh → Prop} (h : DI n g) (hn : n < 1000000) (h0 : 0 < items.length) (h1 : items.length < 1000000) (k : ∀ x g', x ∈ items → DI (n + 1) g' → P x g') : m_law_pick (items, ()) g P := by
  unfold m_law_pick w_law_pick
  simp [rtOf, rtK, W.bind, W.ret, ofO]
  refine roll_ok h hn (by omega) (by omega) fun r g' r0 r1 hg => ?_
  obtain ⟨x, hx⟩ := atI_in (ns := items) r0 r1
  refine ⟨x, hx, k x g' ?_ hg⟩
  unfold L2.atI ixN at hx
  rw [if_pos r0, if_pos r1] at hx
  exact List.mem_of_getElem? hx
end K

set_option maxRecDepth 100000
set_option maxHeartbeats 4000000
/-! F2: steps, moves, kinds, lots, over the mirrors of k23. -/
namespace K
open PySem L2 Rt
theorem bindI {α β : Type} {m : W α} {f : α → W β} {g : Gh} {P : β → Gh → Prop} (h : m g fun a g1 => f a g1 P) : W.bind m f g P := h
theorem retI {α : Type} {a : α} {g : Gh} {P : α → Gh → Prop} (h : P a g) : W.ret a g P := h
theorem putI {g g0 : Gh} {P : Unit → Gh → Prop} (h : P () g0) : W.put g0 g P := h
theorem ofI {α : Type} {o : Option α} {a : α} {g : Gh} {P : α → Gh → Prop} (e : o = some a) (h : P a g) : ofO o g P := ⟨a, e, h⟩
theorem bindFI {ρ β β' γ : Type} {m : W (Fl ρ β γ)} {k : β → W (Fl ρ β' γ)} {g : Gh} {P : Fl ρ β' γ → Gh → Prop} (h : m g fun a g1 => bindK k a g1 P) : bindF m k g P := h
theorem rtOfI {ρ β γ : Type} {m : W (Fl ρ β γ)} {g : Gh} {P : ρ → Gh → Prop} (h : m g fun a g1 => rtK a g1 P) : rtOf m g P := h
theorem rtKI {ρ β γ : Type} {a : ρ} {g : Gh} {P : ρ → Gh → Prop} (h : P a g) : rtK (Fl.rt a : Fl ρ β γ) g P := h
theorem bindKI {ρ β β' γ : Type} {b : β} {k : β → W (Fl ρ β' γ)} {g : Gh} {P : Fl ρ β' γ → Gh → Prop} (h : k b g P) : bindK k (Fl.nx b) g P := h
theorem DI.mono {n m : Int} {g : Gh} (h : DI n g) (e : n ≤ m) : DI m g :=
  let ⟨l, s, c, a1, a2, a3, a4, a5, a6⟩ := h
  ⟨l, s, c, a1, a2, a3, a4, a5, Int.le_trans a6 e⟩
theorem forL_all {ρ α γ' : Type} {f : Unit → α → W (Fl ρ Unit Unit)} : ∀ (xs : List α) (g : Gh) (Q : Fl ρ Unit γ' → Gh → Prop), (∀ x ∈ xs, ∀ g (P : Fl ρ Unit Unit → Gh → Prop), (∀ g', P (.nx ()) g') → f () x g P) → (∀ g, Q (.nx ()) g) → forL f xs () g Q
  | [], g, Q, _, k => k g
  | x :: xs, g, Q, h, k => by
    unfold forL
    refine h x List.mem_cons_self g _ fun g' => ?_
    exact forL_all xs g' Q (fun y hy => h y (List.mem_cons_of_mem _ hy)) k
theorem rng_ok {a b : Int} (h1 : -1000000 ≤ a) (h2 : a ≤ 1000000) (h3 : -1000000 ≤ b) (h4 : b ≤ 1000000) : rngC a b = some (irange a b) := by
  unfold rngC
  rw [if_pos ⟨h1, h2, h3, h4⟩]
theorem lot_of_ok (xs : List Int) : m_law_lot_of (xs, ()) = some (sortI xs).reverse := rfl
/-! the law's kind -/
theorem ifF {ρ : Type} {b : Bool} {x y : W ρ} {g : Gh} {P : ρ → Gh → Prop} (e : b = false) (h : y g P) : (if b = true then x else y) g P := by
  rw [e, if_neg (by decide)]
  exact h
theorem ifT {ρ : Type} {b : Bool} {x y : W ρ} {g : Gh} {P : ρ → Gh → Prop} (e : b = true) (h : x g P) : (if b = true then x else y) g P := by
  rw [e, if_pos rfl]
  exact h
theorem lcW_map {α β : Type} {f : α → W β} {h : α → β} : ∀ {xs : List α} {g : Gh} {P : List β → Gh → Prop}, (∀ x ∈ xs, ∀ g (Q : β → Gh → Prop), Q (h x) g → f x g Q) → P (xs.map h) g → lcW (fun _ => W.ret true) f xs g P
  | [], g, P, _, q => q
  | x :: xs, g, P, hf, q => by
    unfold lcW
    show ((f x).bind _) g P
    refine hf x List.mem_cons_self g _ ?_
    exact lcW_map (xs := xs) (fun y hy => hf y (List.mem_cons_of_mem _ hy)) q
/-- a lot of a sum -/
structure Lot (t : Int) (l : List Int) : Prop where
  srt : l.Pairwise (· ≥ ·)
  pos : ∀ x ∈ l, 1 ≤ x
  sum : l.sum = t
theorem sum_perm {l m : List Int} (h : l.Perm m) : l.sum = m.sum := by
  induction h with
  | nil => rfl
  | cons x _ ih => simp [ih]
  | swap x y l => simp; omega
  | trans _ _ a b => rw [a, b]
theorem len_le {l : List Int} (h : ∀ x ∈ l, 1 ≤ x) : (l.length : Int) ≤ l.sum := by
  induction l with
  | nil => simp
  | cons x l ih =>
    have a := ih fun y hy => h y (List.mem_cons_of_mem _ hy)
    have b := h x List.mem_cons_self
    simp
    omega
theorem while_lot {ρ γ' : Type} {N : Int} (hN : N ≤ 100000) {c : List Int × Int → W Bool} {b : List Int × Int → W (Fl ρ (List Int × Int) (List Int × Int))} {t : Int} (ht : t ≤ 24) (hc : ∀ s g P, P (decide (0 < s.2)) g → c s g P)
    (hb : ∀ found left n g P, 0 < left → DI n g → n + 2 ≤ 100000 → found.length ≤ 24 → (∀ m g', 1 ≤ m → m ≤ left → DI (n + 2) g' → P (.nx (found ++ [m], left - m)) g') → b (found, left) g P) :
    ∀ (f : Nat) (found : List Int) (left n : Int) (g : Gh) (Q : Fl ρ (List Int × Int) γ' → Gh → Prop), 0 ≤ left → left < f → DI n g → n + 2 * left ≤ N → (∀ x ∈ found, 1 ≤ x) → found.sum + left = t →
      (∀ found' g', (∀ x ∈ found', 1 ≤ x) → found'.sum = t → DI N g' → Q (.nx (found', 0)) g') → whileL c b f (found, left) g Q
  | 0, found, left, n, g, Q, h0, h1, _, _, _, _, _ => absurd h1 (by simp; omega)
  | f + 1, found, left, n, g, Q, h0, h1, hd, hn, hp, hs, k => by
    unfold whileL
    refine hc _ _ _ ?_
    by_cases z : 0 < left
    · rw [decide_eq_true (show 0 < (found, left).2 from z)]
      show (b (found, left)).bind (turnK (whileL c b f)) g Q
      have hl := len_le hp
      refine hb found left n g _ z hd (by omega) (by omega) fun m g' m1 m2 hd' => ?_
      exact while_lot hN ht hc hb f (found ++ [m]) (left - m) (n + 2) g' Q (by omega) (by omega) hd' (by omega) (fun x hx => by
        rcases List.mem_append.mp hx with hx | hx
        · exact hp x hx
        · rw [List.mem_singleton.mp hx]
          exact m1) (by simp; omega) k
    · rw [decide_eq_false (show ¬ 0 < (found, left).2 from z)]
      show W.ret (Fl.nx (found, left)) g Q
      have e : left = 0 := by omega
      subst e
      exact k found g hp (by omega) (hd.mono (by omega))
theorem draw_ok {P : List Int → Gh → Prop} {t : Int} (ht : t ≤ 24) {n : Int} (k : ∀ l g, Lot t l → DI (n + 2 * t) g → P l g) (h0 : 0 ≤ t) {g : Gh} (h : DI n g) (hn : n + 2 * t ≤ 100000) : m_law_lot_drawn (t, ()) g P := by
  unfold m_law_lot_drawn w_law_lot_drawn
  simp only [rtOf, rtK, W.bind, W.ret, bindF]
  refine while_lot (t := t) (N := n + 2 * t) hn ht ?_ ?_ 100 [] t n g _ h0 (by omega) h (Int.le_refl _) (by simp) (by simp) ?_
  · intro s g P hP
    simp [W.bind, W.ret, ofO]
    exact hP
  · intro found left n g P hl hd hn hf kk
    simp [W.bind, W.ret, ofO, lenK]
    refine pick_ok hd (by omega) (by decide) (by decide) fun x g1 hx hd1 => ?_
    have x1 : 1 ≤ x := by
      simp at hx
      omega
    refine roll_ok hd1 (by omega) (by split <;> omega) (by simp at hx; split <;> omega) fun r g2 r0 r1 hd2 => ?_
    refine ⟨found ++ [1 + r], ?_, kk (1 + r) g2 (by omega) ?_ (by rw [show n + 2 = n + 1 + 1 by omega]; exact hd2)⟩
    · unfold addO
      rw [if_pos (by omega)]
    · split at r1 <;> omega
  · intro found g' hp hs hd
    simp [bindK, W.bind, W.ret, ofO, lot_of_ok]
    refine k _ _ ⟨?_, fun x hx => ?_, ?_⟩ hd
    · rw [List.pairwise_reverse]
      exact (sortI_sorted found).imp fun h => h
    · exact hp x ((sortI_perm found).mem_iff.mp (List.mem_reverse.mp hx))
    · rw [sum_perm (List.reverse_perm _), sum_perm (sortI_perm found)]
      exact hs
/-- all lots of a sum with members up to one -/
def parts : Nat → Int → Int → List (List Int)
  | 0, _, _ => []
  | f + 1, t, m => if t = 0 then [[]] else ((irange 1 ((if m < t then m else t) + 1)).map fun k => (parts f (t - k) k).map fun r => k :: r).flatten
theorem mem_ir {a b x : Int} (h1 : a ≤ x) (h2 : x < b) : x ∈ irange a b := by
  unfold irange
  exact List.mem_map.mpr ⟨(x - a).toNat, List.mem_range.mpr (by omega), by omega⟩
theorem mem_parts : ∀ (l : List Int) (f : Nat) (t m : Int), l.length < f → Lot t l → (∀ x ∈ l, x ≤ m) → l ∈ parts f t m
  | [], f + 1, t, m, _, h, _ => by
    unfold parts
    have : t = 0 := by simpa using h.sum.symm
    rw [if_pos this]
    exact List.mem_singleton.mpr rfl
  | x :: l, f + 1, t, m, hf, h, hm => by
    have hx := h.pos x List.mem_cons_self
    have hl := len_le fun y hy => h.pos y (List.mem_cons_of_mem _ hy)
    have hs : x + l.sum = t := by simpa using h.sum
    have xm := hm x List.mem_cons_self
    have p := List.pairwise_cons.mp h.srt
    unfold parts
    rw [if_neg (by omega)]
    refine List.mem_flatten.mpr ⟨_, List.mem_map.mpr ⟨x, mem_ir hx (by split <;> omega), rfl⟩, List.mem_map.mpr ⟨l, ?_, rfl⟩⟩
    exact mem_parts l f (t - x) x (by simpa using hf) ⟨p.2, fun y hy => h.pos y (List.mem_cons_of_mem _ hy), by omega⟩ fun y hy => p.1 y hy
  | _, 0, _, _, h, _, _ => absurd h (by omega)
end K

set_option maxRecDepth 100000
set_option maxHeartbeats 4000000
/-! Q3a: the finite part: every lot with a sum to twelve. -/
namespace K
open PySem L2 Rt
def okR (l : List Int) : Bool := match p_law_right () l with | some (.rt b) => b | _ => false
theorem okR_eq {l : List Int} (h : okR l = true) : p_law_right () l = some (.rt true) := by
  unfold okR at h
  split at h
  · rename_i b e
    rw [e, h]
  · cases h
end K

set_option maxRecDepth 100000
set_option maxHeartbeats 4000000
/-! Q3b: the finite part: every lot with a sum to twelve. -/
namespace K
open PySem L2 Rt
def lq0_0 : List (List Int) := [[]]
theorem q0_0 : lq0_0.all okR = true := by decide +kernel
def lq1_0 : List (List Int) := [[1]]
theorem q1_0 : lq1_0.all okR = true := by decide +kernel
def lq2_0 : List (List Int) := [[1, 1], [2]]
theorem q2_0 : lq2_0.all okR = true := by decide +kernel
def lq3_0 : List (List Int) := [[1, 1, 1], [2, 1], [3]]
theorem q3_0 : lq3_0.all okR = true := by decide +kernel
def lq4_0 : List (List Int) := [[1, 1, 1, 1], [2, 1, 1], [2, 2], [3, 1], [4]]
theorem q4_0 : lq4_0.all okR = true := by decide +kernel
def lq5_0 : List (List Int) := [[1, 1, 1, 1, 1], [2, 1, 1, 1], [2, 2, 1], [3, 1, 1], [3, 2], [4, 1]]
theorem q5_0 : lq5_0.all okR = true := by decide +kernel
def lq5_1 : List (List Int) := [[5]]
theorem q5_1 : lq5_1.all okR = true := by decide +kernel
def lq6_0 : List (List Int) := [[1, 1, 1, 1, 1, 1], [2, 1, 1, 1, 1], [2, 2, 1, 1], [2, 2, 2], [3, 1, 1, 1], [3, 2, 1]]
theorem q6_0 : lq6_0.all okR = true := by decide +kernel
def lq6_1 : List (List Int) := [[3, 3], [4, 1, 1], [4, 2], [5, 1], [6]]
theorem q6_1 : lq6_1.all okR = true := by decide +kernel
def lq7_0 : List (List Int) := [[1, 1, 1, 1, 1, 1, 1], [2, 1, 1, 1, 1, 1], [2, 2, 1, 1, 1], [2, 2, 2, 1], [3, 1, 1, 1, 1], [3, 2, 1, 1]]
theorem q7_0 : lq7_0.all okR = true := by decide +kernel
def lq7_1 : List (List Int) := [[3, 2, 2], [3, 3, 1], [4, 1, 1, 1], [4, 2, 1], [4, 3], [5, 1, 1]]
theorem q7_1 : lq7_1.all okR = true := by decide +kernel
def lq7_2 : List (List Int) := [[5, 2], [6, 1], [7]]
theorem q7_2 : lq7_2.all okR = true := by decide +kernel
def lq8_0 : List (List Int) := [[1, 1, 1, 1, 1, 1, 1, 1], [2, 1, 1, 1, 1, 1, 1], [2, 2, 1, 1, 1, 1], [2, 2, 2, 1, 1], [2, 2, 2, 2], [3, 1, 1, 1, 1, 1]]
theorem q8_0 : lq8_0.all okR = true := by decide +kernel
def lq8_1 : List (List Int) := [[3, 2, 1, 1, 1], [3, 2, 2, 1], [3, 3, 1, 1], [3, 3, 2], [4, 1, 1, 1, 1], [4, 2, 1, 1]]
theorem q8_1 : lq8_1.all okR = true := by decide +kernel
def lq8_2 : List (List Int) := [[4, 2, 2], [4, 3, 1], [4, 4], [5, 1, 1, 1], [5, 2, 1], [5, 3]]
theorem q8_2 : lq8_2.all okR = true := by decide +kernel
def lq8_3 : List (List Int) := [[6, 1, 1], [6, 2], [7, 1], [8]]
theorem q8_3 : lq8_3.all okR = true := by decide +kernel
def lq9_0 : List (List Int) := [[1, 1, 1, 1, 1, 1, 1, 1, 1], [2, 1, 1, 1, 1, 1, 1, 1], [2, 2, 1, 1, 1, 1, 1], [2, 2, 2, 1, 1, 1], [2, 2, 2, 2, 1], [3, 1, 1, 1, 1, 1, 1]]
theorem q9_0 : lq9_0.all okR = true := by decide +kernel
def lq9_1 : List (List Int) := [[3, 2, 1, 1, 1, 1], [3, 2, 2, 1, 1], [3, 2, 2, 2], [3, 3, 1, 1, 1], [3, 3, 2, 1], [3, 3, 3]]
theorem q9_1 : lq9_1.all okR = true := by decide +kernel
def lq9_2 : List (List Int) := [[4, 1, 1, 1, 1, 1], [4, 2, 1, 1, 1], [4, 2, 2, 1], [4, 3, 1, 1], [4, 3, 2], [4, 4, 1]]
theorem q9_2 : lq9_2.all okR = true := by decide +kernel
def lq9_3 : List (List Int) := [[5, 1, 1, 1, 1], [5, 2, 1, 1], [5, 2, 2], [5, 3, 1], [5, 4], [6, 1, 1, 1]]
theorem q9_3 : lq9_3.all okR = true := by decide +kernel
def lq9_4 : List (List Int) := [[6, 2, 1], [6, 3], [7, 1, 1], [7, 2], [8, 1], [9]]
theorem q9_4 : lq9_4.all okR = true := by decide +kernel
end K

set_option maxRecDepth 100000
set_option maxHeartbeats 4000000
/-! Q3c: the finite part: every lot with a sum to twelve. -/
namespace K
open PySem L2 Rt
def lq10_0 : List (List Int) := [[1, 1, 1, 1, 1, 1, 1, 1, 1, 1], [2, 1, 1, 1, 1, 1, 1, 1, 1], [2, 2, 1, 1, 1, 1, 1, 1], [2, 2, 2, 1, 1, 1, 1], [2, 2, 2, 2, 1, 1], [2, 2, 2, 2, 2]]
theorem q10_0 : lq10_0.all okR = true := by decide +kernel
def lq10_1 : List (List Int) := [[3, 1, 1, 1, 1, 1, 1, 1], [3, 2, 1, 1, 1, 1, 1], [3, 2, 2, 1, 1, 1], [3, 2, 2, 2, 1], [3, 3, 1, 1, 1, 1], [3, 3, 2, 1, 1]]
theorem q10_1 : lq10_1.all okR = true := by decide +kernel
def lq10_2 : List (List Int) := [[3, 3, 2, 2], [3, 3, 3, 1], [4, 1, 1, 1, 1, 1, 1], [4, 2, 1, 1, 1, 1], [4, 2, 2, 1, 1], [4, 2, 2, 2]]
theorem q10_2 : lq10_2.all okR = true := by decide +kernel
def lq10_3 : List (List Int) := [[4, 3, 1, 1, 1], [4, 3, 2, 1], [4, 3, 3], [4, 4, 1, 1], [4, 4, 2], [5, 1, 1, 1, 1, 1]]
theorem q10_3 : lq10_3.all okR = true := by decide +kernel
def lq10_4 : List (List Int) := [[5, 2, 1, 1, 1], [5, 2, 2, 1], [5, 3, 1, 1], [5, 3, 2], [5, 4, 1], [5, 5]]
theorem q10_4 : lq10_4.all okR = true := by decide +kernel
def lq10_5 : List (List Int) := [[6, 1, 1, 1, 1], [6, 2, 1, 1], [6, 2, 2], [6, 3, 1], [6, 4], [7, 1, 1, 1]]
theorem q10_5 : lq10_5.all okR = true := by decide +kernel
def lq10_6 : List (List Int) := [[7, 2, 1], [7, 3], [8, 1, 1], [8, 2], [9, 1], [10]]
theorem q10_6 : lq10_6.all okR = true := by decide +kernel
end K

set_option maxRecDepth 100000
set_option maxHeartbeats 4000000
/-! Q3d: the finite part: every lot with a sum to twelve. -/
namespace K
open PySem L2 Rt
def lq11_0 : List (List Int) := [[1, 1, 1, 1, 1, 1, 1, 1, 1, 1, 1], [2, 1, 1, 1, 1, 1, 1, 1, 1, 1], [2, 2, 1, 1, 1, 1, 1, 1, 1], [2, 2, 2, 1, 1, 1, 1, 1], [2, 2, 2, 2, 1, 1, 1], [2, 2, 2, 2, 2, 1]]
theorem q11_0 : lq11_0.all okR = true := by decide +kernel
def lq11_1 : List (List Int) := [[3, 1, 1, 1, 1, 1, 1, 1, 1], [3, 2, 1, 1, 1, 1, 1, 1], [3, 2, 2, 1, 1, 1, 1], [3, 2, 2, 2, 1, 1], [3, 2, 2, 2, 2], [3, 3, 1, 1, 1, 1, 1]]
theorem q11_1 : lq11_1.all okR = true := by decide +kernel
def lq11_2 : List (List Int) := [[3, 3, 2, 1, 1, 1], [3, 3, 2, 2, 1], [3, 3, 3, 1, 1], [3, 3, 3, 2], [4, 1, 1, 1, 1, 1, 1, 1], [4, 2, 1, 1, 1, 1, 1]]
theorem q11_2 : lq11_2.all okR = true := by decide +kernel
def lq11_3 : List (List Int) := [[4, 2, 2, 1, 1, 1], [4, 2, 2, 2, 1], [4, 3, 1, 1, 1, 1], [4, 3, 2, 1, 1], [4, 3, 2, 2], [4, 3, 3, 1]]
theorem q11_3 : lq11_3.all okR = true := by decide +kernel
def lq11_4 : List (List Int) := [[4, 4, 1, 1, 1], [4, 4, 2, 1], [4, 4, 3], [5, 1, 1, 1, 1, 1, 1], [5, 2, 1, 1, 1, 1], [5, 2, 2, 1, 1]]
theorem q11_4 : lq11_4.all okR = true := by decide +kernel
def lq11_5 : List (List Int) := [[5, 2, 2, 2], [5, 3, 1, 1, 1], [5, 3, 2, 1], [5, 3, 3], [5, 4, 1, 1], [5, 4, 2]]
theorem q11_5 : lq11_5.all okR = true := by decide +kernel
def lq11_6 : List (List Int) := [[5, 5, 1], [6, 1, 1, 1, 1, 1], [6, 2, 1, 1, 1], [6, 2, 2, 1], [6, 3, 1, 1], [6, 3, 2]]
theorem q11_6 : lq11_6.all okR = true := by decide +kernel
def lq11_7 : List (List Int) := [[6, 4, 1], [6, 5], [7, 1, 1, 1, 1], [7, 2, 1, 1], [7, 2, 2], [7, 3, 1]]
theorem q11_7 : lq11_7.all okR = true := by decide +kernel
def lq11_8 : List (List Int) := [[7, 4], [8, 1, 1, 1], [8, 2, 1], [8, 3], [9, 1, 1], [9, 2]]
theorem q11_8 : lq11_8.all okR = true := by decide +kernel
def lq11_9 : List (List Int) := [[10, 1], [11]]
theorem q11_9 : lq11_9.all okR = true := by decide +kernel
end K

set_option maxRecDepth 100000
set_option maxHeartbeats 4000000
/-! Q3e: the finite part: every lot with a sum to twelve. -/
namespace K
open PySem L2 Rt
def lq12_0 : List (List Int) := [[1, 1, 1, 1, 1, 1, 1, 1, 1, 1, 1, 1], [2, 1, 1, 1, 1, 1, 1, 1, 1, 1, 1], [2, 2, 1, 1, 1, 1, 1, 1, 1, 1], [2, 2, 2, 1, 1, 1, 1, 1, 1], [2, 2, 2, 2, 1, 1, 1, 1], [2, 2, 2, 2, 2, 1, 1]]
theorem q12_0 : lq12_0.all okR = true := by decide +kernel
def lq12_1 : List (List Int) := [[2, 2, 2, 2, 2, 2], [3, 1, 1, 1, 1, 1, 1, 1, 1, 1], [3, 2, 1, 1, 1, 1, 1, 1, 1], [3, 2, 2, 1, 1, 1, 1, 1], [3, 2, 2, 2, 1, 1, 1], [3, 2, 2, 2, 2, 1]]
theorem q12_1 : lq12_1.all okR = true := by decide +kernel
def lq12_2 : List (List Int) := [[3, 3, 1, 1, 1, 1, 1, 1], [3, 3, 2, 1, 1, 1, 1], [3, 3, 2, 2, 1, 1], [3, 3, 2, 2, 2], [3, 3, 3, 1, 1, 1], [3, 3, 3, 2, 1]]
theorem q12_2 : lq12_2.all okR = true := by decide +kernel
def lq12_3 : List (List Int) := [[3, 3, 3, 3], [4, 1, 1, 1, 1, 1, 1, 1, 1], [4, 2, 1, 1, 1, 1, 1, 1], [4, 2, 2, 1, 1, 1, 1], [4, 2, 2, 2, 1, 1], [4, 2, 2, 2, 2]]
theorem q12_3 : lq12_3.all okR = true := by decide +kernel
def lq12_4 : List (List Int) := [[4, 3, 1, 1, 1, 1, 1], [4, 3, 2, 1, 1, 1], [4, 3, 2, 2, 1], [4, 3, 3, 1, 1], [4, 3, 3, 2], [4, 4, 1, 1, 1, 1]]
theorem q12_4 : lq12_4.all okR = true := by decide +kernel
def lq12_5 : List (List Int) := [[4, 4, 2, 1, 1], [4, 4, 2, 2], [4, 4, 3, 1], [4, 4, 4], [5, 1, 1, 1, 1, 1, 1, 1], [5, 2, 1, 1, 1, 1, 1]]
theorem q12_5 : lq12_5.all okR = true := by decide +kernel
def lq12_6 : List (List Int) := [[5, 2, 2, 1, 1, 1], [5, 2, 2, 2, 1], [5, 3, 1, 1, 1, 1], [5, 3, 2, 1, 1], [5, 3, 2, 2], [5, 3, 3, 1]]
theorem q12_6 : lq12_6.all okR = true := by decide +kernel
def lq12_7 : List (List Int) := [[5, 4, 1, 1, 1], [5, 4, 2, 1], [5, 4, 3], [5, 5, 1, 1], [5, 5, 2], [6, 1, 1, 1, 1, 1, 1]]
theorem q12_7 : lq12_7.all okR = true := by decide +kernel
def lq12_8 : List (List Int) := [[6, 2, 1, 1, 1, 1], [6, 2, 2, 1, 1], [6, 2, 2, 2], [6, 3, 1, 1, 1], [6, 3, 2, 1], [6, 3, 3]]
theorem q12_8 : lq12_8.all okR = true := by decide +kernel
def lq12_9 : List (List Int) := [[6, 4, 1, 1], [6, 4, 2], [6, 5, 1], [6, 6], [7, 1, 1, 1, 1, 1], [7, 2, 1, 1, 1]]
theorem q12_9 : lq12_9.all okR = true := by decide +kernel
def lq12_10 : List (List Int) := [[7, 2, 2, 1], [7, 3, 1, 1], [7, 3, 2], [7, 4, 1], [7, 5], [8, 1, 1, 1, 1]]
theorem q12_10 : lq12_10.all okR = true := by decide +kernel
def lq12_11 : List (List Int) := [[8, 2, 1, 1], [8, 2, 2], [8, 3, 1], [8, 4], [9, 1, 1, 1], [9, 2, 1]]
theorem q12_11 : lq12_11.all okR = true := by decide +kernel
def lq12_12 : List (List Int) := [[9, 3], [10, 1, 1], [10, 2], [11, 1], [12]]
theorem q12_12 : lq12_12.all okR = true := by decide +kernel
end K

set_option maxRecDepth 100000
set_option maxHeartbeats 4000000
/-! Q4: the cells; the law. -/
namespace K
open PySem L2 Rt
theorem mem_irange {a b x : Int} : x ∈ irange a b ↔ a ≤ x ∧ x < b := by
  constructor
  · intro h
    unfold irange at h
    obtain ⟨i, hi, rfl⟩ := List.mem_map.mp h
    have := List.mem_range.mp hi
    omega
  · intro ⟨h1, h2⟩
    exact mem_ir h1 h2
theorem parts0 : parts 30 0 0 = lq0_0 := by decide +kernel
theorem all0 : (parts 30 0 0).all okR = true := by
  rw [parts0]
  exact q0_0
theorem parts1 : parts 30 1 1 = lq1_0 := by decide +kernel
theorem all1 : (parts 30 1 1).all okR = true := by
  rw [parts1]
  exact q1_0
theorem parts2 : parts 30 2 2 = lq2_0 := by decide +kernel
theorem all2 : (parts 30 2 2).all okR = true := by
  rw [parts2]
  exact q2_0
theorem parts3 : parts 30 3 3 = lq3_0 := by decide +kernel
theorem all3 : (parts 30 3 3).all okR = true := by
  rw [parts3]
  exact q3_0
theorem parts4 : parts 30 4 4 = lq4_0 := by decide +kernel
theorem all4 : (parts 30 4 4).all okR = true := by
  rw [parts4]
  exact q4_0
theorem parts5 : parts 30 5 5 = lq5_0 ++ lq5_1 := by decide +kernel
theorem all5 : (parts 30 5 5).all okR = true := by
  rw [parts5]
  simp only [List.all_append, Bool.and_eq_true]
  exact ⟨q5_0, q5_1⟩
theorem parts6 : parts 30 6 6 = lq6_0 ++ lq6_1 := by decide +kernel
theorem all6 : (parts 30 6 6).all okR = true := by
  rw [parts6]
  simp only [List.all_append, Bool.and_eq_true]
  exact ⟨q6_0, q6_1⟩
theorem parts7 : parts 30 7 7 = lq7_0 ++ lq7_1 ++ lq7_2 := by decide +kernel
theorem all7 : (parts 30 7 7).all okR = true := by
  rw [parts7]
  simp only [List.all_append, Bool.and_eq_true]
  exact ⟨⟨q7_0, q7_1⟩, q7_2⟩
theorem parts8 : parts 30 8 8 = lq8_0 ++ lq8_1 ++ lq8_2 ++ lq8_3 := by decide +kernel
theorem all8 : (parts 30 8 8).all okR = true := by
  rw [parts8]
  simp only [List.all_append, Bool.and_eq_true]
  exact ⟨⟨⟨q8_0, q8_1⟩, q8_2⟩, q8_3⟩
theorem parts9 : parts 30 9 9 = lq9_0 ++ lq9_1 ++ lq9_2 ++ lq9_3 ++ lq9_4 := by decide +kernel
theorem all9 : (parts 30 9 9).all okR = true := by
  rw [parts9]
  simp only [List.all_append, Bool.and_eq_true]
  exact ⟨⟨⟨⟨q9_0, q9_1⟩, q9_2⟩, q9_3⟩, q9_4⟩
theorem parts10 : parts 30 10 10 = lq10_0 ++ lq10_1 ++ lq10_2 ++ lq10_3 ++ lq10_4 ++ lq10_5 ++ lq10_6 := by decide +kernel
theorem all10 : (parts 30 10 10).all okR = true := by
  rw [parts10]
  simp only [List.all_append, Bool.and_eq_true]
  exact ⟨⟨⟨⟨⟨⟨q10_0, q10_1⟩, q10_2⟩, q10_3⟩, q10_4⟩, q10_5⟩, q10_6⟩
theorem parts11 : parts 30 11 11 = lq11_0 ++ lq11_1 ++ lq11_2 ++ lq11_3 ++ lq11_4 ++ lq11_5 ++ lq11_6 ++ lq11_7 ++ lq11_8 ++ lq11_9 := by decide +kernel
theorem all11 : (parts 30 11 11).all okR = true := by
  rw [parts11]
  simp only [List.all_append, Bool.and_eq_true]
  exact ⟨⟨⟨⟨⟨⟨⟨⟨⟨q11_0, q11_1⟩, q11_2⟩, q11_3⟩, q11_4⟩, q11_5⟩, q11_6⟩, q11_7⟩, q11_8⟩, q11_9⟩
theorem parts12 : parts 30 12 12 = lq12_0 ++ lq12_1 ++ lq12_2 ++ lq12_3 ++ lq12_4 ++ lq12_5 ++ lq12_6 ++ lq12_7 ++ lq12_8 ++ lq12_9 ++ lq12_10 ++ lq12_11 ++ lq12_12 := by decide +kernel
theorem all12 : (parts 30 12 12).all okR = true := by
  rw [parts12]
  simp only [List.all_append, Bool.and_eq_true]
  exact ⟨⟨⟨⟨⟨⟨⟨⟨⟨⟨⟨⟨q12_0, q12_1⟩, q12_2⟩, q12_3⟩, q12_4⟩, q12_5⟩, q12_6⟩, q12_7⟩, q12_8⟩, q12_9⟩, q12_10⟩, q12_11⟩, q12_12⟩
theorem all_ok {t : Int} (h0 : 0 ≤ t) (h1 : t ≤ 12) : (parts 30 t t).all okR = true := by
  have : t = 0 ∨ t = 1 ∨ t = 2 ∨ t = 3 ∨ t = 4 ∨ t = 5 ∨ t = 6 ∨ t = 7 ∨ t = 8 ∨ t = 9 ∨ t = 10 ∨ t = 11 ∨ t = 12 := by omega
  rcases this with rfl | rfl | rfl | rfl | rfl | rfl | rfl | rfl | rfl | rfl | rfl | rfl | rfl
  · exact all0
  · exact all1
  · exact all2
  · exact all3
  · exact all4
  · exact all5
  · exact all6
  · exact all7
  · exact all8
  · exact all9
  · exact all10
  · exact all11
  · exact all12
theorem lot_ok {t : Int} {l : List Int} (h0 : 0 ≤ t) (h1 : t ≤ 12) (h : Lot t l) : p_law_right () l = some (.rt true) := by
  have hl := len_le fun x hx => h.pos x hx
  rw [h.sum] at hl
  refine okR_eq (List.all_eq_true.mp (all_ok h0 h1) l (mem_parts l 30 t t (by omega) h fun x hx => ?_))
  have : ∀ {l : List Int} {x : Int}, (∀ y ∈ l, 1 ≤ y) → x ∈ l → x ≤ l.sum := by
    intro l
    induction l with
    | nil => intro x _ hx; cases hx
    | cons y l ih =>
      intro x hp hx
      have p := len_le fun z hz => hp z (List.mem_cons_of_mem _ hz)
      have q := hp y List.mem_cons_self
      rw [List.sum_cons]
      rcases List.mem_cons.mp hx with e | hx
      · subst e; omega
      · have := ih (fun z hz => hp z (List.mem_cons_of_mem _ hz)) hx
        omega
  rw [← h.sum]
  exact this h.pos hx
theorem right_ok {m : Int} {g : Gh} {P : Bool → Gh → Prop} (h : DI m g) (hm : m ≤ 1000) (k : ∀ g', DI (m + 40) g' → P true g') : m_law_right () g P := by
  unfold m_law_right
  rw [s_law_right]
  repeat (first | with_reducible apply rtOfI | with_reducible apply bindFI | with_reducible apply bindI | with_reducible apply retI | with_reducible apply rtKI | with_reducible apply bindKI | with_reducible apply putI)
  refine roll_ok h (by omega) (by decide) (by decide) fun r g1 r0 r1 h1 => ?_
  repeat (first | with_reducible apply rtOfI | with_reducible apply bindFI | with_reducible apply bindI | with_reducible apply retI | with_reducible apply rtKI | with_reducible apply bindKI | with_reducible apply putI)
  refine draw_ok (by omega) (fun l g2 hl hd => ?_) r0 h1 (by omega)
  refine ofI (lot_ok r0 (by omega) hl) ?_
  repeat (first | with_reducible apply rtOfI | with_reducible apply bindFI | with_reducible apply bindI | with_reducible apply retI | with_reducible apply rtKI | with_reducible apply bindKI | with_reducible apply putI)
  exact k g2 (hd.mono (by omega))
def isRt (o : Option (Fl Bool Empty Unit)) : Bool := match o with | some (.rt b) => b | _ => false
theorem isRt_eq {o : Option (Fl Bool Empty Unit)} (h : isRt o = true) : o = some (.rt true) := by
  cases o with
  | none => cases h
  | some w =>
    cases w with
    | rt b => rw [show b = true from h]
    | nx z => cases z
    | br _ => cases h
    | ct _ => cases h
def okQ (t : Nat) : Bool := isRt (p_law_squares_right () (t : Int))
theorem sqN : ((List.range 9).all okQ) = true := by decide +kernel
theorem sq_ok {t : Int} (h0 : 0 ≤ t) (h1 : t < 9) : p_law_squares_right () t = some (.rt true) := by
  obtain ⟨n, rfl⟩ : ∃ n : Nat, t = n := ⟨t.toNat, by omega⟩
  exact isRt_eq (List.all_eq_true.mp sqN n (List.mem_range.mpr (by omega)))
theorem squares_ok {m : Int} {g : Gh} {P : Bool → Gh → Prop} (h : DI m g) (hm : m ≤ 1000) (k : ∀ g', P true g') : m_law_squares_right () g P := by
  unfold m_law_squares_right
  rw [s_law_squares_right]
  repeat (first | with_reducible apply rtOfI | with_reducible apply bindFI | with_reducible apply bindI | with_reducible apply retI | with_reducible apply rtKI | with_reducible apply bindKI | with_reducible apply putI)
  refine roll_ok h (by omega) (by decide) (by decide) fun r g1 r0 r1 h1 => ?_
  refine ofI (sq_ok r0 r1) ?_
  repeat (first | with_reducible apply rtOfI | with_reducible apply bindFI | with_reducible apply bindI | with_reducible apply retI | with_reducible apply rtKI | with_reducible apply bindKI | with_reducible apply putI)
  exact k g1
theorem lenK_ok {α : Type} (xs : List α) (h : Nat.ble xs.length 100 = true) : lenK xs = some xs := by
  unfold lenK
  have := Nat.le_of_ble_eq_true h
  first | rw [if_pos (by omega)] | rw [if_pos h] | simp [h]
theorem law_holds (ns : List Int) (_ : ns.length ≤ 63) : m_law (ns, ()) [] (fun b _ => b = true) := by
  unfold m_law w_law
  have hr : ∃ k : Int, 0 ≤ k ∧ k ≤ 3 ∧ (if (if (ns.length : Int) < 3 then (ns.length : Int) else 3) > 1 then (if (ns.length : Int) < 3 then (ns.length : Int) else 3) else 1) = k := ⟨_, by split <;> (try split) <;> omega, by split <;> (try split) <;> omega, rfl⟩
  obtain ⟨k, k0, k5, ek⟩ := hr
  repeat (first | with_reducible apply rtOfI | with_reducible apply bindFI | with_reducible apply bindI | with_reducible apply retI | with_reducible apply rtKI | with_reducible apply bindKI | with_reducible apply putI)
  refine ofI (a := irange 0 k) ?_ ?_
  · refine .trans (congrArg (rngC 0) ek) ?_
    exact rng_ok (by omega) (by omega) (by omega) (by omega)
  repeat (first | with_reducible apply rtOfI | with_reducible apply bindFI | with_reducible apply bindI | with_reducible apply retI | with_reducible apply rtKI | with_reducible apply bindKI | with_reducible apply putI)
  refine forL_all _ _ _ (fun x hx g P hP => ?_) fun g => ?_
  · obtain ⟨x0, x1⟩ := mem_irange.mp hx
    obtain ⟨g0, e0, d0⟩ := dice_ok ns x (by omega) (by omega)
    repeat (first | with_reducible apply rtOfI | with_reducible apply bindFI | with_reducible apply bindI | with_reducible apply retI | with_reducible apply rtKI | with_reducible apply bindKI | with_reducible apply putI)
    refine ofI e0 ?_
    repeat (first | with_reducible apply rtOfI | with_reducible apply bindFI | with_reducible apply bindI | with_reducible apply retI | with_reducible apply rtKI | with_reducible apply bindKI | with_reducible apply putI)
    refine right_ok d0 (by omega) fun g2 d2 => ?_
    repeat (first | with_reducible apply rtOfI | with_reducible apply bindFI | with_reducible apply bindI | with_reducible apply retI | with_reducible apply rtKI | with_reducible apply bindKI | with_reducible apply putI)
    refine ifF rfl ?_
    repeat (first | with_reducible apply rtOfI | with_reducible apply bindFI | with_reducible apply bindI | with_reducible apply retI | with_reducible apply rtKI | with_reducible apply bindKI | with_reducible apply putI)
    refine right_ok d2 (by omega) fun g3 d3 => ?_
    repeat (first | with_reducible apply rtOfI | with_reducible apply bindFI | with_reducible apply bindI | with_reducible apply retI | with_reducible apply rtKI | with_reducible apply bindKI | with_reducible apply putI)
    refine ifF rfl ?_
    repeat (first | with_reducible apply rtOfI | with_reducible apply bindFI | with_reducible apply bindI | with_reducible apply retI | with_reducible apply rtKI | with_reducible apply bindKI | with_reducible apply putI)
    refine squares_ok d3 (by omega) fun g4 => ?_
    repeat (first | with_reducible apply rtOfI | with_reducible apply bindFI | with_reducible apply bindI | with_reducible apply retI | with_reducible apply rtKI | with_reducible apply bindKI | with_reducible apply putI)
    refine ifF rfl ?_
    repeat (first | with_reducible apply rtOfI | with_reducible apply bindFI | with_reducible apply bindI | with_reducible apply retI | with_reducible apply rtKI | with_reducible apply bindKI | with_reducible apply putI)
    exact hP g4
  · have c1 : m_dimension ([3, 1], ()) = some 3 := by decide +kernel
    have c2 : m_dimension ([], ()) = some 1 := by decide +kernel
    have c3 : m_less_square ([3, 1], ()) = some [[2, 1], [3]] := by decide +kernel
    have c4 : m_more_square ([3, 1], ()) = some [[3, 1, 1], [3, 2], [4, 1]] := by decide +kernel
    have c5 : m_less_square ([], ()) = some [] := by decide +kernel
    have c6 : m_more_square ([], ()) = some [[1]] := by decide +kernel
    repeat (first | with_reducible apply rtOfI | with_reducible apply bindFI | with_reducible apply bindI | with_reducible apply retI | with_reducible apply rtKI | with_reducible apply bindKI | with_reducible apply putI)
    refine ofI c1 ?_
    repeat (first | with_reducible apply rtOfI | with_reducible apply bindFI | with_reducible apply bindI | with_reducible apply retI | with_reducible apply rtKI | with_reducible apply bindKI | with_reducible apply putI)
    refine ofI c2 ?_
    repeat (first | with_reducible apply rtOfI | with_reducible apply bindFI | with_reducible apply bindI | with_reducible apply retI | with_reducible apply rtKI | with_reducible apply bindKI | with_reducible apply putI)
    refine ofI c3 ?_
    repeat (first | with_reducible apply rtOfI | with_reducible apply bindFI | with_reducible apply bindI | with_reducible apply retI | with_reducible apply rtKI | with_reducible apply bindKI | with_reducible apply putI)
    refine ofI c4 ?_
    repeat (first | with_reducible apply rtOfI | with_reducible apply bindFI | with_reducible apply bindI | with_reducible apply retI | with_reducible apply rtKI | with_reducible apply bindKI | with_reducible apply putI)
    refine ofI c5 ?_
    repeat (first | with_reducible apply rtOfI | with_reducible apply bindFI | with_reducible apply bindI | with_reducible apply retI | with_reducible apply rtKI | with_reducible apply bindKI | with_reducible apply putI)
    refine ofI c6 ?_
    repeat (first | with_reducible apply rtOfI | with_reducible apply bindFI | with_reducible apply bindI | with_reducible apply retI | with_reducible apply rtKI | with_reducible apply bindKI | with_reducible apply putI)
    refine ofI (lenK_ok _ rfl) ?_
    repeat (first | with_reducible apply rtOfI | with_reducible apply bindFI | with_reducible apply bindI | with_reducible apply retI | with_reducible apply rtKI | with_reducible apply bindKI | with_reducible apply putI)
    refine ofI (lenK_ok _ rfl) ?_
    repeat (first | with_reducible apply rtOfI | with_reducible apply bindFI | with_reducible apply bindI | with_reducible apply retI | with_reducible apply rtKI | with_reducible apply bindKI | with_reducible apply putI)
    refine ofI (a := true) (by decide +kernel) ?_
    repeat (first | with_reducible apply rtOfI | with_reducible apply bindFI | with_reducible apply bindI | with_reducible apply retI | with_reducible apply rtKI | with_reducible apply bindKI | with_reducible apply putI)
    rfl
end K

open PySem PySem.W PyProof.Rows
set_option maxHeartbeats 0 in
theorem PySem.Challenge.cw_swapsheets_k10_whole_dimensions_holds : PySem.Challenge.rw_swapsheets_k10_whole_dimensions.Holds := by
  w_on; o_law; k_head; (case hw => w_witness2)
  k_fill
  refine Rt.walk_ofX (π := fun A => A.guards = some []) (l := PySem.Challenge.rw_swapsheets_k10_whole_dimensions) (n := 63) (k := 34) (x := "_law_script") (CX := fun _ => L2.CX0) (sp := fun w => Rt.SpW (Rt.pC (Rt.qX _) Rt.p0).ra Rt.qB K.m_law) rfl rfl (by decide) rfl ⟨rfl, by decide, by decide⟩ (fun w h Y => PySem.W.kIn_of Y) ?F (fun _ H a ns hl _ hS => Rt.law_end K.law_holds H a ns hl hS) (fun _ _ _ _ _ h => h)
  case F =>
    intro w mg fa h KX G hmg XX
    refine' K.all_mk KX G hmg XX ?a_law_dice ?d_law_dice ?a_law_roll ?d_law_roll ?a_law_pick ?d_law_pick ?a_law_lot_of ?d_law_lot_of ?a_law_lot_drawn ?d_law_lot_drawn ?a_law_dg_less ?d_law_dg_less ?a_law_dg_ways ?d_law_dg_ways ?a_is_whole ?d_is_whole ?a_is_integer ?d_is_integer ?a_is_lot ?d_is_lot ?a_check_lot ?d_check_lot ?a_is_count ?d_is_count ?a_check_count ?d_check_count ?a_falling_product ?d_falling_product ?a_factorial ?d_factorial ?a_columns ?d_columns ?a_conjugate ?d_conjugate ?a_squares_of ?d_squares_of ?a_hook_at ?d_hook_at ?a_hooks_product ?d_hooks_product ?a_dimension ?d_dimension ?a_law_factorial ?d_law_factorial ?a_with_member ?d_with_member ?a_less_square ?d_less_square ?a_more_square ?d_more_square ?a_law_more ?d_law_more ?a_check_lots ?d_check_lots ?a_check_sum ?d_check_sum ?a_beads_for ?d_beads_for ?a_lot_behind ?d_lot_behind ?a_shifted_beads ?d_shifted_beads ?a_rims ?d_rims ?a_led_on ?d_led_on ?a_character ?d_character ?a_law_right ?d_law_right ?a_lots_up_to ?d_lots_up_to ?a_lots ?d_lots ?a_law_squares_right ?d_law_squares_right ?a_law ?d_law ?z_abs ?z_all ?z_bool ?z_dict ?z_enumerate ?z_int ?z_isinstance ?z_len ?z_list ?z_max ?z_min ?z_range ?z_sorted ?z_sum ?z_tuple ?i_MAX_CHARTED ?i_MAX_CHOSEN ?i_MAX_SUM ?i_g_FIRST_TOO_LONG
    (case a_law_dice => k_is)
    (case d_law_dice => refine' ⟨_, L2.fun_mk (st := K.slaw_dice) ?l ?c ?k⟩; (case l => k_is); (case c => k_is); (case k => k_is))
    (case a_law_roll => k_is)
    (case d_law_roll => refine' ⟨_, L2.fun_mk (st := K.slaw_roll) ?l ?c ?k⟩; (case l => k_is); (case c => k_is); (case k => k_is))
    (case a_law_pick => k_is)
    (case d_law_pick => refine' ⟨_, L2.fun_mk (st := K.slaw_pick) ?l ?c ?k⟩; (case l => k_is); (case c => k_is); (case k => k_is))
    (case a_law_lot_of => k_is)
    (case d_law_lot_of => refine' ⟨_, L2.fun_mk (st := K.slaw_lot_of) ?l ?c ?k⟩; (case l => k_is); (case c => k_is); (case k => k_is))
    (case a_law_lot_drawn => k_is)
    (case d_law_lot_drawn => refine' ⟨_, L2.fun_mk (st := K.slaw_lot_drawn) ?l ?c ?k⟩; (case l => k_is); (case c => k_is); (case k => k_is))
    (case a_law_dg_less => k_is)
    (case d_law_dg_less => refine' ⟨_, L2.fun_mk (st := K.slaw_dg_less) ?l ?c ?k⟩; (case l => k_is); (case c => k_is); (case k => k_is))
    (case a_law_dg_ways => k_is)
    (case d_law_dg_ways => refine' ⟨_, L2.fun_mk (st := K.slaw_dg_ways) ?l ?c ?k⟩; (case l => k_is); (case c => k_is); (case k => k_is))
    (case a_is_whole => k_is)
    (case d_is_whole => refine' ⟨_, L2.fun_mk (st := K.sis_whole) ?l ?c ?k⟩; (case l => k_is); (case c => k_is); (case k => k_is))
    (case a_is_integer => k_is)
    (case d_is_integer => refine' ⟨_, L2.fun_mk (st := K.sis_integer) ?l ?c ?k⟩; (case l => k_is); (case c => k_is); (case k => k_is))
    (case a_is_lot => k_is)
    (case d_is_lot => refine' ⟨_, L2.fun_mk (st := K.sis_lot) ?l ?c ?k⟩; (case l => k_is); (case c => k_is); (case k => k_is))
    (case a_check_lot => k_is)
    (case d_check_lot => refine' ⟨_, L2.fun_mk (st := K.scheck_lot) ?l ?c ?k⟩; (case l => k_is); (case c => k_is); (case k => k_is))
    (case a_is_count => k_is)
    (case d_is_count => refine' ⟨_, L2.fun_mk (st := K.sis_count) ?l ?c ?k⟩; (case l => k_is); (case c => k_is); (case k => k_is))
    (case a_check_count => k_is)
    (case d_check_count => refine' ⟨_, L2.fun_mk (st := K.scheck_count) ?l ?c ?k⟩; (case l => k_is); (case c => k_is); (case k => k_is))
    (case a_falling_product => k_is)
    (case d_falling_product => refine' ⟨_, L2.fun_mk (st := K.sfalling_product) ?l ?c ?k⟩; (case l => k_is); (case c => k_is); (case k => k_is))
    (case a_factorial => k_is)
    (case d_factorial => refine' ⟨_, L2.fun_mk (st := K.sfactorial) ?l ?c ?k⟩; (case l => k_is); (case c => k_is); (case k => k_is))
    (case a_columns => k_is)
    (case d_columns => refine' ⟨_, L2.fun_mk (st := K.scolumns) ?l ?c ?k⟩; (case l => k_is); (case c => k_is); (case k => k_is))
    (case a_conjugate => k_is)
    (case d_conjugate => refine' ⟨_, L2.fun_mk (st := K.sconjugate) ?l ?c ?k⟩; (case l => k_is); (case c => k_is); (case k => k_is))
    (case a_squares_of => k_is)
    (case d_squares_of => refine' ⟨_, L2.fun_mk (st := K.ssquares_of) ?l ?c ?k⟩; (case l => k_is); (case c => k_is); (case k => k_is))
    (case a_hook_at => k_is)
    (case d_hook_at => refine' ⟨_, L2.fun_mk (st := K.shook_at) ?l ?c ?k⟩; (case l => k_is); (case c => k_is); (case k => k_is))
    (case a_hooks_product => k_is)
    (case d_hooks_product => refine' ⟨_, L2.fun_mk (st := K.shooks_product) ?l ?c ?k⟩; (case l => k_is); (case c => k_is); (case k => k_is))
    (case a_dimension => k_is)
    (case d_dimension => refine' ⟨_, L2.fun_mk (st := K.sdimension) ?l ?c ?k⟩; (case l => k_is); (case c => k_is); (case k => k_is))
    (case a_law_factorial => k_is)
    (case d_law_factorial => refine' ⟨_, L2.fun_mk (st := K.slaw_factorial) ?l ?c ?k⟩; (case l => k_is); (case c => k_is); (case k => k_is))
    (case a_with_member => k_is)
    (case d_with_member => refine' ⟨_, L2.fun_mk (st := K.swith_member) ?l ?c ?k⟩; (case l => k_is); (case c => k_is); (case k => k_is))
    (case a_less_square => k_is)
    (case d_less_square => refine' ⟨_, L2.fun_mk (st := K.sless_square) ?l ?c ?k⟩; (case l => k_is); (case c => k_is); (case k => k_is))
    (case a_more_square => k_is)
    (case d_more_square => refine' ⟨_, L2.fun_mk (st := K.smore_square) ?l ?c ?k⟩; (case l => k_is); (case c => k_is); (case k => k_is))
    (case a_law_more => k_is)
    (case d_law_more => refine' ⟨_, L2.fun_mk (st := K.slaw_more) ?l ?c ?k⟩; (case l => k_is); (case c => k_is); (case k => k_is))
    (case a_check_lots => k_is)
    (case d_check_lots => refine' ⟨_, L2.fun_mk (st := K.scheck_lots) ?l ?c ?k⟩; (case l => k_is); (case c => k_is); (case k => k_is))
    (case a_check_sum => k_is)
    (case d_check_sum => refine' ⟨_, L2.fun_mk (st := K.scheck_sum) ?l ?c ?k⟩; (case l => k_is); (case c => k_is); (case k => k_is))
    (case a_beads_for => k_is)
    (case d_beads_for => refine' ⟨_, L2.fun_mk (st := K.sbeads_for) ?l ?c ?k⟩; (case l => k_is); (case c => k_is); (case k => k_is))
    (case a_lot_behind => k_is)
    (case d_lot_behind => refine' ⟨_, L2.fun_mk (st := K.slot_behind) ?l ?c ?k⟩; (case l => k_is); (case c => k_is); (case k => k_is))
    (case a_shifted_beads => k_is)
    (case d_shifted_beads => refine' ⟨_, L2.fun_mk (st := K.sshifted_beads) ?l ?c ?k⟩; (case l => k_is); (case c => k_is); (case k => k_is))
    (case a_rims => k_is)
    (case d_rims => refine' ⟨_, L2.fun_mk (st := K.srims) ?l ?c ?k⟩; (case l => k_is); (case c => k_is); (case k => k_is))
    (case a_led_on => k_is)
    (case d_led_on => refine' ⟨_, L2.fun_mk (st := K.sled_on) ?l ?c ?k⟩; (case l => k_is); (case c => k_is); (case k => k_is))
    (case a_character => k_is)
    (case d_character => refine' ⟨_, L2.fun_mk (st := K.scharacter) ?l ?c ?k⟩; (case l => k_is); (case c => k_is); (case k => k_is))
    (case a_law_right => k_is)
    (case d_law_right => refine' ⟨_, L2.fun_mk (st := K.slaw_right) ?l ?c ?k⟩; (case l => k_is); (case c => k_is); (case k => k_is))
    (case a_lots_up_to => k_is)
    (case d_lots_up_to => refine' ⟨_, L2.fun_mk (st := K.slots_up_to) ?l ?c ?k⟩; (case l => k_is); (case c => k_is); (case k => k_is))
    (case a_lots => k_is)
    (case d_lots => refine' ⟨_, L2.fun_mk (st := K.slots) ?l ?c ?k⟩; (case l => k_is); (case c => k_is); (case k => k_is))
    (case a_law_squares_right => k_is)
    (case d_law_squares_right => refine' ⟨_, L2.fun_mk (st := K.slaw_squares_right) ?l ?c ?k⟩; (case l => k_is); (case c => k_is); (case k => k_is))
    (case a_law => k_is)
    (case d_law => refine' ⟨_, L2.fun_mk (st := K.slaw) ?l ?c ?k⟩; (case l => k_is); (case c => k_is); (case k => k_is))
    (case z_abs => k_is)
    (case z_all => k_is)
    (case z_bool => k_is)
    (case z_dict => k_is)
    (case z_enumerate => k_is)
    (case z_int => k_is)
    (case z_isinstance => k_is)
    (case z_len => k_is)
    (case z_list => k_is)
    (case z_max => k_is)
    (case z_min => k_is)
    (case z_range => k_is)
    (case z_sorted => k_is)
    (case z_sum => k_is)
    (case z_tuple => k_is)
    (case i_MAX_CHARTED => k_is)
    (case i_MAX_CHOSEN => k_is)
    (case i_MAX_SUM => k_is)
    (case i_g_FIRST_TOO_LONG => simp)

