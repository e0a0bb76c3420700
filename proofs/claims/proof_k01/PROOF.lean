import PyProof.Rows.All
import Wide.All
import OpenK.AllK
import Wide.FinOn
import HandS.ForMost
import HandS.Wide
import HandS.Evl
import HandS.TupAny
import HandS.TupMul
import HandS.Conv
import HandS.IsInst
import HandS.Strs
import HandS.Deep
import HandS.Style
import HandS.SortInts
import KE.KTupSum
import KE.GoesMore
import KE.GoesEnum
import HandS.Zip
import KE.DataMinMax
import HandS.NamedTupSort
import HandS.TupSets
import HandS.SortKw
import HandS.TryOnly
import HandS.Small
import HandS.RaiseMore
import PyProof.CallFns
import KE.SortKeyHeap
import HandS.GenList
import HandS.GenYield
import HandS.WordsExc
import KE.KOwnIn
import HandS.FStr
import HandS.Gcd
import KE.KMathGC
import PySem.Challenge.RW_swapsheets_k01_whole_numbers_reckoned
set_option Elab.async false
set_option linter.all false
set_option maxRecDepth 100000
set_option maxHeartbeats 4000000
/-! RtU: tuples whose objects are known: what makes them, their methods, isinstance. -/
namespace RtU
open PySem L2 PySem.Spec PyProof.Rows
section
variable {X : Cx} {pins : List (Addr × Obj)} {σ : L2.St} {H : Hp} {s : Shared} {t : TA} {es : List Expr} {pos : Pos}
/-- the object of a tuple that is made -/
abbrev tob (its : Array Value) (n : Nat := 0) : Obj := { cls := .type "tuple", data := .seq its n }
/-- a tuple is made at the heap's end, and its object known -/
theorem laidU {its : List Value} {xs : List V} {tk n : Nat} {h' : Heap} (I : Inv X pins σ H { s with heap := h', toks := tk }) (r : Vals xs its) (z : xs.length ≤ sizeLine) :
    Inv X pins σ (upd H h'.objs.size (.frz (tob its.toArray n) (.tup xs))) { s with heap := h'.push (tob its.toArray n), toks := tk } ∧ H h'.objs.size = none :=
  ⟨I.laid (t' := tk) (fun b u e => Heap.get?_push_of_some _ e) (Nat.le_refl _) (show ObjOk X.prog X.w _ _ _ (.frz (tob its.toArray n) (.tup xs)) from ⟨Heap.get?_push_size _ rfl, z, its, r, ⟨_, Heap.get?_push_size _ rfl, rfl, _, rfl⟩⟩), I.hok.fresh (Nat.le_refl _)⟩
/-- wanted of a new tuple -/
def NewT (Q : VK) (H : Hp) (xs : List V) : Prop := ∀ p o, o.dict = none → H p = none → Q (.ref p) (upd H p (.frz o (.tup xs)))
def tTupU (t : TA) : TE := fun σ H Q => t σ H fun xs H1 => xs.length ≤ sizeLine ∧ NewT Q H1 xs
theorem pe_tupU {x1} (h : PA X es t) : PE X (.Tuple es x1 pos) (tTupU t) := by
  refine ⟨fun pins s σ H Q I hq => wpAny_Tuple_spliced (thn (h.run pos pins s σ H _ I hq) fun us s1 ⟨xs, H1, I1, r, z, q⟩ => ⟨by rw [← r.length]; exact z, ?_⟩)⟩
  obtain ⟨I2, hf⟩ := laidU (s := s1) (n := 0) (h' := s1.heap) (tk := s1.toks) I1 r z
  exact ⟨.ref _, _, I2, rfl, q _ _ rfl hf⟩
/-- t + u -/
def rCatU (K : PySem.W.Frag) : R2 := fun x y H Q => ∃ a b xs ys, x = .ref a ∧ y = .ref b ∧ SqT K H a xs ∧ SqT K H b ys ∧ xs.length + ys.length ≤ sizeLine ∧
  (xs = [] → Q (.ref b) H) ∧ (xs ≠ [] → ys = [] → Q (.ref a) H) ∧ (xs ≠ [] → ys ≠ [] → NewT Q H (xs ++ ys))
theorem op_catU : OpR X (binaryOp .Add) (rCatU X.K) := by
  intro pins s σ H x y v u Q I rx ry ⟨a, b, xs, ys, ex, ey, ha, hb, hz, q0, q1, q2⟩
  subst ex ey
  by_cases hx : xs = []
  · exact op_catA pins s σ H _ _ v u Q I rx ry ⟨a, b, xs, ys, rfl, rfl, ha, hb, hz, q0, q1, fun z => absurd hx z⟩
  · cases rx
    cases ry
    obtain ⟨its, r1, p1, _⟩ := I.tuple ha
    obtain ⟨its2, r2, p2, _⟩ := I.tuple hb
    refine HT.cat_tup p1 p2 (fun z => hx (r1.nil_iff.mp z)) (fun z => ⟨.ref a, H, I, rfl, q1 hx (r2.nil_iff.mp z)⟩) (fun z => ?_) (by rw [← r1.length, ← r2.length]; exact hz)
    obtain ⟨I2, hf⟩ := laidU (s := s) (n := 0) (h' := s.heap) (tk := s.toks) I (r1.append r2) (by rw [List.length_append]; exact hz)
    exact ⟨.ref _, _, I2, rfl, q2 hx (fun w => z (r2.nil_iff.mpr w)) _ _ rfl hf⟩
/-- t[lo:hi]: the whole of it is t itself -/
def rSlU (K : PySem.W.Frag) : V → Option Int → Option Int → Hp → VK → Prop := fun x lo hi H Q => ∃ a xs, x = .ref a ∧ SqT K H a xs ∧
  (HT.sIx xs.length 0 lo = 0 ∧ HT.sIx xs.length xs.length hi = xs.length → Q (.ref a) H) ∧ (¬ (HT.sIx xs.length 0 lo = 0 ∧ HT.sIx xs.length xs.length hi = xs.length) → NewT Q H (cutV xs lo hi))
theorem sl_tupU : SlR X (rSlU X.K) := by
  intro pins s σ H x v vl vu lo hi sl Q I rx hs pl pu ⟨a, xs, ex, hx, q1, q2⟩
  by_cases hw : HT.sIx xs.length 0 lo = 0 ∧ HT.sIx xs.length xs.length hi = xs.length
  · exact sl_tupA pins s σ H x v vl vu lo hi sl Q I rx hs pl pu ⟨a, xs, ex, hx, q1, fun z => absurd hw z⟩
  · subst ex
    cases rx
    obtain ⟨its, r, ht, hz⟩ := I.tuple hx
    have hlen : its.toArray.size = xs.length := by rw [List.size_toArray]; exact r.length.symm
    refine ⟨"tuple", _, PyProof.Rows.slot_tuple_getitem.lookup, ht.typeIs, HT.getItem_tuple_cut ht hs pl pu (by rw [hlen]; exact hw) ?_ (by rw [hlen]; exact hz)⟩
    rw [hlen]
    obtain ⟨I2, hf⟩ := laidU (s := s) (n := 0) (h' := s.heap) (tk := s.toks) I ((r.drop (HT.sIx xs.length 0 lo)).take (HT.sIx xs.length xs.length hi - HT.sIx xs.length 0 lo)) (Nat.le_trans (cutV_length xs lo hi) hz)
    exact ⟨.ref _, _, I2, rfl, q2 hw _ _ rfl hf⟩
/-- tuple(xs) of a list -/
theorem call_tuple_ofU : CallR X (.type "tuple") (fun xs H Q => ∃ p ys, xs = [.ref p] ∧ SqL X.K H p ys ∧ NewT Q H ys) := by
  intro pins s σ H xs us Q I r ⟨p, ys, ex, hq, q⟩
  subst ex
  obtain ⟨u, rfl, rx⟩ := vals1 r
  cases rx
  obtain ⟨its, r', pl, hz⟩ := I.list hq
  have hlen := r'.length
  refine call_tuple_list pl.isList (fun h' kp => ?_) (by simp only [List.size_toArray]; omega)
  have I1 : Inv X pins σ H { s with heap := h' } := I.kept (t' := s.toks) kp
  obtain ⟨I2, hf⟩ := laidU (s := s) (n := 0) (h' := h') (tk := s.toks) I1 r' hz
  exact ⟨.ref _, _, I2, rfl, q _ _ rfl hf⟩
/-- tuple(range(..)) -/
def tTupRgU (te : L2.St → Hp → (Int → Int → Hp → Prop) → Prop) : TE := fun σ H Q => te σ H fun a b H1 => RgOk a b ∧ NewT Q H1 (rgV a b)
theorem pe_tupRgU {e : Expr} {te : L2.St → Hp → (Int → Int → Hp → Prop) → Prop} {p : Pos} (hc : X.calm = true) (hg : Gl X "tuple") (hm : X.mg "tuple" = none) (he : PRg X e te) (na : starEach [e] X.env = (false, eval e X.env) :: starEach [] X.env := by rfl) : PE X (.Call (.Name "tuple" p) [e] [] pos) (tTupRgU te) := by
  refine ⟨fun pins s σ H Q I h => Call_ (ld_blt I hg hm boot_tuple (PyProof.Rows.callWith_type1 (args_cons (thn (he pins s σ H _ I h) fun x s1 ⟨r, a, b, t, u, v, H1, ex, hr, I1, ok, q⟩ => args_nil ?_) na) na))⟩
  subst ex
  obtain ⟨b1, b2, b3, b4, b5⟩ := ok
  refine call_tuple_range (n := (b - a).toNat) (I1.ok.hd hc) hr (small_one b1 b2 b3 b4) (rangeSize_nat a b) b5 fun h' tk acc hk hi => ?_
  have I2 : Inv X pins σ H1 { s1 with heap := h', toks := tk } := I1.kept hk
  obtain ⟨I3, hf⟩ := laidU (s := s1) (n := 0) (h' := h') (tk := tk) I2 (its := acc.toList) (xs := rgV a b) (vals_rg hi) (by rw [rgV_length, sizeLine_eq]; omega)
  exact ⟨.ref _, _, I3, rfl, q _ _ rfl hf⟩
/-- t * k, k at least 2 -/
def rRepU (K : PySem.W.Frag) : R2 := fun x y H Q => ∃ l k xs, x = .ref l ∧ y = .int k ∧ SqT K H l xs ∧ xs ≠ [] ∧ (k = 0 ∨ 2 ≤ k) ∧ k ≤ 1000 ∧ xs.length ≤ 1000 ∧ NewT Q H (List.replicate k.toNat xs).flatten
/-- t * 0 -/
theorem tuple_mul0 (l : Addr) (items : Array Value) (n : Nat) (dd : Option Addr) (sl : Array (Option Value)) (x : Int) (u : Tok) (c0 : (decide (x < -(2 ^ 63)) || decide (x ≥ 2 ^ 63)) = false) (c1 : (items.isEmpty || x == 1) = false) (c2 : (decide (x ≤ 0) || items.isEmpty) = true) :
    Meets (Builtin.«tuple.__mul__» ⟨[.ref l, .int x u], []⟩) (fun _ R s => s.heap.get? l = some { cls := .type "tuple", dict := dd, data := .seq items n, slots := sl } ∧
      R (.ok (.ret (Value.ref s.heap.objs.size))) { s with heap := s.heap.push { cls := Value.type "tuple", data := Data.seq #[] }, toks := s.toks }) :=
  .of_wp fun prog w A R s h => by
    obtain ⟨hp, g, d, tk, os⟩ := s
    obtain ⟨hl, h⟩ := h
    have f1 := AutoSeq1.idx_int
    wp_walk using AutoSeq1.wpAny_loadPart' hl
    repeat (first
      | (refine wpAny_ite_false (decide_eq_false (by rw [c0]; exact Bool.false_ne_true)) ?_; wp_walk using AutoSeq1.wpAny_loadPart' hl)
      | (refine wpAny_ite_false (decide_eq_false (by rw [c1]; exact Bool.false_ne_true)) ?_; wp_walk using AutoSeq1.wpAny_loadPart' hl)
      | (refine wpAny_ite_true (decide_eq_true c2) ?_; wp_walk using AutoSeq1.wpAny_loadPart' hl))
    exact ⟨_, rfl, h⟩
theorem op_repU : OpR X (binaryOp .Mult) (rRepU X.K) := by
  intro pins s σ H x y v u Q I rx ry ⟨l, k, xs, ex, ey, hT, hne, h1, h2, hz, q⟩
  subst ex ey
  cases rx
  obtain ⟨t, rfl⟩ := ry
  obtain ⟨its, r, ⟨⟨cls, dd, data, sl⟩, ho, hc, n, hd⟩, hs⟩ := I.tuple hT
  simp only at hc hd
  subst hc hd
  have hle : its.length = xs.length := r.length.symm
  have hn : its ≠ [] := fun e => hne (List.eq_nil_of_length_eq_zero (by rw [← hle, e]; rfl))
  have hi : its.toArray.isEmpty = false := by cases its with | nil => exact absurd rfl hn | cons a b => rfl
  have hsz0 : its.toArray.size = xs.length := by rw [List.size_toArray, hle]
  have c1 : (its.toArray.isEmpty || k == 1) = false := by rw [hi, Bool.false_or]; exact beq_eq_false_iff_ne.mpr (by omega)
  have c0 : (decide (k < -(2 ^ 63)) || decide (k ≥ 2 ^ 63)) = false := by rw [decide_eq_false (by omega), decide_eq_false (by omega)]; rfl
  rcases h1 with h0 | h1
  · subst h0
    refine wpAny_binaryOp_repeat_ref (T := "tuple") (U := "int") (by decide) ⟨_, ho, rfl⟩ (fun s' => typeIs_int s' 0 t) noFill_tuple_mul F.fills_int_mul F.slot_int_rmul repeat_tuple F.slot_int_index.lookup
      (call_meets F.slot_int_rmul (typeIs_int s 0 t) F.entry_int_rmul (F.args_int_rmul_2 _ _) (int_rmul_tuple 0 t l its.toArray n dd sl)
        ⟨ho, rfl, ⟨_, ho, rfl⟩, call_meets F.slot_tuple_mul ⟨_, ho, rfl⟩ F.entry_tuple_mul (F.args_tuple_mul_2 _ _) (tuple_mul0 l its.toArray n dd sl 0 t c0 c1 rfl) ⟨ho, ?_⟩⟩)
    obtain ⟨I2, hf⟩ := laidU (s := s) (n := 0) (h' := s.heap) (tk := s.toks) (its := []) (xs := []) I .nil (Nat.zero_le _)
    exact ⟨.ref _, _, I2, rfl, q _ _ rfl hf⟩
  · have hm : ((its.toArray.size : Nat) : Int) * k ≤ 1000000 := by
      rw [hsz0]
      have a1 : ((xs.length : Nat) : Int) * k ≤ 1000 * k := Int.mul_le_mul_of_nonneg_right (by omega) (by omega)
      omega
    have flen : (List.replicate k.toNat its).flatten.length ≤ sizeLine := by
      rw [PyProof.Rows.lm_len_rep_flat, hle, sizeLine_eq]
      have a1 : k.toNat * xs.length ≤ 1000 * 1000 := Nat.mul_le_mul (by omega) hz
      omega
    have c2 : (decide (k ≤ 0) || its.toArray.isEmpty) = false := by rw [hi, Bool.or_false]; exact decide_eq_false (by omega)
    have c4 : Builtin.Tuple.tupleTooMany (((its.toArray.size : Nat) : Int) * k) = false := decide_eq_false (by rw [sizeLine_eq]; omega)
    refine wpAny_binaryOp_repeat_ref (T := "tuple") (U := "int") (by decide) ⟨_, ho, rfl⟩ (fun s' => typeIs_int s' k t) noFill_tuple_mul F.fills_int_mul F.slot_int_rmul repeat_tuple F.slot_int_index.lookup
      (call_meets F.slot_int_rmul (typeIs_int s k t) F.entry_int_rmul (F.args_int_rmul_2 _ _) (int_rmul_tuple k t l its.toArray n dd sl) ⟨ho, rfl, ⟨_, ho, rfl⟩,
        call_meets F.slot_tuple_mul ⟨_, ho, rfl⟩ F.entry_tuple_mul (F.args_tuple_mul_2 _ _) (tuple_mulW l its.toArray n dd sl k t c0 c1 c2 (by omega) c4 (by rw [size_rep, List.size_toArray]; exact flen)) ⟨ho, ?_⟩⟩)
    rw [size_rep]
    obtain ⟨I2, hf⟩ := laidU (s := s) (n := 0) (h' := s.heap) (tk := s.toks) I (r.rep k.toNat) (by
      rw [PyProof.Rows.lm_len_rep_flat, sizeLine_eq]
      have a1 : k.toNat * xs.length ≤ 1000 * 1000 := Nat.mul_le_mul (by omega) hz
      omega)
    exact ⟨.ref _, _, I2, rfl, q _ _ rfl hf⟩
/-! ### isinstance -/
/-- of what type a value is -/
def TyU (K : PySem.W.Frag) (H : Hp) (x : V) (t : Value) : Prop := TyOf K H x t ∨ (t = .type "tuple" ∧ ∃ p o vs, x = .ref p ∧ H p = some (.frz o (.tup vs)))
def rIsiU (K : PySem.W.Frag) : List V → Hp → VK → Prop := fun xs H Q => ∃ (x : V) (n m : String) (b : Bool), xs = [x, .ty n] ∧ TyU K H x (.type m) ∧ kitB m n = some b ∧ Q (.bl b) H
theorem call_isiU : CallR X (.builtin "isinstance") (rIsiU X.K) := by
  intro pins s σ H xs us Q I r ⟨x, n, m, b, ex, ty, e, q⟩
  rcases ty with ty | ⟨et, p, o, vs, ep, hp⟩
  · exact call_isi pins s σ H xs us Q I r ⟨x, .ty n, .type m, .type n, b, ex, .ty n, .base ty, kit_ty e, q⟩
  · subst ex ep
    cases et
    obtain ⟨u1, u2, rfl, r1, r2⟩ := vals2 r
    cases r1
    have e2 := (ClsV.ty n).eq r2
    subst e2
    obtain ⟨_, _, _, _, o', h1, h2, _⟩ := (show ObjOk X.prog X.w H s.heap p (.frz o (.tup vs)) from I.hok p _ hp)
    exact PySem.W.kia_one PySem.W.kitx_tuple I.kIn ⟨o', h1, h2⟩ (kit_ty e) (fun z => nomatch z) fun tk => ⟨.bl b, H, I.tok tk, rfl, q⟩
/-! ### methods -/
def tBMU (r : V → List V → Hp → VK → Prop) (to : TE) (t : TA) : TE := fun σ H Q => to σ H fun x H1 => (∃ p o vs, x = .ref p ∧ o.dict = none ∧ H1 p = some (.frz o (.tup vs))) ∧ t σ H1 fun xs H2 => r x xs H2 Q
theorem pe_bmU {o e : Expr} {name : Str} {id : String} {apos cpos : Pos} {r : V → List V → Hp → VK → Prop} {to : TE} (slot : Slot "tuple" name id) (hty : typeOf (.builtin id) = pure (.type "method_descriptor")) (hm : MtR X id r) (ho : PE X o to) (ha : PA X (e :: es) t)
    (hbase : attributeBase o name X.env (eval o X.env) = eval o X.env := by rfl) (hfew : ((backTo cpos (starEach (e :: es) X.env)).all (fun x => !x.1) && (backToKw cpos (keywordEach [] X.env)).all (fun x => x.1.isSome) && decide ((e :: es).length + ([] : List Keyword).length + (if ([] : List Keyword).isEmpty then 0 else 1) < 30)) = true := by rfl)
    (hline : (apos.endLine == cpos.line) = true := by rfl) (hs : starEach (e :: es) X.env = (false, eval e X.env) :: starEach es X.env := by rfl) (hplain : (backTo cpos (starEach es X.env)).any (·.1) = false := by rfl) : PE X (.Call (.Attribute o name apos) (e :: es) [] cpos) (tBMU r to t) := by
  refine ⟨fun pins s σ H Q I h => wpAny_Call_method_late hbase hfew hline rfl (thn (ho.run pins s σ H _ I h) fun v s1 ⟨x, H1, I1, r1, ⟨p, ob, vs, ex, hdn, hp⟩, q1⟩ => ?_)⟩
  subst ex
  cases r1
  obtain ⟨h1, _, _, _, o', h2, h3, _⟩ := (show ObjOk X.prog X.w H1 s1.heap p (.frz ob (.tup vs)) from I1.hok p _ hp)
  refine ⟨"tuple", id, PySem.F.plainAttrs_tuple, slot, hty, ⟨o', h2, h3⟩, fun a ea => by cases ea; exact ⟨ob, h1, hdn⟩, ?_⟩
  have hA := ha.run cpos pins s1 σ H1 _ I1 q1
  rw [hs] at hA ⊢
  refine Calls.callWith_builtin (by show (false || (backTo cpos (starEach es X.env)).any (·.1)) = false; rw [hplain]; rfl) (Calls.evalArgs_plain (thn hA fun us s2 ⟨vs2, H2, I2, r2, q2⟩ => hm pins s2 σ H2 (.ref p) vs2 _ us Q I2 rfl r2 q2))
def rIndexU (K : PySem.W.Frag) : V → List V → Hp → VK → Prop := fun x xs H Q => ∃ (a : Addr) (ys : List V) (y : V) (j : Nat) (z : V), x = V.ref a ∧ xs = [y] ∧ SqT K H a ys ∧ flatV y = true ∧ ys.all flatV = true ∧ ys[j]? = some z ∧ eqV z y = true ∧
  (∀ (m : Nat) (z' : V), m < j → ys[m]? = some z' → eqV z' y = false) ∧ Q (.int (j : Nat)) H
theorem mt_indexU : MtR X "tuple.index" (rIndexU X.K) := by
  intro pins s σ H x xs v us Q I rx rxs ⟨a, ys, y, j, z, e1, e2, hs, fy, fys, hz, hzj, hno, q⟩
  subst e1 e2
  cases rx
  cases rxs with
  | cons ry rt =>
    rename_i uy ut
    cases rt
    obtain ⟨its, rv, ⟨⟨cls, dd, data, sl⟩, ho, hc, n, hd⟩, hlen⟩ := I.tuple hs
    simp only at hc hd
    subst hc hd
    obtain ⟨u, hu, ru⟩ := rv.get hz
    obtain ⟨hjl, hje⟩ := List.getElem?_eq_some_iff.mp hu
    have hvl := rv.length
    have hj : j < its.toArray.size := by simpa using hjl
    refine call_meets PySem.F.slot_tuple_index ⟨_, ho, rfl⟩ PySem.F.entry_tuple_index (PySem.F.args_tuple_index_2 _ _) (TI.tuple_indexAt a its.toArray n dd sl uy (eqU y) j hj ?_ ?_) ⟨ho, fun u' hu' => mem_eqAt ry fy rv fys u' (by simpa using hu'), ?_⟩
    · rw [show its.toArray[j] = u by simpa using hje, eqU_of ru (flat_at fys hz)]
      exact hzj
    · intro m hm hmj
      have hml : m < its.length := by simpa using hm
      have hmy : m < ys.length := by omega
      obtain ⟨u2, hu2, ru2⟩ := rv.get (List.getElem?_eq_getElem hmy)
      obtain ⟨_, hme⟩ := List.getElem?_eq_some_iff.mp hu2
      rw [show its.toArray[m] = u2 by simpa using hme, eqU_of ru2 (flat_at fys (List.getElem?_eq_getElem hmy))]
      exact hno m _ hmj (List.getElem?_eq_getElem hmy)
    · exact ⟨.int (j : Nat), H, I.tok _, ⟨_, rfl⟩, q⟩
def rCountU (K : PySem.W.Frag) : V → List V → Hp → VK → Prop := fun x xs H Q => ∃ (a : Addr) (ys : List V) (y : V), x = V.ref a ∧ xs = [y] ∧ SqT K H a ys ∧ flatV y = true ∧ ys.all flatV = true ∧ Q (.int ((ys.countP fun z => eqV z y : Nat) : Int)) H
theorem count_eqU {x : V} : ∀ {xs : List V} {us : List Value}, Vals xs us → xs.all flatV = true → us.countP (eqU x) = xs.countP fun y => eqV y x
  | _, _, .nil, _ => rfl
  | y :: xs, u :: us, .cons r t, f => by
    rw [List.all_cons, Bool.and_eq_true] at f
    rw [List.countP_cons, List.countP_cons, count_eqU t f.2, eqU_of r f.1]
theorem mt_countU : MtR X "tuple.count" (rCountU X.K) := by
  intro pins s σ H x xs v us Q I rx rxs ⟨a, ys, y, e1, e2, hs, fy, fys, q⟩
  subst e1 e2
  cases rx
  cases rxs with
  | cons ry rt =>
    rename_i uy ut
    cases rt
    obtain ⟨its, rv, ⟨⟨cls, dd, data, sl⟩, ho, hc, n, hd⟩, hlen⟩ := I.tuple hs
    simp only at hc hd
    subst hc hd
    refine call_meets PySem.F.slot_tuple_count ⟨_, ho, rfl⟩ PySem.F.entry_tuple_count (PySem.F.args_tuple_count_2 _ _) (SeqAt.tuple_countAt a its.toArray n dd sl uy (eqU y)) ⟨ho, fun u' hu' => mem_eqAt ry fy rv fys u' (by simpa using hu'), ?_⟩
    refine ⟨.int _, H, I.tok _, ⟨_, rfl⟩, ?_⟩
    rw [show its.toArray.toList.countP (eqU y) = ys.countP fun z => eqV z y from count_eqU rv fys]
    exact q
/-! ### t[::-1] -/
def tRevU (K : PySem.W.Frag) (te : TE) : TE := fun σ H Q => te σ H fun x H1 => ∃ a xs, x = .ref a ∧ SqT K H1 a xs ∧ NewT Q H1 xs.reverse
end
end RtU

set_option maxRecDepth 100000
set_option maxHeartbeats 4000000
/-! Rt1: data over the layer: what a value stands for, frames of data, expressions that give data. -/
namespace Rt
open PySem L2

/-! ### extensions of a heap -/
def Ex (H H' : Hp) : Prop := ∀ a o, H a = some o → H' a = some o
theorem Ex.refl (H : Hp) : Ex H H := fun _ _ h => h
theorem Ex.trans {H H1 H2 : Hp} (a : Ex H H1) (b : Ex H1 H2) : Ex H H2 := fun x o h => b x o (a x o h)
theorem Ex.new {H : Hp} {p : Addr} {o : HO} (h : H p = none) : Ex H (upd H p o) := fun a u e => by
  rw [upd_ne (ne_of_none e h)]
  exact e
theorem Ex.back {H H' : Hp} {p : Addr} (e : Ex H H') (h : H' p = none) : H p = none := by
  cases h1 : H p with
  | none => rfl
  | some o =>
    rw [e p o h1] at h
    cases h
/-- what both lay anew -/
theorem Ex.upd2 {H H' : Hp} {p : Addr} {o : HO} (e : Ex H H') : Ex (upd H p o) (upd H' p o) := fun a u h => by
  by_cases q : a = p
  · subst q
    rw [upd_same] at h ⊢
    exact h
  · rw [upd_ne q] at h ⊢
    exact e a u h
/-- a thing that the lesser heap doesn't know may change -/
theorem Ex.mut {H H' : Hp} {p : Addr} {o : HO} (e : Ex H H') (h : H p = none) : Ex H (upd H' p o) := fun a u ha => by
  rw [upd_ne (ne_of_none ha h)]
  exact e a u ha

/-! ### lists side by side -/
def All2 {α β : Type} (R : α → β → Prop) : List α → List β → Prop
  | [], [] => True
  | a :: as, b :: bs => R a b ∧ All2 R as bs
  | _, _ => False
section
variable {α β γ : Type} {R R' : α → β → Prop}
theorem All2.mono (h : ∀ a b, R a b → R' a b) : ∀ {as : List α} {bs : List β}, All2 R as bs → All2 R' as bs
  | [], [], _ => True.intro
  | a :: as, b :: bs, ⟨x, y⟩ => ⟨h a b x, All2.mono h y⟩
  | [], _ :: _, z => z.elim
  | _ :: _, [], z => z.elim
theorem All2.length : ∀ {as : List α} {bs : List β}, All2 R as bs → as.length = bs.length
  | [], [], _ => rfl
  | a :: as, b :: bs, ⟨x, y⟩ => by rw [List.length_cons, List.length_cons, All2.length y]
  | [], _ :: _, z => z.elim
  | _ :: _, [], z => z.elim
theorem All2.append : ∀ {as cs : List α} {bs ds : List β}, All2 R as bs → All2 R cs ds → All2 R (as ++ cs) (bs ++ ds)
  | [], _, [], _, _, h => h
  | a :: as, _, b :: bs, _, ⟨x, y⟩, h => ⟨x, All2.append y h⟩
  | [], _, _ :: _, _, z, _ => z.elim
  | _ :: _, _, [], _, z, _ => z.elim
theorem All2.get : ∀ {as : List α} {bs : List β} (i : Nat) {b : β}, All2 R as bs → bs[i]? = some b → ∃ a, as[i]? = some a ∧ R a b
  | [], [], _, _, _, h => by simp at h
  | a :: as, b :: bs, 0, c, ⟨x, y⟩, h => by
    simp at h
    subst h
    exact ⟨a, rfl, x⟩
  | a :: as, b :: bs, i + 1, c, ⟨x, y⟩, h => by
    simp at h
    obtain ⟨v, e, r⟩ := All2.get i y h
    exact ⟨v, by simpa using e, r⟩
  | [], _ :: _, _, _, z, _ => z.elim
  | _ :: _, [], _, _, z, _ => z.elim
theorem All2.getL : ∀ {as : List α} {bs : List β} (i : Nat) {a : α}, All2 R as bs → as[i]? = some a → ∃ b, bs[i]? = some b ∧ R a b
  | [], [], _, _, _, h => by simp at h
  | a :: as, b :: bs, 0, c, ⟨x, y⟩, h => by
    simp at h
    subst h
    exact ⟨b, rfl, x⟩
  | a :: as, b :: bs, i + 1, c, ⟨x, y⟩, h => by
    simp at h
    obtain ⟨v, e, r⟩ := All2.getL i y h
    exact ⟨v, by simpa using e, r⟩
  | [], _ :: _, _, _, z, _ => z.elim
  | _ :: _, [], _, _, z, _ => z.elim
theorem All2.take : ∀ (n : Nat) {as : List α} {bs : List β}, All2 R as bs → All2 R (as.take n) (bs.take n)
  | 0, _, _, _ => True.intro
  | n + 1, [], [], _ => True.intro
  | n + 1, a :: as, b :: bs, ⟨x, y⟩ => ⟨x, All2.take n y⟩
  | _ + 1, [], _ :: _, z => z.elim
  | _ + 1, _ :: _, [], z => z.elim
theorem All2.drop : ∀ (n : Nat) {as : List α} {bs : List β}, All2 R as bs → All2 R (as.drop n) (bs.drop n)
  | 0, _, _, h => h
  | n + 1, [], [], _ => True.intro
  | n + 1, a :: as, b :: bs, ⟨x, y⟩ => All2.drop n y
  | _ + 1, [], _ :: _, z => z.elim
  | _ + 1, _ :: _, [], z => z.elim
theorem All2.snoc {as : List α} {bs : List β} {a : α} {b : β} (h : All2 R as bs) (r : R a b) : All2 R (as ++ [a]) (bs ++ [b]) := h.append ⟨r, True.intro⟩
theorem All2.set : ∀ (i : Nat) {as : List α} {bs : List β} {a : α} {b : β}, All2 R as bs → R a b → All2 R (as.set i a) (bs.set i b)
  | _, [], [], _, _, _, _ => True.intro
  | 0, a :: as, b :: bs, _, _, ⟨x, y⟩, r => ⟨r, y⟩
  | i + 1, a :: as, b :: bs, _, _, ⟨x, y⟩, r => ⟨x, All2.set i y r⟩
  | _, [], _ :: _, _, _, z, _ => z.elim
  | _, _ :: _, [], _, _, z, _ => z.elim
theorem All2.map_eq {f : β → α} : ∀ {as : List α} {bs : List β}, All2 (fun a b => a = f b) as bs → as = bs.map f
  | [], [], _ => rfl
  | a :: as, b :: bs, ⟨x, y⟩ => by rw [x, All2.map_eq y]; rfl
  | [], _ :: _, z => z.elim
  | _ :: _, [], z => z.elim
theorem All2.of_map {f : β → α} : ∀ (bs : List β), All2 (fun a b => a = f b) (bs.map f) bs
  | [] => True.intro
  | b :: bs => ⟨rfl, All2.of_map bs⟩
theorem All2.reverse {as : List α} {bs : List β} (h : All2 R as bs) : All2 R as.reverse bs.reverse := by
  induction as generalizing bs with
  | nil => cases bs with | nil => exact True.intro | cons _ _ => exact h.elim
  | cons a as ih => cases bs with | nil => exact h.elim | cons b bs =>
      rw [List.reverse_cons, List.reverse_cons]
      exact (ih h.2).snoc h.1
end

/-! ### what a value stands for -/
structure Rp (α : Type) where
  p : Hp → V → α → Prop
  mono : ∀ {H H' : Hp} {v : V} {a : α}, Ex H H' → p H v a → p H' v a
def qI : Rp Int := ⟨fun _ v a => v = .int a, fun _ h => h⟩
def qB : Rp Bool := ⟨fun _ v a => v = .bl a, fun _ h => h⟩
def qN : Rp Unit := ⟨fun _ v _ => v = .non, fun _ h => h⟩
def qS : Rp Str := ⟨fun _ v a => v = .str a, fun _ h => h⟩
/-- a tuple whose object is known, no attributes of its own -/
def TupAt (H : Hp) (p : Addr) (vs : List V) : Prop := ∃ o : Obj, o.dict = none ∧ H p = some (.frz o (.tup vs))
theorem TupAt.mono {H H' : Hp} {p : Addr} {vs : List V} (e : Ex H H') : TupAt H p vs → TupAt H' p vs := fun ⟨o, h1, h2⟩ => ⟨o, h1, e _ _ h2⟩
theorem TupAt.sq {K : PySem.W.Frag} {H : Hp} {p : Addr} {vs : List V} : TupAt H p vs → SqT K H p vs := fun ⟨o, _, h⟩ => .inl (.inr ⟨o, h⟩)
theorem TupAt.uniq {H : Hp} {p : Addr} {vs ws : List V} : TupAt H p vs → TupAt H p ws → vs = ws := fun ⟨o, _, h⟩ ⟨u, _, h'⟩ => by
  rw [h] at h'
  cases h'
  rfl
theorem TupAt.new {H : Hp} {p : Addr} {o : Obj} {vs : List V} (h : o.dict = none) : TupAt (upd H p (.frz o (.tup vs))) p vs := ⟨o, h, upd_same⟩
/-- a list: k = true; a tuple: k = false -/
def Sq (k : Bool) (H : Hp) (p : Addr) (vs : List V) : Prop := match k with
  | true => H p = some (.lst vs)
  | false => TupAt H p vs
theorem Sq.mono {k : Bool} {H H' : Hp} {p : Addr} {vs : List V} (e : Ex H H') (h : Sq k H p vs) : Sq k H' p vs := by
  cases k with
  | true => exact e _ _ h
  | false => exact TupAt.mono e h
theorem Sq.uniq {k : Bool} {H : Hp} {p : Addr} {vs ws : List V} (h : Sq k H p vs) (h' : Sq k H p ws) : vs = ws := by
  cases k with
  | true =>
    have h : H p = some (.lst vs) := h
    have h' : H p = some (.lst ws) := h'
    rw [h] at h'
    cases h'
    rfl
  | false => exact TupAt.uniq h h'
def qSeq (k : Bool) {α : Type} (r : Rp α) : Rp (List α) :=
  ⟨fun H v xs => ∃ p vs, v = .ref p ∧ Sq k H p vs ∧ All2 (r.p H) vs xs, fun e ⟨p, vs, h1, h2, h3⟩ => ⟨p, vs, h1, h2.mono e, h3.mono fun _ _ q => r.mono e q⟩⟩
abbrev qL {α : Type} (r : Rp α) : Rp (List α) := qSeq true r
abbrev qT {α : Type} (r : Rp α) : Rp (List α) := qSeq false r
def qP {α β : Type} (r : Rp α) (q : Rp β) : Rp (α × β) :=
  ⟨fun H v a => ∃ p x y, v = .ref p ∧ TupAt H p [x, y] ∧ r.p H x a.1 ∧ q.p H y a.2, fun e ⟨p, x, y, h1, h2, h3, h4⟩ => ⟨p, x, y, h1, h2.mono e, r.mono e h3, q.mono e h4⟩⟩
def qP3 {α β γ : Type} (r : Rp α) (q : Rp β) (t : Rp γ) : Rp (α × β × γ) :=
  ⟨fun H v a => ∃ p x y z, v = .ref p ∧ TupAt H p [x, y, z] ∧ r.p H x a.1 ∧ q.p H y a.2.1 ∧ t.p H z a.2.2, fun e ⟨p, x, y, z, h1, h2, h3, h4, h5⟩ => ⟨p, x, y, z, h1, h2.mono e, r.mono e h3, q.mono e h4, t.mono e h5⟩⟩
/-- a pair that a walk makes: its object may be unknown -/
def qW {α β : Type} (r : Rp α) (q : Rp β) : Rp (α × β) :=
  ⟨fun H v a => ∃ p x y, v = .ref p ∧ (H p = some (.tup [x, y]) ∨ TupAt H p [x, y]) ∧ r.p H x a.1 ∧ q.p H y a.2, fun e ⟨p, x, y, h1, h2, h3, h4⟩ => ⟨p, x, y, h1, h2.imp (e _ _) (TupAt.mono e), r.mono e h3, q.mono e h4⟩⟩
theorem sq_seq {K : PySem.W.Frag} {H : Hp} {p : Addr} {k : Bool} {vs : List V} (h : Sq k H p vs) : SqL K H p vs ∨ SqT K H p vs := by
  cases k with
  | true => exact .inl (SqL.of h)
  | false => exact .inr (TupAt.sq h)

/-! ### frames of data -/
/-- what an own object that is no list stands for -/
structure Og (α : Type) where
  p : Hp → HO → α → Prop
  mono : ∀ {H H' : Hp} {u : HO} {a : α}, Ex H H' → p H u a → p H' u a
inductive Sl : Type 1 where
  | un
  /-- data that nobody changes -/
  | im {α : Type} (r : Rp α) (a : α)
  /-- a list of the def's own, that it may change -/
  | ow {α : Type} (r : Rp α) (xs : List α)
  /-- the object at d, that more than one def changes -/
  | iv (d : Addr) (o : HO)
  /-- another object of the def's own (a dict), that it may change -/
  | ob {α : Type} (q : Og α) (a : α)
def SlOk (S H : Hp) (v : Option V) : Sl → Prop
  | .un => True
  | .im r a => ∃ x, v = some x ∧ r.p S x a
  | .ow r xs => ∃ p vs, v = some (.ref p) ∧ S p = none ∧ H p = some (.lst vs) ∧ All2 (r.p S) vs xs
  | .iv d o => ∃ p u, v = some (.ref p) ∧ S p = none ∧ H p = some u ∧ p = d ∧ u = o
  | .ob q a => ∃ p u, v = some (.ref p) ∧ S p = none ∧ H p = some u ∧ q.p S u a
/-- the address of a slot that may change -/
def ownOf : Option V → Sl → List Addr
  | some (.ref p), .ow _ _ => [p]
  | some (.ref p), .iv _ _ => [p]
  | some (.ref p), .ob _ _ => [p]
  | _, _ => []
def SlAll (S H : Hp) : St → List Sl → Prop
  | [], [] => True
  | v :: σ, s :: env => SlOk S H v s ∧ SlAll S H σ env
  | _, _ => False
def owns : St → List Sl → List Addr
  | v :: σ, s :: env => ownOf v s ++ owns σ env
  | _, _ => []
/-- all tuples that stand are among the data that nobody changes -/
def Tc (S H : Hp) : Prop := ∀ b vs, H b = some (.tup vs) → S b ≠ none
theorem Tc.both {S H : Hp} (t : Tc S H) (p : Addr) (o : HO) : Tc (upd S p o) (upd H p o) := fun b vs e => by
  by_cases z : b = p
  · rw [z, upd_same]
    exact fun z => nomatch z
  · rw [upd_ne z] at e ⊢
    exact t b vs e
theorem Tc.up {S H : Hp} (t : Tc S H) {p : Addr} {o : HO} (ho : ∀ vs, o ≠ .tup vs) : Tc S (upd H p o) := fun b vs e => by
  by_cases z : b = p
  · rw [z, upd_same] at e
    exact absurd (Option.some.inj e) (ho vs)
  · rw [upd_ne z] at e
    exact t b vs e
theorem Tc.grow {S S' H : Hp} (t : Tc S H) (e : Ex S S') : Tc S' H := fun b vs h z => by
  cases q : S b with
  | none => exact t b vs h q
  | some o =>
    rw [e _ _ q] at z
    cases z
theorem Tc.get {S H : Hp} (t : Tc S H) (x : Ex S H) {b : Addr} {vs : List V} (h : H b = some (.tup vs)) : S b = some (.tup vs) := by
  cases q : S b with
  | none => exact absurd q (t b vs h)
  | some o =>
    have := x _ _ q
    rw [h] at this
    exact this.symm
structure Cs where
  A0 : List Addr
  S0 : Hp
  H0 : Hp
structure Fr (C : Cs) (S H : Hp) (σ : St) (env : List Sl) : Prop where
  e0 : Ex C.S0 S
  e1 : Ex S H
  e2 : ∀ b o, C.H0 b = some o → b ∉ C.A0 → H b = some o
  nw : ∀ b, C.S0 b = none → C.H0 b ≠ none → S b = none
  al : ∀ b, C.H0 b ≠ none → H b ≠ none
  sl : SlAll S H σ env
  ow : ∀ p ∈ owns σ env, C.H0 p = none ∨ p ∈ C.A0
  nd : (owns σ env).Nodup
  tc : Tc S H

section
variable {C : Cs} {S S' H H' : Hp} {σ : St} {env : List Sl}
theorem SlAll.len : ∀ {σ : St} {env : List Sl}, SlAll S H σ env → σ.length = env.length
  | [], [], _ => rfl
  | _ :: _, _ :: _, ⟨_, h⟩ => by rw [List.length_cons, List.length_cons, SlAll.len h]
  | [], _ :: _, z => z.elim
  | _ :: _, [], z => z.elim
theorem SlAll.get : ∀ {σ : St} {env : List Sl} (i : Nat) {s : Sl}, SlAll S H σ env → env[i]? = some s → ∃ v, σ[i]? = some v ∧ SlOk S H v s
  | [], [], _, _, _, h => by simp at h
  | v :: σ, t :: env, 0, s, ⟨a, b⟩, h => by
    simp at h
    subst h
    exact ⟨v, rfl, a⟩
  | v :: σ, t :: env, i + 1, s, ⟨a, b⟩, h => by
    obtain ⟨w, e, r⟩ := SlAll.get i b (by simpa using h)
    exact ⟨w, by simpa using e, r⟩
  | [], _ :: _, _, _, z, _ => z.elim
  | _ :: _, [], _, _, z, _ => z.elim
theorem SlAll.set : ∀ {σ : St} {env : List Sl} (i : Nat) {v : Option V} {s : Sl}, SlAll S H σ env → SlOk S H v s → SlAll S H (σ.set i v) (env.set i s)
  | [], [], _, _, _, _, _ => True.intro
  | v :: σ, t :: env, 0, _, _, ⟨a, b⟩, h => ⟨h, b⟩
  | v :: σ, t :: env, i + 1, _, _, ⟨a, b⟩, h => ⟨a, SlAll.set i b h⟩
  | [], _ :: _, _, _, _, z, _ => z.elim
  | _ :: _, [], _, _, _, z, _ => z.elim
theorem owns_mem_get : ∀ {σ : St} {env : List Sl} (i : Nat) {p : Addr} {s : Sl}, env[i]? = some s → σ[i]? = some (some (.ref p)) → ownOf (some (.ref p)) s = [p] → p ∈ owns σ env
  | v :: σ, t :: env, 0, p, s, h1, h2, h3 => by
    simp at h1 h2
    subst h1 h2
    unfold owns
    rw [h3]
    simp
  | v :: σ, t :: env, i + 1, p, s, h1, h2, h3 => by
    unfold owns
    exact List.mem_append_right _ (owns_mem_get i (by simpa using h1) (by simpa using h2) h3)
  | [], _, _, _, _, _, h2, _ => by simp at h2
  | _ :: _, [], _, _, _, h1, _, _ => by simp at h1
/-- each slot's own address -/
theorem owns_of : ∀ {σ : St} {env : List Sl} {p : Addr}, p ∈ owns σ env → ∃ (i : Nat) (s : Sl), env[i]? = some s ∧ σ[i]? = some (some (.ref p)) ∧ ownOf (some (.ref p)) s = [p]
  | v :: σ, t :: env, p, h => by
    unfold owns at h
    rcases List.mem_append.mp h with h | h
    · refine ⟨0, t, rfl, ?_, ?_⟩
      · unfold ownOf at h
        split at h <;> simp_all
      · unfold ownOf at h ⊢
        split at h <;> simp_all
    · obtain ⟨i, s, a, b, c⟩ := owns_of h
      exact ⟨i + 1, s, by simpa using a, by simpa using b, c⟩
  | [], _, _, h => by simp [owns] at h
  | _ :: _, [], _, h => by simp [owns] at h
/-- two slots with one own address are one slot -/
theorem owns_inj : ∀ {σ : St} {env : List Sl} {p : Addr} {i j : Nat} {s t : Sl}, (owns σ env).Nodup → env[i]? = some s → σ[i]? = some (some (.ref p)) → ownOf (some (.ref p)) s = [p] → env[j]? = some t → σ[j]? = some (some (.ref p)) → ownOf (some (.ref p)) t = [p] → i = j
  | v :: σ, u :: env, p, 0, 0, s, t, nd, a1, a2, a3, b1, b2, b3 => rfl
  | v :: σ, u :: env, p, 0, j + 1, s, t, nd, a1, a2, a3, b1, b2, b3 => by
    unfold owns at nd
    have m : p ∈ owns σ env := owns_mem_get j (by simpa using b1) (by simpa using b2) b3
    simp at a1 a2
    subst a1 a2
    rw [a3] at nd
    exact absurd m (List.nodup_cons.mp (by simpa using nd)).1
  | v :: σ, u :: env, p, i + 1, 0, s, t, nd, a1, a2, a3, b1, b2, b3 => by
    unfold owns at nd
    have m : p ∈ owns σ env := owns_mem_get i (by simpa using a1) (by simpa using a2) a3
    simp at b1 b2
    subst b1 b2
    rw [b3] at nd
    exact absurd m (List.nodup_cons.mp (by simpa using nd)).1
  | v :: σ, u :: env, p, i + 1, j + 1, s, t, nd, a1, a2, a3, b1, b2, b3 => by
    unfold owns at nd
    have nd2 : (owns σ env).Nodup := (List.nodup_append.mp nd).2.1
    rw [owns_inj (i := i) (j := j) nd2 (by simpa using a1) (by simpa using a2) a3 (by simpa using b1) (by simpa using b2) b3]
  | [], _, _, _, _, _, _, _, _, h, _, _, _, _ => by simp at h
  | _ :: _, [], _, _, _, _, _, _, h, _, _, _, _, _ => by simp at h
/-- the own addresses behind a store -/
theorem owns_set : ∀ {σ : St} {env : List Sl} (i : Nat) {v : Option V} {s : Sl} {p : Addr}, p ∈ owns (σ.set i v) (env.set i s) → p ∈ owns σ env ∨ p ∈ ownOf v s
  | [], _, _, _, _, _, h => by simp [owns] at h
  | _ :: _, [], _, _, _, _, h => by simp [owns] at h
  | w :: σ, t :: env, 0, v, s, p, h => by
    simp only [List.set_cons_zero, owns, List.mem_append] at h ⊢
    rcases h with h | h
    · exact .inr h
    · exact .inl (.inr h)
  | w :: σ, t :: env, i + 1, v, s, p, h => by
    simp only [List.set_cons_succ, owns, List.mem_append] at h ⊢
    rcases h with h | h
    · exact .inl (.inl h)
    · rcases owns_set i h with h | h
      · exact .inl (.inr h)
      · exact .inr h
theorem owns_set_nd : ∀ {σ : St} {env : List Sl} (i : Nat) {v : Option V} {s : Sl}, (owns σ env).Nodup → (∀ p ∈ ownOf v s, p ∉ owns σ env) → (owns (σ.set i v) (env.set i s)).Nodup
  | [], _, _, _, _, h, _ => by simp [owns]
  | _ :: _, [], _, _, _, h, _ => by simp [owns]
  | w :: σ, t :: env, 0, v, s, h, n => by
    simp only [List.set_cons_zero, owns] at h n ⊢
    refine List.nodup_append.mpr ⟨?_, (List.nodup_append.mp h).2.1, fun a ha b hb e => ?_⟩
    · unfold ownOf
      split <;> simp
    · subst e
      exact n a ha (List.mem_append_right _ hb)
  | w :: σ, t :: env, i + 1, v, s, h, n => by
    simp only [List.set_cons_succ, owns] at h n ⊢
    have h2 := List.nodup_append.mp h
    refine List.nodup_append.mpr ⟨h2.1, owns_set_nd i h2.2.1 (fun p hp z => n p hp (List.mem_append_right _ z)), fun a ha b hb e => ?_⟩
    subst e
    rcases owns_set i hb with hb | hb
    · exact h2.2.2 a ha a hb rfl
    · exact n a hb (List.mem_append_left _ ha)
theorem SlAll.setEnv : ∀ {σ : St} {env : List Sl} (i : Nat) {v : Option V} {t : Sl}, SlAll S H σ env → σ[i]? = some v → SlOk S H v t → SlAll S H σ (env.set i t)
  | [], [], _, _, _, _, _, _ => True.intro
  | v :: σ, u :: env, 0, _, _, ⟨a, b⟩, h, q => by
    simp at h
    subst h
    exact ⟨q, b⟩
  | v :: σ, u :: env, i + 1, _, _, ⟨a, b⟩, h, q => ⟨a, SlAll.setEnv i b (by simpa using h) q⟩
  | [], _ :: _, _, _, _, z, _, _ => z.elim
  | _ :: _, [], _, _, _, z, _, _ => z.elim
/-- an own address is none of the frozen part -/
theorem SlAll.own (h : SlAll S H σ env) {p : Addr} (hp : p ∈ owns σ env) : S p = none ∧ ∃ o, H p = some o := by
  obtain ⟨i, s, a, b, c⟩ := owns_of hp
  obtain ⟨v, e, r⟩ := h.get i a
  rw [b] at e
  cases e
  cases s with
  | un => cases c
  | im _ _ => cases c
  | ow r' xs =>
    obtain ⟨q, vs, e1, e2, e3, _⟩ := r
    cases e1
    exact ⟨e2, _, e3⟩
  | iv d0 o0 =>
    obtain ⟨q, o, e1, e2, e3, _⟩ := r
    cases e1
    exact ⟨e2, _, e3⟩
  | ob q0 a0 =>
    obtain ⟨q, o, e1, e2, e3, _⟩ := r
    cases e1
    exact ⟨e2, _, e3⟩
/-- both heaps grow, the own things stand -/
theorem SlOk.mono {v : Option V} {s : Sl} (eS : Ex S S') (eH : Ex H H') (n : ∀ p ∈ ownOf v s, S' p = none) (h : SlOk S H v s) : SlOk S' H' v s := by
  cases s with
  | un => exact True.intro
  | im r a =>
    obtain ⟨x, e, q⟩ := h
    exact ⟨x, e, r.mono eS q⟩
  | ow r xs =>
    obtain ⟨p, vs, e, e2, e3, q⟩ := h
    subst e
    exact ⟨p, vs, rfl, n p (by simp [ownOf]), eH _ _ e3, q.mono fun _ _ z => r.mono eS z⟩
  | iv d0 o0 =>
    obtain ⟨p, o, e, e2, e3, q⟩ := h
    subst e
    exact ⟨p, o, rfl, n p (by simp [ownOf]), eH _ _ e3, q⟩
  | ob q0 a0 =>
    obtain ⟨p, o, e, e2, e3, q⟩ := h
    subst e
    exact ⟨p, o, rfl, n p (by simp [ownOf]), eH _ _ e3, q0.mono eS q⟩
theorem SlAll.mono : ∀ {σ : St} {env : List Sl}, Ex S S' → Ex H H' → (∀ p ∈ owns σ env, S' p = none) → SlAll S H σ env → SlAll S' H' σ env
  | [], [], _, _, _, _ => True.intro
  | v :: σ, s :: env, a, b, n, ⟨x, y⟩ => ⟨x.mono a b (fun p hp => n p (by unfold owns; exact List.mem_append_left _ hp)), SlAll.mono a b (fun p hp => n p (by unfold owns; exact List.mem_append_right _ hp)) y⟩
  | [], _ :: _, _, _, _, z => z.elim
  | _ :: _, [], _, _, _, z => z.elim
/-- a new thing that nobody changes -/
theorem Fr.new (F : Fr C S H σ env) {p : Addr} {o : HO} (hp : H p = none) : Fr C (upd S p o) (upd H p o) σ env := by
  have sp : S p = none := F.e1.back hp
  have hp0 : C.H0 p = none := by
    cases q : C.H0 p with
    | none => rfl
    | some u => exact absurd hp (F.al p (by rw [q]; exact fun z => nomatch z))
  refine ⟨F.e0.trans (Ex.new sp), F.e1.upd2, fun b u e n => ?_, fun b s0 h0 => ?_, fun b h0 => ?_, F.sl.mono (Ex.new sp) (Ex.new hp) fun q hq => ?_, F.ow, F.nd, F.tc.both p o⟩
  · exact Ex.new hp _ _ (F.e2 b u e n)
  · have nb : b ≠ p := fun z => by
      subst z
      exact h0 hp0
    rw [upd_ne nb]
    exact F.nw b s0 h0
  · by_cases z : b = p
    · subst z
      exact absurd hp0 h0
    · rw [upd_ne z]
      exact F.al b h0
  · obtain ⟨a, u, b⟩ := F.sl.own hq
    rw [upd_ne (ne_of_none b hp)]
    exact a
/-- a slot stored: data that nobody changes -/
theorem Fr.setIm (F : Fr C S H σ env) (i : Nat) {α : Type} {r : Rp α} {v : V} {a : α} (h : r.p S v a) : Fr C S H (σ.set i (some v)) (env.set i (.im r a)) := by
  have n0 : ownOf (some v) (Sl.im r a) = [] := by cases v <;> rfl
  exact ⟨F.e0, F.e1, F.e2, F.nw, F.al, F.sl.set i ⟨v, rfl, h⟩, fun p hp => (owns_set i hp).elim (F.ow p) (fun z => by rw [n0] at z; cases z), owns_set_nd i F.nd (fun p hp => by rw [n0] at hp; cases hp), F.tc⟩
/-- .. forgotten -/
theorem Fr.setUn (F : Fr C S H σ env) (i : Nat) (v : Option V) : Fr C S H (σ.set i v) (env.set i .un) := by
  have n0 : ownOf v Sl.un = [] := by cases v with | none => rfl | some v => cases v <;> rfl
  exact ⟨F.e0, F.e1, F.e2, F.nw, F.al, F.sl.set i True.intro, fun p hp => (owns_set i hp).elim (F.ow p) (fun z => by rw [n0] at z; cases z), owns_set_nd i F.nd (fun p hp => by rw [n0] at hp; cases hp), F.tc⟩
/-- a new list of the def's own -/
theorem Fr.setOw (F : Fr C S H σ env) (i : Nat) {α : Type} {r : Rp α} {p : Addr} {vs : List V} {xs : List α} (hp : H p = none) (h : All2 (r.p S) vs xs) :
    Fr C S (upd H p (.lst vs)) (σ.set i (some (.ref p))) (env.set i (.ow r xs)) := by
  have sp : S p = none := F.e1.back hp
  have hp0 : C.H0 p = none := by
    cases q : C.H0 p with
    | none => rfl
    | some u => exact absurd hp (F.al p (by rw [q]; exact fun z => nomatch z))
  have sl : SlAll S (upd H p (.lst vs)) σ env := F.sl.mono (Ex.refl S) (Ex.new hp) fun q hq => (F.sl.own hq).1
  refine ⟨F.e0, F.e1.trans (Ex.new hp), fun b u e n => Ex.new hp _ _ (F.e2 b u e n), F.nw, fun b h0 => ?_, sl.set i ⟨p, vs, rfl, sp, upd_same, h⟩, fun q hq => ?_, owns_set_nd i F.nd (fun q hq z => ?_), F.tc.up fun _ z => nomatch z⟩
  · by_cases z : b = p
    · rw [z, upd_same]
      exact fun z => nomatch z
    · rw [upd_ne z]
      exact F.al b h0
  · rcases owns_set i hq with z | z
    · exact F.ow q z
    · simp [ownOf] at z
      subst z
      exact .inl hp0
  · simp [ownOf] at hq
    subst hq
    obtain ⟨_, o, e⟩ := F.sl.own z
    rw [hp] at e
    cases e
theorem SlAll.mutOne : ∀ {σ : St} {env : List Sl} {i : Nat} {p : Addr} {o : HO} {s t : Sl}, SlAll S H σ env → (owns σ env).Nodup → env[i]? = some s → σ[i]? = some (some (.ref p)) → ownOf (some (.ref p)) s = [p] → SlOk S (upd H p o) (some (.ref p)) t →
    SlAll S (upd H p o) σ (env.set i t)
  | v :: σ, u :: env, 0, p, o, s, t, ⟨a, b⟩, nd, h1, h2, h3, h4 => by
    simp at h1 h2
    subst h1 h2
    unfold owns at nd
    rw [h3] at nd
    have np : p ∉ owns σ env := (List.nodup_cons.mp (by simpa using nd)).1
    refine ⟨h4, ?_⟩
    have key : ∀ {σ : St} {env : List Sl}, p ∉ owns σ env → SlAll S H σ env → SlAll S (upd H p o) σ env := by
      intro σ
      induction σ with
      | nil => intro env n z; cases env with | nil => exact True.intro | cons _ _ => exact z.elim
      | cons w σ ih => intro env n z; cases env with | nil => exact z.elim | cons s env =>
          obtain ⟨z1, z2⟩ := z
          unfold owns at n
          refine ⟨?_, ih (fun q => n (List.mem_append_right _ q)) z2⟩
          have n1 : p ∉ ownOf w s := fun q => n (List.mem_append_left _ q)
          cases s with
          | un => exact True.intro
          | im r a => exact z1
          | ow r xs =>
            obtain ⟨q, vs, e, e2, e3, e4⟩ := z1
            subst e
            have : q ≠ p := fun z => n1 (by rw [z]; simp [ownOf])
            exact ⟨q, vs, rfl, e2, by rw [upd_ne this]; exact e3, e4⟩
          | iv d0 o0 =>
            obtain ⟨q, o2, e, e2, e3, e4⟩ := z1
            subst e
            have : q ≠ p := fun z => n1 (by rw [z]; simp [ownOf])
            exact ⟨q, o2, rfl, e2, by rw [upd_ne this]; exact e3, e4⟩
          | ob q0 a0 =>
            obtain ⟨q, o2, e, e2, e3, e4⟩ := z1
            subst e
            have : q ≠ p := fun z => n1 (by rw [z]; simp [ownOf])
            exact ⟨q, o2, rfl, e2, by rw [upd_ne this]; exact e3, e4⟩
    exact key np b
  | v :: σ, u :: env, i + 1, p, o, s, t, ⟨a, b⟩, nd, h1, h2, h3, h4 => by
    have m : p ∈ owns σ env := owns_mem_get i (by simpa using h1) (by simpa using h2) h3
    have nd' := nd
    unfold owns at nd'
    have n1 : p ∉ ownOf v u := fun z => (List.nodup_append.mp nd').2.2 p z p m rfl
    refine ⟨?_, SlAll.mutOne b (List.nodup_append.mp nd').2.1 (by simpa using h1) (by simpa using h2) h3 h4⟩
    cases u with
    | un => exact True.intro
    | im r a => exact a
    | ow r xs =>
      obtain ⟨q, vs, e, e2, e3, e4⟩ := a
      subst e
      have : q ≠ p := fun z => n1 (by rw [z]; simp [ownOf])
      exact ⟨q, vs, rfl, e2, by rw [upd_ne this]; exact e3, e4⟩
    | iv d0 o0 =>
      obtain ⟨q, o2, e, e2, e3, e4⟩ := a
      subst e
      have : q ≠ p := fun z => n1 (by rw [z]; simp [ownOf])
      exact ⟨q, o2, rfl, e2, by rw [upd_ne this]; exact e3, e4⟩
    | ob q0 a0 =>
      obtain ⟨q, o2, e, e2, e3, e4⟩ := a
      subst e
      have : q ≠ p := fun z => n1 (by rw [z]; simp [ownOf])
      exact ⟨q, o2, rfl, e2, by rw [upd_ne this]; exact e3, e4⟩
  | [], _, _, _, _, _, _, _, _, _, h2, _, _ => by simp at h2
  | _ :: _, [], _, _, _, _, _, _, _, h1, _, _, _ => by simp at h1
theorem owns_same : ∀ {σ : St} {env : List Sl} {i : Nat} {p : Addr} {s t : Sl}, env[i]? = some s → σ[i]? = some (some (.ref p)) → ownOf (some (.ref p)) s = [p] → ownOf (some (.ref p)) t = [p] → owns σ (env.set i t) = owns σ env
  | v :: σ, u :: env, 0, p, s, t, h1, h2, h3, h4 => by
    simp at h1 h2
    subst h1 h2
    simp only [List.set_cons_zero, owns]
    rw [h3, h4]
  | v :: σ, u :: env, i + 1, p, s, t, h1, h2, h3, h4 => by
    simp only [List.set_cons_succ, owns]
    rw [owns_same (by simpa using h1) (by simpa using h2) h3 h4]
  | [], _, _, _, _, _, _, h2, _, _ => by simp at h2
  | _ :: _, [], _, _, _, _, h1, _, _, _ => by simp at h1
/-- a list of the def's own is changed -/
theorem Fr.write (F : Fr C S H σ env) {i : Nat} {α : Type} {r : Rp α} {xs ys : List α} {p : Addr} {vs : List V} (hi : env[i]? = some (.ow r xs)) (hp : σ[i]? = some (some (.ref p))) (h : All2 (r.p S) vs ys) :
    Fr C S (upd H p (.lst vs)) σ (env.set i (.ow r ys)) := by
  have m : p ∈ owns σ env := owns_mem_get i hi hp rfl
  obtain ⟨sp, o, ho⟩ := F.sl.own m
  have eo : owns σ (env.set i (.ow r ys)) = owns σ env := owns_same hi hp rfl rfl
  refine ⟨F.e0, F.e1.mut sp, fun b u e n => ?_, F.nw, fun b h0 => ?_, F.sl.mutOne F.nd hi hp rfl ⟨p, vs, rfl, sp, upd_same, h⟩, by rw [eo]; exact F.ow, by rw [eo]; exact F.nd, F.tc.up fun _ z => nomatch z⟩
  · have nb : b ≠ p := fun z => by
      subst z
      rcases F.ow b m with q | q
      · rw [q] at e
        cases e
      · exact n q
    rw [upd_ne nb]
    exact F.e2 b u e n
  · by_cases z : b = p
    · rw [z, upd_same]
      exact fun z => nomatch z
    · rw [upd_ne z]
      exact F.al b h0
theorem owns_less : ∀ {σ : St} {env : List Sl} {i : Nat} {p : Addr} {s t : Sl}, env[i]? = some s → σ[i]? = some (some (.ref p)) → ownOf (some (.ref p)) s = [p] → ownOf (some (.ref p)) t = [] → (owns σ env).Nodup → p ∉ owns σ (env.set i t) ∧ (owns σ (env.set i t)).Nodup ∧ ∀ q ∈ owns σ (env.set i t), q ∈ owns σ env
  | v :: σ, u :: env, 0, p, s, t, h1, h2, h3, h4, nd => by
    simp at h1 h2
    subst h1 h2
    simp only [List.set_cons_zero, owns] at nd ⊢
    rw [h3] at nd ⊢
    rw [h4]
    have q := List.nodup_cons.mp (show (p :: owns σ env).Nodup by simpa using nd)
    exact ⟨by simpa using q.1, by simpa using q.2, fun q hq => List.mem_append_right _ (by simpa using hq)⟩
  | v :: σ, u :: env, i + 1, p, s, t, h1, h2, h3, h4, nd => by
    have m : p ∈ owns σ env := owns_mem_get i (by simpa using h1) (by simpa using h2) h3
    simp only [List.set_cons_succ, owns] at nd ⊢
    obtain ⟨a, b, c⟩ := owns_less (i := i) (t := t) (by simpa using h1) (by simpa using h2) h3 h4 (List.nodup_append.mp nd).2.1
    have nd2 := List.nodup_append.mp nd
    refine ⟨fun z => ?_, List.nodup_append.mpr ⟨nd2.1, b, fun x hx y hy e => nd2.2.2 x hx y (c y hy) e⟩, fun q hq => ?_⟩
    · rcases List.mem_append.mp z with z | z
      · exact nd2.2.2 p z p m rfl
      · exact a z
    · rcases List.mem_append.mp hq with z | z
      · exact List.mem_append_left _ z
      · exact List.mem_append_right _ (c q z)
  | [], _, _, _, _, _, _, h2, _, _, _ => by simp at h2
  | _ :: _, [], _, _, _, _, h1, _, _, _, _ => by simp at h1
/-- a list of the def's own is changed no more -/
theorem Fr.freeze (F : Fr C S H σ env) {i : Nat} {α : Type} {r : Rp α} {xs : List α} (hi : env[i]? = some (.ow r xs)) (h0 : ∀ p, σ[i]? = some (some (.ref p)) → p ∉ C.A0) :
    ∃ S', Ex S S' ∧ Fr C S' H σ (env.set i (.im (qL r) xs)) := by
  obtain ⟨v, e, p, vs, rfl, sp, hp, h⟩ := F.sl.get i hi
  have m : p ∈ owns σ env := owns_mem_get i hi e rfl
  obtain ⟨l1, l2, l3⟩ := owns_less (t := .im (qL r) xs) hi e rfl rfl F.nd
  have eS : Ex S (upd S p (.lst vs)) := Ex.new sp
  have eH : Ex (upd S p (.lst vs)) H := fun b u q => by
    by_cases z : b = p
    · subst z
      rw [upd_same] at q
      rw [hp]
      exact q
    · rw [upd_ne z] at q
      exact F.e1 b u q
  refine ⟨upd S p (.lst vs), eS, F.e0.trans eS, eH, F.e2, fun b s0 h0' => ?_, F.al, ?_, fun q hq => F.ow q (l3 q hq), l2, F.tc.grow eS⟩
  · by_cases z : b = p
    · subst z
      rcases F.ow b m with q | q
      · exact absurd q h0'
      · exact absurd q (h0 b e)
    · rw [upd_ne z]
      exact F.nw b s0 h0'
  · obtain ⟨u1, u2, u3⟩ := owns_less (t := .un) hi e rfl (by simp [ownOf]) F.nd
    have z0 : SlAll S H σ (env.set i .un) := F.sl.setEnv i e True.intro
    have z1 : SlAll (upd S p (.lst vs)) H σ (env.set i .un) := z0.mono eS (Ex.refl H) fun q hq => by
      have nq : q ≠ p := fun z => u1 (by rw [← z]; exact hq)
      rw [upd_ne nq]
      exact (z0.own hq).1
    have z2 := z1.setEnv (t := .im (qL r) xs) i e ⟨.ref p, rfl, p, vs, rfl, (show upd S p (.lst vs) p = some (.lst vs) from upd_same), h.mono fun _ _ z => r.mono eS z⟩
    rw [List.set_set] at z2
    exact z2
/-- an object of another kind, of the def's own: made, changed, changed no more -/
theorem Fr.setOb (F : Fr C S H σ env) (i : Nat) {α : Type} {q : Og α} {p : Addr} {u : HO} {a : α} (hp : H p = none) (h : q.p S u a) (nt : ∀ vs, u ≠ .tup vs) :
    Fr C S (upd H p u) (σ.set i (some (.ref p))) (env.set i (.ob q a)) := by
  have sp : S p = none := F.e1.back hp
  have hp0 : C.H0 p = none := by
    cases q : C.H0 p with
    | none => rfl
    | some u => exact absurd hp (F.al p (by rw [q]; exact fun z => nomatch z))
  have sl : SlAll S (upd H p u) σ env := F.sl.mono (Ex.refl S) (Ex.new hp) fun q hq => (F.sl.own hq).1
  refine ⟨F.e0, F.e1.trans (Ex.new hp), fun b u e n => Ex.new hp _ _ (F.e2 b u e n), F.nw, fun b h0 => ?_, sl.set i ⟨p, u, rfl, sp, upd_same, h⟩, fun q hq => ?_, owns_set_nd i F.nd (fun q hq z => ?_), F.tc.up nt⟩
  · by_cases z : b = p
    · rw [z, upd_same]
      exact fun z => nomatch z
    · rw [upd_ne z]
      exact F.al b h0
  · rcases owns_set i hq with z | z
    · exact F.ow q z
    · rw [List.mem_singleton.mp (show q ∈ [p] from z)]
      exact .inl hp0
  · rw [List.mem_singleton.mp (show q ∈ [p] from hq)] at z
    obtain ⟨_, o, e⟩ := F.sl.own z
    rw [hp] at e
    cases e
theorem Fr.writeOb (F : Fr C S H σ env) {i : Nat} {α : Type} {q : Og α} {a b : α} {p : Addr} {u : HO} (hi : env[i]? = some (.ob q a)) (hp : σ[i]? = some (some (.ref p))) (h : q.p S u b) (nt : ∀ vs, u ≠ .tup vs) :
    Fr C S (upd H p u) σ (env.set i (.ob q b)) := by
  have m : p ∈ owns σ env := owns_mem_get i hi hp rfl
  obtain ⟨sp, o, ho⟩ := F.sl.own m
  have eo : owns σ (env.set i (.ob q b)) = owns σ env := owns_same hi hp rfl rfl
  refine ⟨F.e0, F.e1.mut sp, fun b u e n => ?_, F.nw, fun b h0 => ?_, F.sl.mutOne F.nd hi hp rfl ⟨p, u, rfl, sp, upd_same, h⟩, by rw [eo]; exact F.ow, by rw [eo]; exact F.nd, F.tc.up nt⟩
  · have nb : b ≠ p := fun z => by
      subst z
      rcases F.ow b m with q | q
      · rw [q] at e
        cases e
      · exact n q
    rw [upd_ne nb]
    exact F.e2 b u e n
  · by_cases z : b = p
    · rw [z, upd_same]
      exact fun z => nomatch z
    · rw [upd_ne z]
      exact F.al b h0
def qOb {α : Type} (q : Og α) : Rp α := ⟨fun H v a => ∃ p u, v = .ref p ∧ H p = some u ∧ q.p H u a, fun e ⟨p, u, h1, h2, h3⟩ => ⟨p, u, h1, e _ _ h2, q.mono e h3⟩⟩
theorem Fr.freezeOb (F : Fr C S H σ env) {i : Nat} {α : Type} {q : Og α} {a : α} (hi : env[i]? = some (.ob q a)) (h0 : ∀ p, σ[i]? = some (some (.ref p)) → p ∉ C.A0) :
    ∃ S', Ex S S' ∧ Fr C S' H σ (env.set i (.im (qOb q) a)) := by
  obtain ⟨v, e, p, u, rfl, sp, hp, h⟩ := F.sl.get i hi
  have m : p ∈ owns σ env := owns_mem_get i hi e rfl
  obtain ⟨l1, l2, l3⟩ := owns_less (t := .im (qOb q) a) hi e rfl rfl F.nd
  have eS : Ex S (upd S p u) := Ex.new sp
  have eH : Ex (upd S p u) H := fun b u2 q2 => by
    by_cases z : b = p
    · subst z
      rw [upd_same] at q2
      rw [hp]
      exact q2
    · rw [upd_ne z] at q2
      exact F.e1 b u2 q2
  refine ⟨upd S p u, eS, F.e0.trans eS, eH, F.e2, fun b s0 h0' => ?_, F.al, ?_, fun q hq => F.ow q (l3 q hq), l2, F.tc.grow eS⟩
  · by_cases z : b = p
    · subst z
      rcases F.ow b m with q | q
      · exact absurd q h0'
      · exact absurd q (h0 b e)
    · rw [upd_ne z]
      exact F.nw b s0 h0'
  · obtain ⟨u1, u2, u3⟩ := owns_less (t := .un) hi e rfl (by simp [ownOf]) F.nd
    have z0 : SlAll S H σ (env.set i .un) := F.sl.setEnv i e True.intro
    have z1 : SlAll (upd S p u) H σ (env.set i .un) := z0.mono eS (Ex.refl H) fun q hq => by
      have nq : q ≠ p := fun z => u1 (by rw [← z]; exact hq)
      rw [upd_ne nq]
      exact (z0.own hq).1
    have z2 := z1.setEnv (t := .im (qOb q) a) i e ⟨.ref p, rfl, p, u, rfl, by rw [upd_same], q.mono eS h⟩
    rw [List.set_set] at z2
    exact z2
end
end Rt

set_option maxRecDepth 100000
set_option maxHeartbeats 4000000
/-! Rt2: expressions that give data. -/
namespace Rt
open PySem L2

/-! ### readings in another dress -/
/-- the lists and tuples that stand are no longer than the line -/
def Lens (H : Hp) : Prop := ∀ a k vs, Sq k H a vs → vs.length ≤ sizeLine
section
variable {X : Cx} {e : Expr} {te te' : TE} {tt tt' : TT} {ta ta' : TA} {ts ts' : TS} {st : Stmt} {ss : List Stmt}
theorem Lens.of {pins : List (Addr × Obj)} {σ : St} {H : Hp} {s : Shared} (I : Inv X pins σ H s) : Lens H := fun a k vs h => by
  cases k with
  | true => exact (show vs.length ≤ sizeLine ∧ _ from I.hok a (.lst vs) h).1
  | false =>
    obtain ⟨o, _, h⟩ := h
    exact (show _ ∧ (vs.length ≤ sizeLine ∧ _) from I.hok a (.frz o (.tup vs)) h).2.1
theorem pe_imp (h : PE X e te) (hi : ∀ σ H Q, Lens H → te' σ H Q → te σ H (fun v H' => Lens H' → Q v H')) : PE X e te' := ⟨fun pins s σ H Q I q =>
  thn (h.run pins s σ H _ I (hi σ H Q (Lens.of I) q)) fun _ _ ⟨v, H', I', r, z⟩ => ⟨v, H', I', r, z (Lens.of I')⟩⟩
theorem pt_imp (h : PT X e tt) (hi : ∀ σ H Q, Lens H → tt' σ H Q → tt σ H (fun v H' => Lens H' → Q v H')) : PT X e tt' := ⟨fun pins s σ H Q I q =>
  thn (h.run pins s σ H _ I (hi σ H Q (Lens.of I) q)) fun _ _ ⟨H', I', z⟩ => ⟨H', I', z (Lens.of I')⟩⟩
theorem pss_imp (h : PSs X ss ts) (hi : ∀ D σ H, Lens H → ts' D σ H → ts D σ H) : PSs X ss ts' := ⟨fun pins s σ H D I q => h.run pins s σ H D I (hi D σ H (Lens.of I) q)⟩
theorem ps_imp (h : PS X st ts) (hi : ∀ D σ H, Lens H → ts' D σ H → ts D σ H) : PS X st ts' := ⟨fun pins s σ H D I q => h.run pins s σ H D I (hi D σ H (Lens.of I) q)⟩
theorem pss_ex {α : Sort _} {ts : α → TS} (h : ∀ a, PSs X ss (ts a)) : PSs X ss (fun D σ H => ∃ a, ts a D σ H) := ⟨fun pins s σ H D I ⟨a, q⟩ => (h a).run pins s σ H D I q⟩
theorem pe_ex {α : Sort _} {te : α → TE} (h : ∀ a, PE X e (te a)) : PE X e (fun σ H Q => ∃ a, te a σ H Q) := ⟨fun pins s σ H Q I ⟨a, q⟩ => (h a).run pins s σ H Q I q⟩
theorem pt_ex {α : Sort _} {te : α → TT} (h : ∀ a, PT X e (te a)) : PT X e (fun σ H Q => ∃ a, te a σ H Q) := ⟨fun pins s σ H Q I ⟨a, q⟩ => (h a).run pins s σ H Q I q⟩
theorem pe_and2 {P : Prop} (h : P → PE X e te) : PE X e (fun σ H Q => P ∧ te σ H Q) := ⟨fun pins s σ H Q I ⟨p, q⟩ => (h p).run pins s σ H Q I q⟩
end


/-! ### what may come of a thing: what has to hold before, for what is wanted behind -/
/-- the items of the object that more than one def changes -/
abbrev Gh := List Int
def W (α : Type) : Type := (g : Gh) → (α → Gh → Prop) → Prop
def W.ret {α : Type} (a : α) : W α := fun g P => P a g
def W.bind {α β : Type} (w : W α) (f : α → W β) : W β := fun g P => w g fun a g1 => f a g1 P
/-- what is reckoned -/
def ofO {α : Type} (o : Option α) : W α := fun g P => ∃ a, o = some a ∧ P a g
def W.get : W Gh := fun g P => P g g
def W.put (g : Gh) : W Unit := fun _ P => P () g
theorem ofO_some {α : Type} (a : α) : ofO (some a) = W.ret a := by
  funext g P
  exact propext (Iff.intro (fun ⟨b, e, h⟩ => (Option.some.inj e) ▸ h) fun h => ⟨a, rfl, h⟩)
theorem ofO_none {α : Type} {g : Gh} {P : α → Gh → Prop} : ¬ ofO (none : Option α) g P := fun ⟨_, e, _⟩ => nomatch e
theorem ofO_bind {α β : Type} (o : Option α) (f : α → Option β) : ofO (o.bind f) = (ofO o).bind fun a => ofO (f a) := by
  funext g P
  apply propext
  cases o with
  | none => exact Iff.intro (fun ⟨_, e, _⟩ => nomatch e) (fun ⟨_, e, _⟩ => nomatch e)
  | some a => exact Iff.intro (fun h => ⟨a, rfl, h⟩) (fun ⟨b, e, h⟩ => (Option.some.inj e) ▸ h)
theorem ofO_if {α : Type} (b : Bool) (x y : Option α) : ofO (if b = true then x else y) = if b = true then ofO x else ofO y := by cases b <;> rfl
theorem W.ret_bind {α β : Type} (a : α) (f : α → W β) : (W.ret a).bind f = f a := rfl
theorem W.bind_ret {α : Type} (w : W α) : w.bind W.ret = w := rfl
theorem W.bind_assoc {α β γ : Type} (w : W α) (f : α → W β) (g : β → W γ) : (w.bind f).bind g = w.bind fun a => (f a).bind g := rfl

/-! ### judgements -/
section
variable (C : Cs) (env : Gh → List Sl)
def tE {α : Type} (r : Rp α) (m : W α) : TE := fun σ H Q => ∃ S g P, Fr C S H σ (env g) ∧ m g P ∧ ∀ a g', P a g' → ∀ v S' H', Fr C S' H' σ (env g') → Ex S S' → r.p S' v a → Q v H'
def tT (m : W Bool) : TT := fun σ H Q => ∃ S g P, Fr C S H σ (env g) ∧ m g P ∧ ∀ b g', P b g' → ∀ S' H', Fr C S' H' σ (env g') → Ex S S' → Q b H'
/-- a list (k) or a tuple, to be read as long as the frame's data stand -/
def Rdb (k : Bool) {α : Type} (r : Rp α) (xs : List α) (σ : St) (S : Hp) (p : Addr) : Prop := ∀ g S2 H2, Fr C S2 H2 σ (env g) → Ex S S2 → ∃ vs, Sq k H2 p vs ∧ All2 (r.p S2) vs xs
def tQ (k : Bool) {α : Type} (r : Rp α) (m : W (List α)) : TE := fun σ H Q => ∃ S g P, Fr C S H σ (env g) ∧ m g P ∧ ∀ xs g', P xs g' → ∀ p S' H', Fr C S' H' σ (env g') → Ex S S' → Rdb C env k r xs σ S' p → Q (.ref p) H'
/-- a new list -/
def tN {α : Type} (r : Rp α) (m : W (List α)) : TE := fun σ H Q => ∃ S g P, Fr C S H σ (env g) ∧ m g P ∧ ∀ xs g', P xs g' → ∀ p vs S' H', Fr C S' H' σ (env g') → Ex S S' → H' p = none → All2 (r.p S') vs xs → Q (.ref p) (upd H' p (.lst vs))
end
section
variable {X : Cx} {C : Cs} {env : Gh → List Sl} {e a b c : Expr} {pos : Pos} {α β γ : Type} {r ra : Rp α} {rb : Rp β} {rc : Rp γ} {ma : W α} {mb : W β} {k : Bool}

theorem tE_len {m : W α} (h : PE X e (tE C env r m)) : PE X e (fun σ H Q => tE C env r m σ H (fun v H' => Lens H' → Q v H')) := pe_imp h fun σ H Q _ ⟨S, g0, P, F, em, q⟩ => ⟨S, g0, P, F, em, fun a g' pa v S' H' F' eS hr l => q a _ pa v S' H' F' eS hr l⟩
theorem tQ_len {m : W (List α)} (h : PE X e (tQ C env k r m)) : PE X e (fun σ H Q => tQ C env k r m σ H (fun v H' => Lens H' → Q v H')) := pe_imp h fun σ H Q _ ⟨S, g0, P, F, em, q⟩ => ⟨S, g0, P, F, em, fun a g' pa v S' H' F' eS hr l => q a _ pa v S' H' F' eS hr l⟩
theorem xe_N {m : W (List α)} (h : PE X e (tN C env r m)) : PE X e (tE C env (qL r) m) := pe_imp h fun σ H Q _ ⟨S, g0, P, F, em, q⟩ => ⟨S, g0, P, F, em, fun xs g' px p vs S' H' F' eS hp ha _ => by
  have sp : S' p = none := F'.e1.back hp
  refine q xs _ px _ _ _ (F'.new (o := .lst vs) hp) (eS.trans (Ex.new sp)) ⟨p, vs, rfl, upd_same, ha.mono fun _ _ z => r.mono (Ex.new sp) z⟩⟩
theorem xq_im {m : W (List α)} (h : PE X e (tE C env (qSeq k r) m)) : PE X e (tQ C env k r m) := pe_imp h fun σ H Q _ ⟨S, g0, P, F, em, q⟩ => ⟨S, g0, P, F, em, fun xs g' px v S' H' F' eS ⟨p, vs, ev, hp, ha⟩ _ => by
  subst ev
  exact q xs _ px p S' H' F' eS fun _ S2 H2 F2 e2 => ⟨vs, (hp.mono e2).mono F2.e1, ha.mono fun _ _ z => r.mono e2 z⟩⟩
theorem xq_own {i : Nat} {xs : List α} {x : Str} (h : PE X (.Name x pos) (tVar i)) (he : ∀ g, (env g)[i]? = some (.ow r xs) := by intro _; rfl) : PE X (.Name x pos) (tQ C env true r (.ret xs)) := pe_imp h fun σ H Q _ ⟨S, g0, P, F, em, q⟩ => by
  obtain ⟨v, ev, p, vs, e1, _, e3, ha⟩ := F.sl.get i (he _)
  subst e1
  refine ⟨.ref p, ev, fun _ => q xs _ em p S H F (Ex.refl S) fun _ S2 H2 F2 e2 => ?_⟩
  obtain ⟨v2, ev2, p2, vs2, e12, _, e32, ha2⟩ := F2.sl.get i (he _)
  subst e12
  rw [ev] at ev2
  cases ev2
  exact ⟨vs2, e32, ha2⟩

/-! ### names, constants -/
theorem xe_var {i : Nat} {x : Str} {a : α} (h : PE X (.Name x pos) (tVar i)) (he : ∀ g, (env g)[i]? = some (.im r a) := by intro _; rfl) : PE X (.Name x pos) (tE C env r (.ret a)) := pe_imp h fun σ H Q _ ⟨S, g0, P, F, em, q⟩ => by
  obtain ⟨v, ev, x, e1, hr⟩ := F.sl.get i (he _)
  subst e1
  exact ⟨x, ev, fun _ => q a _ em x S H F (Ex.refl S) hr⟩
theorem xe_c {v : V} {a : α} (h : PE X e (tC v)) (hr : ∀ H, r.p H v a) : PE X e (tE C env r (.ret a)) := pe_imp h fun σ H Q _ ⟨S, g0, P, F, em, q⟩ => fun _ => q a _ em v S H F (Ex.refl S) (hr S)
theorem xe_int {i : Int} {j : Nat} : PE X (.Constant (.int i) j pos) (tE C env qI (.ret i)) := xe_c pe_int fun _ => rfl
theorem xe_bl {b : Bool} {j : Nat} : PE X (.Constant (.bool b) j pos) (tE C env qB (.ret b)) := xe_c pe_bl fun _ => rfl
theorem xe_str {x : Str} {j : Nat} : PE X (.Constant (.str x) j pos) (tE C env qS (.ret x)) := xe_c pe_str fun _ => rfl
theorem xe_non {j : Nat} : PE X (.Constant .none j pos) (tE C env qN (.ret ())) := xe_c pe_non fun _ => rfl
theorem xe_gint {x : Str} {i : Int} {t : Tok} (hg : Gl X x) (hm : X.mg x = some (.int i t)) (hd : (x == ("__debug__" : Str)) = false := by decide) : PE X (.Name x pos) (tE C env qI (.ret i)) := xe_c (pe_glob (v := .int i) hg hm ⟨t, rfl⟩ hd) fun _ => rfl

/-! ### operators -/
theorem xe_op {op : Operator} {R : R2} {f : α → β → Option γ} (ho : OpR X (binaryOp op) R) (ha : PE X a (tE C env ra ma)) (hb : PE X b (tE C env rb mb))
    (hr : ∀ (e0 : List Sl) S H σ x y p q z Q, Fr C S H σ e0 → Lens H → ra.p S x p → rb.p S y q → f p q = some z → (∀ v S' H', Fr C S' H' σ e0 → Ex S S' → rc.p S' v z → Q v H') → R x y H Q) :
    PE X (.BinOp a op b pos) (tE C env rc (ma.bind fun p => mb.bind fun q => ofO (f p q))) :=
  pe_imp (pe_op ho ha (tE_len hb)) fun σ H Q _ ⟨S, g0, P, F, em, q⟩ =>
    ⟨S, g0, _, F, em, fun p g1 hp x S1 H1 F1 e1 hx => ⟨S1, g1, _, F1, hp, fun w g2 ⟨z, ez, pz⟩ y S2 H2 F2 e2 hy l2 =>
      hr _ S2 H2 σ x y p w z _ F2 l2 (ra.mono e2 hx) hy ez fun v S' H' F' e' hv _ => q z _ pz v S' H' F' (e1.trans (e2.trans e')) hv⟩⟩
/-- ints in, an int or a bool out -/
theorem xe_opI {op : Operator} {g : Int → Int → γ} {G : Int → Int → V} {ma mb : W Int} (ho : OpR X (binaryOp op) (rI0 G)) (ha : PE X a (tE C env qI ma)) (hb : PE X b (tE C env qI mb)) (hg : ∀ H i j, rc.p H (G i j) (g i j)) :
    PE X (.BinOp a op b pos) (tE C env rc (ma.bind fun p => mb.bind fun q => .ret (g p q))) :=
  pe_imp (pe_op ho ha hb) fun σ H Q _ ⟨S, g0, P, F, em, q⟩ =>
    ⟨S, g0, _, F, em, fun p g1 hp x S1 H1 F1 e1 hx => ⟨S1, g1, _, F1, hp, fun w g2 pz y S2 H2 F2 e2 hy => ⟨p, w, hx, hy, fun _ => q _ _ pz _ S2 H2 F2 (e1.trans e2) (hg S2 p w)⟩⟩⟩
theorem xe_opC {op : Operator} {Cd : Int → Int → Prop} {g : Int → Int → Option γ} {G : Int → Int → V} {ma mb : W Int} (ho : OpR X (binaryOp op) (rI Cd G)) (ha : PE X a (tE C env qI ma)) (hb : PE X b (tE C env qI mb))
    (hg : ∀ H i j z, g i j = some z → Cd i j ∧ rc.p H (G i j) z) : PE X (.BinOp a op b pos) (tE C env rc (ma.bind fun p => mb.bind fun q => ofO (g p q))) :=
  xe_op ho ha hb fun _ S H σ x y p q z Q F _ hx hy ez k => ⟨p, q, hx, hy, (hg S p q z ez).1, k _ S H F (Ex.refl S) (hg S p q z ez).2⟩
/-- products of together less than a million bits -/
def mulC (i j : Int) : Option Int := if i.natAbs.log2 + j.natAbs.log2 < 1000000 then some (i * j) else none
/-- quotients by a divisor below 2 ^ 9000 -/
def divC (i j : Int) : Option Int := if 0 < j ∧ j.natAbs.log2 < 9000 then some (i / j) else if j < 0 ∧ j.natAbs.log2 < 9000 then some (i.fdiv j) else none
def modC (i j : Int) : Option Int := if 0 < j then some (i % j) else if j < 0 then some (i.fmod j) else none
def powC (i j : Int) : Option Int := if 0 ≤ j ∧ j ≤ 1000000 ∧ i.natAbs < 2 ^ 64 then some (i ^ j.toNat) else none
theorem op_fdivA : OpR X (binaryOp .FloorDiv) (rI (fun _ j => j ≠ 0 ∧ j.natAbs.log2 < 9000) fun i j => .int (i.fdiv j)) := opI fun i j _ _ _ _ _ hc q => PyProof.Rows.floordiv_int hc.1 q (.inl (PyProof.noPylong_of_log2 hc.2))
variable {mi mj : W Int}
theorem xe_add (ha : PE X a (tE C env qI mi)) (hb : PE X b (tE C env qI mj)) : PE X (.BinOp a .Add b pos) (tE C env qI (mi.bind fun p => mj.bind fun q => .ret (p + q))) := xe_opI op_add ha hb fun _ _ _ => rfl
theorem xe_sub (ha : PE X a (tE C env qI mi)) (hb : PE X b (tE C env qI mj)) : PE X (.BinOp a .Sub b pos) (tE C env qI (mi.bind fun p => mj.bind fun q => .ret (p - q))) := xe_opI op_sub ha hb fun _ _ _ => rfl
theorem xe_mul (ha : PE X a (tE C env qI mi)) (hb : PE X b (tE C env qI mj)) : PE X (.BinOp a .Mult b pos) (tE C env qI (mi.bind fun p => mj.bind fun q => ofO (mulC p q))) := xe_opC op_mulW ha hb fun H i j z ez => by
  unfold mulC at ez
  split at ez
  · rename_i h
    cases ez
    exact ⟨h, rfl⟩
  · cases ez
theorem xe_fdiv (ha : PE X a (tE C env qI mi)) (hb : PE X b (tE C env qI mj)) : PE X (.BinOp a .FloorDiv b pos) (tE C env qI (mi.bind fun p => mj.bind fun q => ofO (divC p q))) := xe_opC op_fdivA ha hb fun H i j z ez => by
  unfold divC at ez
  split at ez
  · rename_i h
    cases ez
    refine ⟨⟨by omega, h.2⟩, ?_⟩
    show V.int (i.fdiv j) = V.int (i / j)
    rw [Int.fdiv_eq_ediv_of_nonneg i (by omega)]
  · split at ez
    · rename_i h
      cases ez
      exact ⟨⟨by omega, h.2⟩, rfl⟩
    · cases ez
theorem xe_mod (ha : PE X a (tE C env qI mi)) (hb : PE X b (tE C env qI mj)) : PE X (.BinOp a .Mod b pos) (tE C env qI (mi.bind fun p => mj.bind fun q => ofO (modC p q))) := xe_opC op_modN ha hb fun H i j z ez => by
  unfold modC at ez
  split at ez
  · rename_i h
    cases ez
    refine ⟨by omega, ?_⟩
    show V.int (i.fmod j) = V.int (i % j)
    rw [Int.fmod_eq_emod_of_nonneg i (by omega)]
  · split at ez
    · cases ez
      exact ⟨by omega, rfl⟩
    · cases ez
theorem xe_pow (ha : PE X a (tE C env qI mi)) (hb : PE X b (tE C env qI mj)) : PE X (.BinOp a .Pow b pos) (tE C env qI (mi.bind fun p => mj.bind fun q => ofO (powC p q))) := xe_opC op_pow ha hb fun H i j z ez => by
  unfold powC at ez
  split at ez
  · rename_i h
    cases ez
    exact ⟨h, rfl⟩
  · cases ez
theorem xe_neg (ha : PE X a (tE C env qI mi)) : PE X (.UnaryOp .USub a pos) (tE C env qI (mi.bind fun p => .ret (-p))) := pe_imp (pe_un un_neg ha) fun σ H Q _ ⟨S, g0, P, F, em, q⟩ =>
  ⟨S, g0, _, F, em, fun p g1 hp v S1 H1 F1 e1 hv => ⟨p, hv, fun _ => q _ _ hp _ S1 H1 F1 e1 rfl⟩⟩

/-! ### comparisons: as values, as tests -/
theorem xe_cmp {op : CmpOp} {R : R2} {f : α → β → Option Bool} (ho : OpR X (compareOp op) R) (ha : PE X a (tE C env ra ma)) (hb : PE X b (tE C env rb mb)) (hm : behindInMarks op b = false)
    (hr : ∀ (e0 : List Sl) S H σ x y p q z Q, Fr C S H σ e0 → Lens H → ra.p S x p → rb.p S y q → f p q = some z → (∀ S' H', Fr C S' H' σ e0 → Ex S S' → Q (.bl z) H') → R x y H Q) :
    PE X (.Compare a [op] [b] pos) (tE C env qB (ma.bind fun p => mb.bind fun q => ofO (f p q))) :=
  pe_imp (pe_cmpR ho ha (tE_len hb) hm) fun σ H Q _ ⟨S, g0, P, F, em, q⟩ =>
    ⟨S, g0, _, F, em, fun p g1 hp x S1 H1 F1 e1 hx => ⟨S1, g1, _, F1, hp, fun w g2 ⟨z, ez, pz⟩ y S2 H2 F2 e2 hy l2 =>
      hr _ S2 H2 σ x y p w z _ F2 l2 (ra.mono e2 hx) hy ez fun S' H' F' e' _ => q z _ pz _ S' H' F' (e1.trans (e2.trans e')) rfl⟩⟩
theorem xt_cmp {op : CmpOp} {R : R2} {f : α → β → Option Bool} (ho : OpR X (compareOp op) R) (ha : PE X a (tE C env ra ma)) (hb : PE X b (tE C env rb mb)) (hm : behindInMarks op b = false)
    (hr : ∀ (e0 : List Sl) S H σ x y p q z Q, Fr C S H σ e0 → Lens H → ra.p S x p → rb.p S y q → f p q = some z → (∀ S' H', Fr C S' H' σ e0 → Ex S S' → Q (.bl z) H') → R x y H Q) :
    PT X (.Compare a [op] [b] pos) (tT C env (ma.bind fun p => mb.bind fun q => ofO (f p q))) :=
  pt_imp (pt_cmpR ho ha (tE_len hb) hm) fun σ H Q _ ⟨S, g0, P, F, em, q⟩ =>
    ⟨S, g0, _, F, em, fun p g1 hp x S1 H1 F1 e1 hx => ⟨S1, g1, _, F1, hp, fun w g2 ⟨z, ez, pz⟩ y S2 H2 F2 e2 hy l2 =>
      hr _ S2 H2 σ x y p w z _ F2 l2 (ra.mono e2 hx) hy ez fun S' H' F' e' => ⟨z, rfl, fun _ => q z _ pz S' H' F' (e1.trans (e2.trans e'))⟩⟩⟩
/-- a comparison of data by its rule: what it asks, what it answers -/
def CmpD (X : Cx) (C : Cs) (op : CmpOp) (ra : Rp α) (rb : Rp β) (f : α → β → Option Bool) : Prop := ∃ R, OpR X (compareOp op) R ∧
  ∀ (e0 : List Sl) S H σ x y p q z Q, Fr C S H σ e0 → Lens H → ra.p S x p → rb.p S y q → f p q = some z → (∀ S' H', Fr C S' H' σ e0 → Ex S S' → Q (.bl z) H') → R x y H Q
theorem xe_cmpD {op : CmpOp} {f : α → β → Option Bool} (h : CmpD X C op ra rb f) (ha : PE X a (tE C env ra ma)) (hb : PE X b (tE C env rb mb)) (hm : behindInMarks op b = false) : PE X (.Compare a [op] [b] pos) (tE C env qB (ma.bind fun p => mb.bind fun q => ofO (f p q))) :=
  let ⟨_, h1, h2⟩ := h
  xe_cmp h1 ha hb hm h2
theorem xt_cmpD {op : CmpOp} {f : α → β → Option Bool} (h : CmpD X C op ra rb f) (ha : PE X a (tE C env ra ma)) (hb : PE X b (tE C env rb mb)) (hm : behindInMarks op b = false) : PT X (.Compare a [op] [b] pos) (tT C env (ma.bind fun p => mb.bind fun q => ofO (f p q))) :=
  let ⟨_, h1, h2⟩ := h
  xt_cmp h1 ha hb hm h2
theorem cd_I {op : CmpOp} {g : Int → Int → Bool} (ho : OpR X (compareOp op) (rI0 fun i j => .bl (g i j))) : CmpD X C op qI qI fun i j => some (g i j) :=
  ⟨_, ho, fun _ S H σ x y p q z Q F _ hx hy ez k => ⟨p, q, hx, hy, by cases ez; exact k S H F (Ex.refl S)⟩⟩
theorem cd_lt : CmpD X C .Lt qI qI fun i j => some (decide (i < j)) := cd_I op_lt
theorem cd_le : CmpD X C .LtE qI qI fun i j => some (decide (i ≤ j)) := cd_I op_le
theorem cd_gt : CmpD X C .Gt qI qI fun i j => some (decide (j < i)) := cd_I op_gt
theorem cd_ge : CmpD X C .GtE qI qI fun i j => some (decide (j ≤ i)) := cd_I op_ge
theorem cd_eqI : CmpD X C .Eq qI qI fun i j => some (decide (i = j)) := ⟨_, op_eq, fun _ S H σ x y p q z Q F _ hx hy ez k => by
  rw [show x = V.int p from hx, show y = V.int q from hy]
  refine ⟨rfl, ?_⟩
  cases ez
  have e : decide (V.int p = V.int q) = decide (p = q) := by
    rw [Bool.eq_iff_iff]
    simp
  rw [e]
  exact k S H F (Ex.refl S)⟩
theorem cd_neI : CmpD X C .NotEq qI qI fun i j => some (!decide (i = j)) := ⟨_, op_ne, fun _ S H σ x y p q z Q F _ hx hy ez k => by
  rw [show x = V.int p from hx, show y = V.int q from hy]
  refine ⟨rfl, ?_⟩
  cases ez
  have e : decide (V.int p = V.int q) = decide (p = q) := by
    rw [Bool.eq_iff_iff]
    simp
  rw [e]
  exact k S H F (Ex.refl S)⟩

/-! ### truth, and, or, not, if -/
theorem xt_val {m : W Bool} (h : PE X e (tE C env qB m)) (he : ∀ whole, isTrue e X.env whole = (do let v ← whole; standAt e.pos; holding [v] (truthy v)) := by intro _; rfl) : PT X e (tT C env m) :=
  pt_imp (pt_val h he) fun σ H Q _ ⟨S, g0, P, F, em, q⟩ => ⟨S, g0, P, F, em, fun b g' pb v S' H' F' eS hv => ⟨b, hv, fun _ => q b _ pb S' H' F' eS⟩⟩
theorem xt_not {m : W Bool} (h : PT X e (tT C env m)) : PT X (.UnaryOp .Not e pos) (tT C env (m.bind fun b => .ret !b)) := pt_imp (pt_not h) fun σ H Q _ ⟨S, g0, P, F, em, q⟩ =>
  ⟨S, g0, _, F, em, fun b g' pb S' H' F' eS _ => q _ _ pb S' H' F' eS⟩
theorem xe_not {m : W Bool} (h : PE X e (tE C env qB m)) : PE X (.UnaryOp .Not e pos) (tE C env qB (m.bind fun b => .ret !b)) := pe_imp (pe_not h) fun σ H Q _ ⟨S, g0, P, F, em, q⟩ =>
  ⟨S, g0, _, F, em, fun b g' pb v S' H' F' eS hv => ⟨b, hv, fun _ => q _ _ pb _ S' H' F' eS rfl⟩⟩
variable {es : List Expr} {m1 m2 : W Bool}
/-- a chain of and, or: as tests -/
theorem xw_and1 (ha : PT X a (tT C env m1)) : PW X (.BoolOp .And [a] pos) (tT C env m1) := pw_and1 ha
theorem xw_or1 (ha : PT X a (tT C env m1)) : PW X (.BoolOp .Or [a] pos) (tT C env m1) := pw_or1 ha
theorem pw_imp {tt tt' : TT} (h : PW X e tt) (hi : ∀ σ H Q, Lens H → tt' σ H Q → tt σ H (fun v H' => Lens H' → Q v H')) : PW X e tt' := ⟨fun w pins s σ H Q I q =>
  thn (h.run w pins s σ H _ I (hi σ H Q (Lens.of I) q)) fun _ _ ⟨H', I', z⟩ => ⟨H', I', z (Lens.of I')⟩⟩
theorem xw_and (ha : PT X a (tT C env m1)) (hb : PW X (.BoolOp .And (b :: es) pos) (tT C env m2)) : PW X (.BoolOp .And (a :: b :: es) pos) (tT C env (m1.bind fun p => if p = true then m2 else .ret false)) :=
  pw_imp (pw_and ha hb) fun σ H Q _ ⟨S, g0, P, F, em, q⟩ => ⟨S, g0, _, F, em, fun p g' hp S' H' F' eS => by
    cases p with
    | true => exact ⟨S', g', _, F', hp, fun b g2 pb S2 H2 F2 e2 _ => q b _ pb S2 H2 F2 (eS.trans e2)⟩
    | false => exact fun _ => q _ _ hp S' H' F' eS⟩
theorem xw_or (ha : PT X a (tT C env m1)) (hb : PW X (.BoolOp .Or (b :: es) pos) (tT C env m2)) : PW X (.BoolOp .Or (a :: b :: es) pos) (tT C env (m1.bind fun p => if p = true then .ret true else m2)) :=
  pw_imp (pw_or ha hb) fun σ H Q _ ⟨S, g0, P, F, em, q⟩ => ⟨S, g0, _, F, em, fun p g' hp S' H' F' eS => by
    cases p with
    | false => exact ⟨S', g', _, F', hp, fun b g2 pb S2 H2 F2 e2 _ => q b _ pb S2 H2 F2 (eS.trans e2)⟩
    | true => exact fun _ => q _ _ hp S' H' F' eS⟩
/-- .. as values: all but the last a bool -/
theorem xe_and {m3 : W α} {f : Bool → α} (ha : PE X a (tE C env qB m1)) (hb : PE X (.BoolOp .And (b :: es) pos) (tE C env r m3)) (h0 : ∀ H, r.p H (.bl false) (f false)) : PE X (.BoolOp .And (a :: b :: es) pos) (tE C env r (m1.bind fun p => if p = true then m3 else .ret (f false))) :=
  pe_imp (pe_and ha hb) fun σ H Q _ ⟨S, g0, P, F, em, q⟩ => ⟨S, g0, _, F, em, fun p g' hp v S' H' F' eS hv => ⟨p, hv, by
    cases p with
    | true => exact ⟨S', g', _, F', hp, fun b g2 pb v S2 H2 F2 e2 hv _ => q b _ pb v S2 H2 F2 (eS.trans e2) hv⟩
    | false => exact fun _ => q _ _ hp _ S' H' F' eS (h0 S')⟩⟩
theorem xe_andB (ha : PE X a (tE C env qB m1)) (hb : PE X (.BoolOp .And (b :: es) pos) (tE C env qB m2)) : PE X (.BoolOp .And (a :: b :: es) pos) (tE C env qB (m1.bind fun p => if p = true then m2 else .ret false)) := xe_and (f := id) ha hb fun _ => rfl
theorem xe_orB (ha : PE X a (tE C env qB m1)) (hb : PE X (.BoolOp .Or (b :: es) pos) (tE C env qB m2)) : PE X (.BoolOp .Or (a :: b :: es) pos) (tE C env qB (m1.bind fun p => if p = true then .ret true else m2)) :=
  pe_imp (pe_or ha hb) fun σ H Q _ ⟨S, g0, P, F, em, q⟩ => ⟨S, g0, _, F, em, fun p g' hp v S' H' F' eS hv => ⟨p, hv, by
    cases p with
    | false => exact ⟨S', g', _, F', hp, fun b g2 pb v S2 H2 F2 e2 hv _ => q b _ pb v S2 H2 F2 (eS.trans e2) hv⟩
    | true => exact fun _ => q _ _ hp _ S' H' F' eS rfl⟩⟩
theorem xe_one {op : BoolOp} {m : W α} (h : PE X a (tE C env r m)) : PE X (.BoolOp op [a] pos) (tE C env r m) := pe_one h
/-- a if c else b -/
theorem xe_if {m3 m4 : W α} (hc : PT X c (tT C env m1)) (ha : PE X a (tE C env r m3)) (hb : PE X b (tE C env r m4)) : PE X (.IfExp c a b pos) (tE C env r (m1.bind fun p => if p = true then m3 else m4)) :=
  pe_imp (pe_ifExp hc ha hb) fun σ H Q _ ⟨S, g0, P, F, em, q⟩ => ⟨S, g0, _, F, em, fun p g' hp S' H' F' eS => by
    cases p with
    | false => exact ⟨S', g', _, F', hp, fun b g2 pb v S2 H2 F2 e2 hv _ => q b _ pb v S2 H2 F2 (eS.trans e2) hv⟩
    | true => exact ⟨S', g', _, F', hp, fun b g2 pb v S2 H2 F2 e2 hv _ => q b _ pb v S2 H2 F2 (eS.trans e2) hv⟩⟩
/-- a op b op' c -/
theorem xe_chainD {op op' : CmpOp} {f : α → β → Option Bool} {g : β → γ → Option Bool} {mc : W γ} (d1 : CmpD X C op ra rb f) (d2 : CmpD X C op' rb rc g) (ha : PE X a (tE C env ra ma)) (hb : PE X b (tE C env rb mb)) (hc : PE X c (tE C env rc mc))
    (hm : lastMarks [op, op'] [b, c] = false := by with_unfolding_all rfl) : PE X (.Compare a [op, op'] [b, c] pos) (tE C env qB (ma.bind fun p => mb.bind fun q => (ofO (f p q)).bind fun t => if t = true then mc.bind fun w => ofO (g q w) else .ret false)) := by
  obtain ⟨R, h1, hr⟩ := d1
  obtain ⟨R', h2, hr'⟩ := d2
  refine pe_imp (pe_chain h1 h2 ha (tE_len hb) (tE_len hc) hm) fun σ H Q _ ⟨S, g0, P, F, em, q⟩ => ?_
  refine ⟨S, g0, _, F, em, fun p g1 hp x S1 H1 F1 e1 hx => ⟨S1, g1, _, F1, hp, fun w g2 ⟨t, et, ht⟩ y S2 H2 F2 e2 hy l2 => ?_⟩⟩
  refine hr _ S2 H2 σ x y p w t _ F2 l2 (ra.mono e2 hx) hy et fun S3 H3 F3 e3 => ⟨t, rfl, ?_⟩
  cases t with
  | false => exact fun _ => q _ _ ht _ S3 H3 F3 (e1.trans (e2.trans e3)) rfl
  | true =>
    refine ⟨S3, _, _, F3, ht, fun u g4 ⟨z, ez, pz⟩ y' S4 H4 F4 e4 hy' l4 => ?_⟩
    exact hr' _ S4 H4 σ y y' w u z _ F4 l4 (rb.mono (e3.trans e4) hy) hy' ez fun S5 H5 F5 e5 _ => q z _ pz _ S5 H5 F5 (e1.trans (e2.trans (e3.trans (e4.trans e5)))) rfl
end
end Rt

set_option maxRecDepth 100000
set_option maxHeartbeats 4000000
/-! Rt3: sequences, calls. -/
namespace Rt
open PySem L2

/-! ### arguments -/
structure Ra (α : Type) where
  p : Hp → List V → α → Prop
  mono : ∀ {H H' : Hp} {v : List V} {a : α}, Ex H H' → p H v a → p H' v a
def q0 : Ra Unit := ⟨fun _ vs _ => vs = [], fun _ h => h⟩
def qC {α β : Type} (r : Rp α) (q : Ra β) : Ra (α × β) := ⟨fun H vs a => ∃ v ws, vs = v :: ws ∧ r.p H v a.1 ∧ q.p H ws a.2, fun e ⟨v, ws, h1, h2, h3⟩ => ⟨v, ws, h1, r.mono e h2, q.mono e h3⟩⟩
def qAll {α : Type} (r : Rp α) : Ra (List α) := ⟨fun H vs xs => All2 (r.p H) vs xs, fun e h => h.mono fun _ _ z => r.mono e z⟩
def tA (C : Cs) (env : Gh → List Sl) {α : Type} (r : Ra α) (m : W α) : TA := fun σ H Q => ∃ S g P, Fr C S H σ (env g) ∧ m g P ∧ ∀ a g', P a g' → ∀ vs S' H', Fr C S' H' σ (env g') → Ex S S' → r.p S' vs a → Q vs H'
section
variable {X : Cx} {C : Cs} {env : Gh → List Sl} {e a b c : Expr} {es : List Expr} {pos : Pos} {α β γ δ : Type} {r ra : Rp α} {rb : Rp β} {rc : Rp γ} {m ma : W α} {mb : W β} {mc : W γ} {k : Bool} {q : Ra β} {ta ta' : TA}
theorem pa_imp (h : PA X es ta) (hi : ∀ σ H Q, Lens H → ta' σ H Q → ta σ H (fun v H' => Lens H' → Q v H')) : PA X es ta' := ⟨fun pos pins s σ H Q I q =>
  thn (h.run pos pins s σ H _ I (hi σ H Q (Lens.of I) q)) fun _ _ ⟨v, H', I', r, z⟩ => ⟨v, H', I', r, z (Lens.of I')⟩⟩
theorem xa_nil : PA X [] (tA C env q0 (.ret ())) := pa_imp pa_nil fun σ H Q _ ⟨S, g0, P, F, em, k⟩ => fun _ => k () _ em [] S H F (Ex.refl S) rfl
theorem xa_cons {mq : W β} (h : PE X e (tE C env r m)) (hr : PA X es (tA C env q mq)) (hs : starEach (e :: es) X.env = (false, eval e X.env) :: starEach es X.env := by rfl) : PA X (e :: es) (tA C env (qC r q) (m.bind fun x => mq.bind fun y => .ret (x, y))) :=
  pa_imp (pa_cons h hr hs) fun σ H Q _ ⟨S, g0, P, F, em, k⟩ => ⟨S, g0, _, F, em, fun x g1 hx v S1 H1 F1 x1 hv => ⟨S1, g1, _, F1, hx, fun y g2 py vs S2 H2 F2 x2 hvs _ => k _ _ py (v :: vs) S2 H2 F2 (x1.trans x2) ⟨v, vs, rfl, r.mono x2 hv, hvs⟩⟩⟩
theorem xa_nilL : PA X [] (tA C env (qAll r) (.ret [])) := pa_imp pa_nil fun σ H Q _ ⟨S, g0, P, F, em, k⟩ => fun _ => k _ _ em [] S H F (Ex.refl S) True.intro
theorem xa_consL {mq : W (List α)} (h : PE X e (tE C env r m)) (hr : PA X es (tA C env (qAll r) mq)) (hs : starEach (e :: es) X.env = (false, eval e X.env) :: starEach es X.env := by rfl) : PA X (e :: es) (tA C env (qAll r) (m.bind fun x => mq.bind fun y => .ret (x :: y))) :=
  pa_imp (pa_cons h hr hs) fun σ H Q _ ⟨S, g0, P, F, em, k⟩ => ⟨S, g0, _, F, em, fun x g1 hx v S1 H1 F1 x1 hv => ⟨S1, g1, _, F1, hx, fun y g2 py vs S2 H2 F2 x2 hvs _ => k _ _ py (v :: vs) S2 H2 F2 (x1.trans x2) ⟨r.mono x2 hv, hvs⟩⟩⟩
theorem pe_eq {m m' : W α} (h : PE X e (tE C env r m)) (he : m = m') : PE X e (tE C env r m') := he ▸ h
theorem pa_eq {m m' : W β} (h : PA X es (tA C env q m)) (he : m = m') : PA X es (tA C env q m') := he ▸ h

/-! ### displays -/
def lenK {α : Type} (xs : List α) : Option (List α) := if xs.length ≤ 1000000 then some xs else none
theorem lenK_some {α : Type} {xs z : List α} (h : lenK xs = some z) : xs = z ∧ xs.length ≤ 1000000 := by
  unfold lenK at h
  split at h
  · rename_i hl
    exact ⟨Option.some.inj h, hl⟩
  · cases h
theorem xe_tupL {k1 : Nat} {m : W (List α)} (h : PA X es (tA C env (qAll r) m)) : PE X (.Tuple es k1 pos) (tE C env (qT r) (m.bind fun xs => ofO (lenK xs))) := pe_imp (RtU.pe_tupU h) fun σ H Q _ ⟨S, g0, P, F, em, k⟩ =>
  ⟨S, g0, _, F, em, fun xs g1 ⟨z, ez, pz⟩ vs S1 H1 F1 x1 hv => by
    obtain ⟨rfl, hl⟩ := lenK_some ez
    refine ⟨by rw [All2.length hv, sizeLine_eq]; omega, fun p o ho hp _ => ?_⟩
    exact k _ _ pz _ _ _ (F1.new (o := .frz o (.tup vs)) hp) (x1.trans (Ex.new (F1.e1.back hp))) ⟨p, vs, rfl, TupAt.new ho, All2.mono (fun _ _ z => r.mono (Ex.new (F1.e1.back hp)) z) hv⟩⟩
theorem xn_lst {m : W (List α)} (h : PA X es (tA C env (qAll r) m)) : PE X (.List es pos) (tN C env r (m.bind fun xs => ofO (lenK xs))) := pe_imp (pe_lst h) fun σ H Q _ ⟨S, g0, P, F, em, k⟩ =>
  ⟨S, g0, _, F, em, fun xs g1 ⟨z, ez, pz⟩ vs S1 H1 F1 x1 hv => by
    obtain ⟨rfl, hl⟩ := lenK_some ez
    exact ⟨by rw [All2.length hv, sizeLine_eq]; omega, fun p hp _ => k _ _ pz p vs S1 H1 F1 x1 hp hv⟩⟩
theorem xn_nil : PE X (.List [] pos) (tN C env r (.ret [])) := pe_imp (pe_lst (xa_nilL (C := C) (env := env) (r := r))) fun σ H Q _ ⟨S, g0, P, F, em, k⟩ =>
  ⟨S, g0, fun xs g => xs = [] ∧ g = g0, F, ⟨rfl, rfl⟩, fun xs g1 hx vs S1 H1 F1 x1 hv => by
    obtain ⟨rfl, rfl⟩ := hx
    exact ⟨by rw [All2.length hv]; exact Nat.zero_le _, fun p hp _ => k [] _ em p vs S1 H1 F1 x1 hp hv⟩⟩
theorem xe_tup0 {k1 : Nat} : PE X (.Tuple [] k1 pos) (tE C env (qT r) (.ret [])) := pe_imp (RtU.pe_tupU (xa_nilL (C := C) (env := env) (r := r))) fun σ H Q _ ⟨S, g0, P, F, em, k⟩ =>
  ⟨S, g0, fun xs g => xs = [] ∧ g = g0, F, ⟨rfl, rfl⟩, fun xs g1 hx vs S1 H1 F1 x1 hv => by
    obtain ⟨rfl, rfl⟩ := hx
    refine ⟨by rw [All2.length hv]; exact Nat.zero_le _, fun p o ho hp _ => ?_⟩
    exact k [] _ em _ _ _ (F1.new (o := .frz o (.tup vs)) hp) (x1.trans (Ex.new (F1.e1.back hp))) ⟨p, vs, rfl, TupAt.new ho, All2.mono (fun _ _ z => r.mono (Ex.new (F1.e1.back hp)) z) hv⟩⟩
theorem xe_tup1 {k1 : Nat} {m : W α} (h : PE X a (tE C env r m)) (hs : starEach [a] X.env = (false, eval a X.env) :: starEach [] X.env := by rfl) : PE X (.Tuple [a] k1 pos) (tE C env (qT r) (m.bind fun x => .ret [x])) :=
  pe_imp (xe_tupL (xa_consL h xa_nilL hs)) fun σ H Q _ ⟨S, g0, P, F, em, k⟩ => ⟨S, g0, P, F, (by
    have e : (m.bind fun x => W.ret [x]) = ((m.bind fun x => (W.ret ([] : List α)).bind fun y => W.ret (x :: y)).bind fun xs => ofO (lenK xs)) := by
      funext g P
      show m g _ = m g _
      congr 1
      funext x g1
      exact propext (Iff.intro (fun h => ⟨[x], rfl, h⟩) fun ⟨z, ez, h⟩ => by cases ez; exact h)
    rw [← e]
    exact em), fun xs g' px v S' H' F' x1 hv _ => k xs _ px v S' H' F' x1 hv⟩
theorem xe_tup2 {k1 : Nat} (ha : PE X a (tE C env ra ma)) (hb : PE X b (tE C env rb mb)) (hs : starEach [a, b] X.env = (false, eval a X.env) :: starEach [b] X.env := by rfl) (hs2 : starEach [b] X.env = (false, eval b X.env) :: starEach [] X.env := by rfl) :
    PE X (.Tuple [a, b] k1 pos) (tE C env (qP ra rb) (ma.bind fun x => mb.bind fun y => .ret (x, y))) := pe_imp (RtU.pe_tupU (xa_cons ha (xa_cons hb xa_nil hs2) hs)) fun σ H Q _ ⟨S, g0, P, F, em, k⟩ =>
  ⟨S, g0, fun z g => P (z.1, z.2.1) g, F, em, fun z g1 pz vs S1 H1 F1 x1 ⟨v, ws, ev, h1, w, us, ew, h2, eu⟩ => by
    have eu : us = [] := eu
    subst ev ew eu
    refine ⟨by show 2 ≤ sizeLine; decide, fun p o ho hp _ => ?_⟩
    have ex := Ex.new (o := .frz o (.tup [v, w])) (F1.e1.back hp)
    exact k _ _ pz _ _ _ (F1.new hp) (x1.trans ex) ⟨p, v, w, rfl, TupAt.new ho, ra.mono ex h1, rb.mono ex h2⟩⟩
theorem xe_tup3 {k1 : Nat} (ha : PE X a (tE C env ra ma)) (hb : PE X b (tE C env rb mb)) (hc : PE X c (tE C env rc mc)) (hs : starEach [a, b, c] X.env = (false, eval a X.env) :: starEach [b, c] X.env := by rfl) (hs2 : starEach [b, c] X.env = (false, eval b X.env) :: starEach [c] X.env := by rfl)
    (hs3 : starEach [c] X.env = (false, eval c X.env) :: starEach [] X.env := by rfl) :
    PE X (.Tuple [a, b, c] k1 pos) (tE C env (qP3 ra rb rc) (ma.bind fun x => mb.bind fun y => mc.bind fun z => .ret (x, y, z))) := pe_imp (RtU.pe_tupU (xa_cons ha (xa_cons hb (xa_cons hc xa_nil hs3) hs2) hs)) fun σ H Q _ ⟨S, g0, P, F, em, k⟩ =>
  ⟨S, g0, fun z g => P (z.1, z.2.1, z.2.2.1) g, F, em, fun z g1 pz vs S1 H1 F1 x1 ⟨v, ws, ev, h1, w2, us, ew, h2, w3, ts, et, h3, eu⟩ => by
    have eu : ts = [] := eu
    subst ev ew et eu
    refine ⟨by show 3 ≤ sizeLine; decide, fun p o ho hp _ => ?_⟩
    have ex := Ex.new (o := .frz o (.tup [v, w2, w3])) (F1.e1.back hp)
    exact k _ _ pz _ _ _ (F1.new hp) (x1.trans ex) ⟨p, v, w2, w3, rfl, TupAt.new ho, ra.mono ex h1, rb.mono ex h2, rc.mono ex h3⟩⟩

/-! ### subscripts, lengths -/
theorem All2.atI {R : V → α → Prop} {vs : List V} {xs : List α} {i : Int} {x : α} (h : All2 R vs xs) (e : L2.atI xs i = some x) : ∃ v, L2.atI vs i = some v ∧ R v x := by
  unfold L2.atI at e ⊢
  rw [← All2.length h] at e
  cases q : ixN vs.length i with
  | none => rw [q] at e; cases e
  | some j =>
    rw [q] at e
    exact All2.get j h e
theorem rd_sq {K : PySem.W.Frag} {H : Hp} {p : Addr} {vs : List V} (h : Sq k H p vs) : SqL K H p vs ∨ SqT K H p vs := sq_seq h
theorem xe_ix {mx : W (List α)} {mi : W Int} (ha : PE X a (tQ C env k r mx)) (hb : PE X b (tE C env qI mi)) (hs : PlainIx b := by intro _ _; rfl) : PE X (.Subscript a b pos) (tE C env r (mx.bind fun xs => mi.bind fun i => ofO (L2.atI xs i))) := by
  have go : ∀ {R : R2}, IxR X R → (∀ H p vs i v Q, Sq k H p vs → L2.atI vs i = some v → Q v H → R (.ref p) (.int i) H Q) → PE X (.Subscript a b pos) (tE C env r (mx.bind fun xs => mi.bind fun i => ofO (L2.atI xs i))) := fun {R} hR hr =>
    pe_imp (pe_ix hR ha hb hs) fun σ H Q _ ⟨S, g0, P, F, em, k⟩ => ⟨S, g0, _, F, em, fun xs g1 hx p S1 H1 F1 x1 rd => ⟨S1, g1, _, F1, hx, fun i g2 ⟨z, ez, pz⟩ y S2 H2 F2 x2 hy => by
      have hy : y = .int i := hy
      subst hy
      obtain ⟨vs, hp, h2⟩ := rd _ S2 H2 F2 x2
      obtain ⟨v, ev, hv⟩ := h2.atI ez
      exact hr H2 p vs i v _ hp ev fun _ => k _ _ pz v S2 H2 F2 (x1.trans x2) hv⟩⟩
  cases k with
  | true => exact go ix_list fun H p vs i v Q hp ev q => ⟨p, vs, i, v, rfl, rfl, SqL.of hp, ev, q⟩
  | false => exact go ix_tup fun H p vs i v Q hp ev q => ⟨p, vs, i, v, rfl, rfl, TupAt.sq hp, ev, q⟩
theorem xe_len {mx : W (List α)} {p : Pos} (hg : Gl X "len") (hm : X.mg "len" = none) (ha : PE X a (tQ C env k r mx)) (hs : starEach [a] X.env = (false, eval a X.env) :: starEach [] X.env := by rfl) :
    PE X (.Call (.Name "len" p) [a] [] pos) (tE C env qI (mx.bind fun xs => .ret (xs.length : Int))) :=
  pe_imp (pe_callB call_len_seq hg hm PySem.boot_len (pa_cons ha pa_nil hs) (by decide) (by decide) hs (by rfl)) fun σ H Q _ ⟨S, g0, P, F, em, k⟩ => ⟨S, g0, _, F, em, fun xs g1 px p S1 H1 F1 x1 rd => by
    obtain ⟨vs, hp, h2⟩ := rd _ S1 H1 F1 (Ex.refl S1)
    exact ⟨p, vs, rfl, sq_seq hp, fun _ => k _ _ px _ S1 H1 F1 x1 (by rw [All2.length h2]; rfl)⟩⟩
/-- the items of xs[lo:hi] -/
def cutL {α : Type} (xs : List α) (lo hi : Option Int) : List α := (xs.drop (HT.sIx xs.length 0 lo)).take (HT.sIx xs.length xs.length hi - HT.sIx xs.length 0 lo)
theorem cutL_all {R : V → α → Prop} {vs : List V} {xs : List α} (h : All2 R vs xs) (lo hi : Option Int) : All2 R (cutV vs lo hi) (cutL xs lo hi) := by
  unfold cutV cutL
  rw [All2.length h]
  exact (h.drop _).take _
/-- a slice's end -/
def tO (C : Cs) (env : Gh → List Sl) (m : W (Option Int)) : TO := fun σ H Q => ∃ S g P, Fr C S H σ (env g) ∧ m g P ∧ ∀ a g', P a g' → ∀ S' H', Fr C S' H' σ (env g') → Ex S S' → Q a H'
theorem po_imp {e : Option Expr} {t t' : TO} (h : PO X e t) (hi : ∀ σ H Q, Lens H → t' σ H Q → t σ H Q) : PO X e t' := ⟨fun pins s σ H Q I q => h.run pins s σ H Q I (hi σ H Q (Lens.of I) q)⟩
theorem xo_none : PO X none (tO C env (.ret none)) := po_imp po_none fun σ H Q _ ⟨S, g0, P, F, em, k⟩ => k _ _ em S H F (Ex.refl S)
theorem xo_some {mi : W Int} (h : PE X e (tE C env qI mi)) : PO X (some e) (tO C env (mi.bind fun i => .ret (some i))) := po_imp (po_some h) fun σ H Q _ ⟨S, g0, P, F, em, k⟩ =>
  ⟨S, g0, _, F, em, fun i g1 pi v S1 H1 F1 x1 hv => ⟨i, hv, k _ _ pi S1 H1 F1 x1⟩⟩
theorem xe_slT {lo hi : Option Expr} {p2 : Pos} {mx : W (List α)} {ml mh : W (Option Int)} (ha : PE X a (tE C env (qT r) mx)) (hl : PO X lo (tO C env ml)) (hh : PO X hi (tO C env mh)) :
    PE X (.Subscript a (.Slice lo hi none p2) pos) (tE C env (qT r) (mx.bind fun xs => ml.bind fun l => mh.bind fun h => .ret (cutL xs l h))) :=
  pe_imp (pe_slice RtU.sl_tupU ha hl hh) fun σ H Q _ ⟨S, g0, P, F, em, k⟩ => ⟨S, g0, _, F, em, fun xs g1 hx v S1 H1 F1 x1 ⟨p, vs, ev, hp, h2⟩ => ⟨S1, g1, _, F1, hx, fun l g2 hl S2 H2 F2 x2 => ⟨S2, g2, _, F2, hl, fun h g3 ph S3 H3 F3 x3 => by
    subst ev
    have hp3 : TupAt S3 p vs := TupAt.mono x3 (TupAt.mono x2 hp)
    have h3 : All2 (r.p S3) vs xs := h2.mono fun _ _ z => r.mono (x2.trans x3) z
    refine ⟨p, vs, rfl, (hp3.mono F3.e1).sq, fun hw _ => ?_, fun _ t o ho ht _ => ?_⟩
    · have e : cutL xs l h = xs := by
        unfold cutL
        rw [← All2.length h2, hw.1, hw.2]
        simp
        rw [All2.length h2]
        exact List.take_length
      exact k _ _ ph _ S3 H3 F3 (x1.trans (x2.trans x3)) ⟨p, vs, rfl, hp3, by rw [e]; exact h3⟩
    · have ex := Ex.new (o := .frz o (.tup (cutV vs l h))) (F3.e1.back ht)
      exact k _ _ ph _ _ _ (F3.new ht) ((x1.trans (x2.trans x3)).trans ex) ⟨t, _, rfl, TupAt.new ho, (cutL_all h3 l h).mono fun _ _ z => r.mono ex z⟩⟩⟩⟩
theorem xn_slL {lo hi : Option Expr} {p2 : Pos} {mx : W (List α)} {ml mh : W (Option Int)} (ha : PE X a (tQ C env true r mx)) (hl : PO X lo (tO C env ml)) (hh : PO X hi (tO C env mh)) :
    PE X (.Subscript a (.Slice lo hi none p2) pos) (tN C env r (mx.bind fun xs => ml.bind fun l => mh.bind fun h => .ret (cutL xs l h))) :=
  pe_imp (pe_slice sl_list ha hl hh) fun σ H Q _ ⟨S, g0, P, F, em, k⟩ => ⟨S, g0, _, F, em, fun xs g1 hx p S1 H1 F1 x1 rd => ⟨S1, g1, _, F1, hx, fun l g2 hl S2 H2 F2 x2 => ⟨S2, g2, _, F2, hl, fun h g3 ph S3 H3 F3 x3 => by
    obtain ⟨vs, hp, h2⟩ := rd _ S3 H3 F3 (x2.trans x3)
    exact ⟨p, vs, rfl, SqL.of hp, fun t ht _ => k _ _ ph t _ S3 H3 F3 (x1.trans (x2.trans x3)) ht (cutL_all h2 l h)⟩⟩⟩⟩
/-- xs[::-1] of a list -/
theorem xn_rev {j : Nat} {p1 p2 p3 : Pos} {mx : W (List α)} (ha : PE X a (tQ C env true r mx)) : PE X (.Subscript a (.Slice none none (some (.UnaryOp .USub (.Constant (.int 1) j p1) p2)) p3) pos) (tN C env r (mx.bind fun xs => .ret xs.reverse)) :=
  pe_imp (pe_revL ha) fun σ H Q _ ⟨S, g0, P, F, em, k⟩ => ⟨S, g0, _, F, em, fun xs g1 px p S1 H1 F1 x1 rd => by
    obtain ⟨vs, hp, h2⟩ := rd _ S1 H1 F1 (Ex.refl S1)
    exact ⟨p, vs, rfl, SqL.of hp, fun t ht _ => k _ _ px t _ S1 H1 F1 x1 ht h2.reverse⟩⟩

/-! ### one behind the other -/
def catC {α : Type} (xs ys : List α) : Option (List α) := if xs.length + ys.length ≤ 1000000 then some (xs ++ ys) else none
theorem xe_catT {mx my : W (List α)} (ha : PE X a (tE C env (qT r) mx)) (hb : PE X b (tE C env (qT r) my)) : PE X (.BinOp a .Add b pos) (tE C env (qT r) (mx.bind fun xs => my.bind fun ys => ofO (catC xs ys))) :=
  xe_op RtU.op_catU ha hb fun _ S H σ x y xs ys z Q F _ ⟨p, vs, e1, h1, h2⟩ ⟨t, ws, e3, h3, h4⟩ ez k => by
    unfold catC at ez
    split at ez
    · rename_i hl
      cases ez
      refine ⟨p, t, vs, ws, e1, e3, (TupAt.mono F.e1 h1).sq, (TupAt.mono F.e1 h3).sq, by rw [All2.length h2, All2.length h4, sizeLine_eq]; omega, fun n => ?_, fun _ n => ?_, fun _ _ u o ho hu => ?_⟩
      · subst n
        have : xs = [] := List.eq_nil_of_length_eq_zero (by rw [← All2.length h2]; rfl)
        subst this
        exact k _ S H F (Ex.refl S) ⟨t, ws, rfl, h3, h4⟩
      · subst n
        have : ys = [] := List.eq_nil_of_length_eq_zero (by rw [← All2.length h4]; rfl)
        subst this
        exact k _ S H F (Ex.refl S) ⟨p, vs, rfl, h1, by rw [List.append_nil]; exact h2⟩
      · have ex := Ex.new (o := .frz o (.tup (vs ++ ws))) (F.e1.back hu)
        exact k _ _ _ (F.new hu) ex ⟨u, _, rfl, TupAt.new ho, (h2.append h4).mono fun _ _ z => r.mono ex z⟩
    · cases ez
end
end Rt

set_option maxRecDepth 100000
set_option maxHeartbeats 4000000
/-! Rt4: data as data (==, in, repr), built-in functions over sequences. -/
namespace Rt
open PySem L2

/-! ### what the data are -/
structure Dt {α : Type} (r : Rp α) where
  d : α → PyData
  dep : Nat
  rep : ∀ {K : PySem.W.Frag} {H : Hp} {v : V} {a : α}, r.p H v a → Dp K H v (d a)
  lay : ∀ a, (d a).canLay0 = true
  le : ∀ a, (d a).depth ≤ dep
theorem canLayAll_map {α : Type} {f : α → PyData} (h : ∀ a, (f a).canLay0 = true) : ∀ xs : List α, PyData.canLayAll0 (xs.map f) = true
  | [] => by simp [PyData.canLayAll0]
  | x :: xs => by simp [PyData.canLayAll0, h x, canLayAll_map h xs]
theorem depthAll_map {α : Type} {f : α → PyData} {n : Nat} (h : ∀ a, (f a).depth ≤ n) : ∀ xs : List α, PyData.depthAll (xs.map f) ≤ n
  | [] => by simp [PyData.depthAll]
  | x :: xs => by
    have h1 := h x
    have h2 := depthAll_map h xs
    simp [PyData.depthAll]
    omega
theorem dpAll {α : Type} {r : Rp α} {f : α → PyData} {K : PySem.W.Frag} {H : Hp} (h : ∀ {v : V} {a : α}, r.p H v a → Dp K H v (f a)) : ∀ {vs : List V} {xs : List α}, All2 (r.p H) vs xs → DpAll K H vs (xs.map f)
  | [], [], _ => .nil
  | v :: vs, x :: xs, ⟨a, b⟩ => .cons (h a) (dpAll h b)
  | [], _ :: _, z => z.elim
  | _ :: _, [], z => z.elim
def dI : Dt qI := ⟨.int, 0, fun {K H v a} h => by rw [show v = .int a from h]; exact .int a, fun _ => by simp [PyData.canLay0], fun _ => by simp [PyData.depth]⟩
def dB : Dt qB := ⟨.bool, 0, fun {K H v a} h => by rw [show v = .bl a from h]; exact .bl a, fun _ => by simp [PyData.canLay0], fun _ => by simp [PyData.depth]⟩
def dN : Dt qN := ⟨fun _ => .none, 0, fun {K H v a} h => by rw [show v = .non from h]; exact .non, fun _ => by simp [PyData.canLay0], fun _ => by simp [PyData.depth]⟩
def dT {α : Type} {r : Rp α} (D : Dt r) : Dt (qT r) := ⟨fun xs => .tuple (xs.map D.d), D.dep + 1, fun {K H v a} ⟨p, vs, e, hp, h⟩ => by rw [e]; exact .tup (TupAt.sq hp) (dpAll D.rep h), fun xs => by simp [PyData.canLay0, canLayAll_map D.lay], fun xs => by
  have := depthAll_map D.le xs
  simp [PyData.depth]
  omega⟩
def dL {α : Type} {r : Rp α} (D : Dt r) : Dt (qL r) := ⟨fun xs => .list (xs.map D.d), D.dep + 1, fun {K H v a} ⟨p, vs, e, hp, h⟩ => by rw [e]; exact .lst (SqL.of hp) (dpAll D.rep h), fun xs => by simp [PyData.canLay0, canLayAll_map D.lay], fun xs => by
  have := depthAll_map D.le xs
  simp [PyData.depth]
  omega⟩
def dP {α β : Type} {r : Rp α} {q : Rp β} (D : Dt r) (E : Dt q) : Dt (qP r q) := ⟨fun a => .tuple [D.d a.1, E.d a.2], max D.dep E.dep + 1, fun {K H v a} ⟨p, x, y, e, hp, h1, h2⟩ => by rw [e]; exact .tup (TupAt.sq hp) (.cons (D.rep h1) (.cons (E.rep h2) .nil)),
  fun a => by simp [PyData.canLay0, PyData.canLayAll0, D.lay, E.lay], fun a => by
  have h1 := D.le a.1
  have h2 := E.le a.2
  simp [PyData.depth, PyData.depthAll]
  omega⟩
def dP3 {α β γ : Type} {r : Rp α} {q : Rp β} {t : Rp γ} (D : Dt r) (E : Dt q) (G : Dt t) : Dt (qP3 r q t) := ⟨fun a => .tuple [D.d a.1, E.d a.2.1, G.d a.2.2], max D.dep (max E.dep G.dep) + 1, fun {K H v a} ⟨p, x, y, z, e, hp, h1, h2, h3⟩ => by rw [e]; exact .tup (TupAt.sq hp) (.cons (D.rep h1) (.cons (E.rep h2) (.cons (G.rep h3) .nil))),
  fun a => by simp [PyData.canLay0, PyData.canLayAll0, D.lay, E.lay, G.lay], fun a => by
  have h1 := D.le a.1
  have h2 := E.le a.2.1
  have h3 := G.le a.2.2
  simp [PyData.depth, PyData.depthAll]
  omega⟩
theorem Dt.shaped {α : Type} {r : Rp α} (D : Dt r) (h : D.dep ≤ 64) (a : α) : SeqAt.shaped (D.d a) = true := by
  have := D.le a
  unfold SeqAt.shaped
  rw [D.lay a]
  simp
  omega
/-- any data, by the data alone -/
def qD (K : PySem.W.Frag) : Rp PyData := ⟨fun H v d => Dp K H v d, fun {H H' v a} e h => by
  have key : ∀ (d : PyData) (v : V), Dp K H v d → Dp K H' v d := by
    intro d
    refine PyData.rec (motive_1 := fun d => ∀ v, Dp K H v d → Dp K H' v d) (motive_2 := fun ds => ∀ vs, DpAll K H vs ds → DpAll K H' vs ds) (motive_3 := fun _ => True) (motive_4 := fun _ => True) ?_ ?_ ?_ ?_ ?_ ?_ ?_ ?_ ?_ ?_ ?_ ?_ d
    · intro v h; cases h; exact .non
    · intro b v h; cases h; exact .bl b
    · intro i v h; cases h; exact .int i
    · intro x v h; cases h; exact .str x
    · intro xs ih v h
      cases h with
      | lst hs ha =>
        refine .lst ?_ (ih _ ha)
        rcases hs with (hs | ⟨o, hs⟩) | hs
        · exact .inl (.inl (e _ _ hs))
        · exact .inl (.inr ⟨o, e _ _ hs⟩)
        · exact .inr hs
    · intro xs ih v h
      cases h with
      | tup hs ha =>
        refine .tup ?_ (ih _ ha)
        rcases hs with (hs | ⟨o, hs⟩) | hs
        · exact .inl (.inl (e _ _ hs))
        · exact .inl (.inr ⟨o, e _ _ hs⟩)
        · exact .inr hs
    · intro kvs _ v h; cases h
    · intro vs h; cases h; exact .nil
    · intro d ds h1 h2 vs h
      cases h with
      | cons a b => exact .cons (h1 _ a) (h2 _ b)
    · exact True.intro
    · intros; exact True.intro
    · intros; exact True.intro
  exact key a v h⟩
section
variable {X : Cx} {C : Cs} {env : Gh → List Sl} {e a b c : Expr} {es : List Expr} {pos : Pos} {α β γ δ : Type} {r ra : Rp α} {rb : Rp β} {rc : Rp γ} {m ma : W α} {mb : W β} {mc : W γ} {k : Bool}
/-- in another dress -/
theorem xe_as {f : α → β} (hf : ∀ H v a, r.p H v a → rb.p H v (f a)) (h : PE X e (tE C env r m)) : PE X e (tE C env rb (m.bind fun x => .ret (f x))) := pe_imp h fun σ H Q _ ⟨S, g0, P, F, em, k⟩ =>
  ⟨S, g0, _, F, em, fun x g1 px v S1 H1 F1 x1 hv _ => k _ _ px v S1 H1 F1 x1 (hf S1 v x hv)⟩
theorem xe_data (D : Dt r) (h : PE X e (tE C env r m)) : PE X e (tE C env (qD X.K) (m.bind fun x => .ret (D.d x))) := xe_as (rb := qD X.K) (fun H v a h => D.rep h) h
theorem Dp.up {K : PySem.W.Frag} {S H : Hp} (e : Ex S H) {d : PyData} {v : V} (h : Dp K S v d) : Dp K H v d := (qD K).mono e h
theorem cd_eq (D : Dt ra) (E : Dt rb) (hu : X.A.units + 64 < cLine) (h1 : D.dep ≤ 64 := by decide) (h2 : E.dep ≤ 64 := by decide) : CmpD X C .Eq ra rb fun x y => some (PyData.eqv (D.d x) (E.d y)) :=
  ⟨_, op_eqD hu, fun _ S H σ x y p q z Q F _ hx hy ez k => ⟨_, _, Dp.up F.e1 (D.rep hx), Dp.up F.e1 (E.rep hy), D.shaped h1 p, E.shaped h2 q, by cases ez; exact k S H F (Ex.refl S)⟩⟩
theorem cd_ne (D : Dt ra) (E : Dt rb) (hu : X.A.units + 64 < cLine) (h1 : D.dep ≤ 64 := by decide) (h2 : E.dep ≤ 64 := by decide) : CmpD X C .NotEq ra rb fun x y => some (!PyData.eqv (D.d x) (E.d y)) :=
  ⟨_, op_neD hu, fun _ S H σ x y p q z Q F _ hx hy ez k => ⟨_, _, Dp.up F.e1 (D.rep hx), Dp.up F.e1 (E.rep hy), D.shaped h1 p, E.shaped h2 q, by cases ez; exact k S H F (Ex.refl S)⟩⟩
def eqC (d e : PyData) : Option Bool := if SeqAt.shaped d = true ∧ SeqAt.shaped e = true then some (PyData.eqv d e) else none
theorem cd_eqD (hu : X.A.units + 64 < cLine) : CmpD X C .Eq (qD X.K) (qD X.K) eqC :=
  ⟨_, op_eqD hu, fun _ S H σ x y p q z Q F _ hx hy ez k => by
    unfold eqC at ez
    split at ez
    · rename_i h
      cases ez
      exact ⟨_, _, Dp.up F.e1 hx, Dp.up F.e1 hy, h.1, h.2, k S H F (Ex.refl S)⟩
    · cases ez⟩
theorem cd_neD (hu : X.A.units + 64 < cLine) : CmpD X C .NotEq (qD X.K) (qD X.K) fun d e => (eqC d e).bind fun b => some !b :=
  ⟨_, op_neD hu, fun _ S H σ x y p q z Q F _ hx hy ez k => by
    have ez : ((eqC p q).bind fun b => some !b) = some z := ez
    unfold eqC at ez
    split at ez
    · rename_i h
      cases ez
      exact ⟨_, _, Dp.up F.e1 hx, Dp.up F.e1 hy, h.1, h.2, k S H F (Ex.refl S)⟩
    · cases ez⟩
/-- is None -/
theorem xe_isN {j : Nat} {p1 : Pos} (h : PE X a (tE C env r m)) {f : α → Bool} (hf : ∀ H v x, r.p H v x → decide (v = .non) = f x) : PE X (.Compare a [.Is] [.Constant .none j p1] pos) (tE C env qB (m.bind fun x => .ret (f x))) :=
  pe_imp (pe_cmp (pc_isN h) rfl) fun σ H Q _ ⟨S, g0, P, F, em, k⟩ => ⟨S, g0, _, F, em, fun x g1 px v S1 H1 F1 x1 hv _ => k _ _ px _ S1 H1 F1 x1 (by rw [hf S1 v x hv]; rfl)⟩

/-! ### in -/
theorem flat_ints {H : Hp} : ∀ {vs : List V} {xs : List Int}, All2 (qI.p H) vs xs → vs = xs.map V.int := fun {vs xs} h => All2.map_eq (f := V.int) h
theorem flat_bls {H : Hp} : ∀ {vs : List V} {xs : List Bool}, All2 (qB.p H) vs xs → vs = xs.map V.bl := fun {vs xs} h => All2.map_eq (f := V.bl) h
theorem all_flat (xs : List Int) : (xs.map V.int).all flatV = true := by
  rw [List.all_map, List.all_eq_true]
  intro x _
  rfl
theorem inV_int (i : Int) : ∀ xs : List Int, inV (.int i) (xs.map V.int) = xs.any fun y => decide (y = i)
  | [] => rfl
  | x :: xs => by
    have ih := inV_int i xs
    unfold inV at ih ⊢
    rw [List.map_cons, List.any_cons, List.any_cons, ih]
    have : eqV (.int x) (.int i) = decide (x = i) := by
      show (x == i) = decide (x = i)
      rfl
    rw [this]
theorem cq_in {op : CmpOp} {neg : Bool} {mi : W Int} {mx : W (List Int)} (ho : OpR X (compareOp op) (rIn X.K neg)) (ha : PE X a (tE C env qI mi)) (hb : PE X b (tQ C env k qI mx)) (hm : behindInMarks op b = false) :
    PE X (.Compare a [op] [b] pos) (tE C env qB (mi.bind fun i => mx.bind fun xs => .ret (if neg then !(xs.any fun y => decide (y = i)) else xs.any fun y => decide (y = i)))) :=
  pe_imp (pe_cmpR ho ha hb hm) fun σ H Q _ ⟨S, g0, P, F, em, kk⟩ => ⟨S, g0, _, F, em, fun i g1 hi v S1 H1 F1 x1 hv => ⟨S1, g1, _, F1, hi, fun xs g2 px p S2 H2 F2 x2 rd => by
    obtain ⟨vs, hp, h2⟩ := rd _ S2 H2 F2 (Ex.refl S2)
    have ev : vs = xs.map V.int := flat_ints h2
    have hv : v = .int i := hv
    subst ev hv
    exact ⟨p, _, rfl, sq_seq hp, rfl, all_flat xs, fun _ => kk _ _ px _ S2 H2 F2 (x1.trans x2) (by rw [inV_int]; rfl)⟩⟩⟩
theorem xe_in {mi : W Int} {mx : W (List Int)} (ha : PE X a (tE C env qI mi)) (hb : PE X b (tQ C env k qI mx)) (hm : behindInMarks .In b = false := by with_unfolding_all rfl) : PE X (.Compare a [.In] [b] pos) (tE C env qB (mi.bind fun i => mx.bind fun xs => .ret (xs.any fun y => decide (y = i)))) := cq_in op_in_seq ha hb hm
theorem xe_nin {mi : W Int} {mx : W (List Int)} (ha : PE X a (tE C env qI mi)) (hb : PE X b (tQ C env k qI mx)) (hm : behindInMarks .NotIn b = false := by with_unfolding_all rfl) : PE X (.Compare a [.NotIn] [b] pos) (tE C env qB (mi.bind fun i => mx.bind fun xs => .ret !(xs.any fun y => decide (y = i)))) := cq_in op_notIn_seq ha hb hm
/-- data among data -/
def rInT (K : PySem.W.Frag) (neg : Bool) : R2 := fun x y H Q => ∃ d ds, Dp K H x d ∧ (Dp K H y (.list ds) ∧ SeqAt.shaped (.list ds) = true ∨ Dp K H y (.tuple ds) ∧ SeqAt.shaped (.tuple ds) = true) ∧ SeqAt.shaped d = true ∧ Q (.bl (if neg then !ds.any fun z => PyData.eqv z d else ds.any fun z => PyData.eqv z d)) H
theorem shaped_lt {ds : List PyData} (h : SeqAt.shaped (.list ds) = true) : SeqAt.shaped (.tuple ds) = true := by
  unfold SeqAt.shaped at h ⊢
  simpa [PyData.canLay0, PyData.depth] using h
theorem shaped_tl {ds : List PyData} (h : SeqAt.shaped (.tuple ds) = true) : SeqAt.shaped (.list ds) = true := by
  unfold SeqAt.shaped at h ⊢
  simpa [PyData.canLay0, PyData.depth] using h
theorem op_inT (hu : X.A.units + 65 < cLine) : OpR X (compareOp .In) (rInT X.K false) := by
  intro pins s σ H x y v u Q I rx ry h
  obtain ⟨d, ds, hd, he, sd, q⟩ := h
  obtain ⟨as, r1⟩ := Dp.reads I d x v hd rx
  rcases he with ⟨he, se⟩ | ⟨he, se⟩
  · obtain ⟨bs, r2⟩ := Dp.reads I (.list ds) y u he ry
    exact SeqAt.in_list_reads r2 r1 (SeqAt.canLay_of_shaped se) (SeqAt.canLay_of_shaped sd) (PyProof.Rows.room_in_shaped sd hu) ⟨.bl _, H, I, rfl, q⟩
  · obtain ⟨bs, r2⟩ := Dp.reads I (.tuple ds) y u he ry
    exact SeqAt.in_tuple_reads r2 r1 (SeqAt.canLay_of_shaped se) (SeqAt.canLay_of_shaped sd) (PyProof.Rows.room_in_shaped sd hu) ⟨.bl _, H, I, rfl, q⟩
theorem op_ninT (hu : X.A.units + 65 < cLine) : OpR X (compareOp .NotIn) (rInT X.K true) := by
  intro pins s σ H x y v u Q I rx ry h
  obtain ⟨d, ds, hd, he, sd, q⟩ := h
  obtain ⟨as, r1⟩ := Dp.reads I d x v hd rx
  rcases he with ⟨he, se⟩ | ⟨he, se⟩
  · obtain ⟨bs, r2⟩ := Dp.reads I (.list ds) y u he ry
    exact SeqAt.notIn_list_reads r2 r1 (SeqAt.canLay_of_shaped se) (SeqAt.canLay_of_shaped sd) (PyProof.Rows.room_in_shaped sd hu) ⟨.bl _, H, I, rfl, q⟩
  · obtain ⟨bs, r2⟩ := Dp.reads I (.tuple ds) y u he ry
    exact SeqAt.notIn_tuple_reads r2 r1 (SeqAt.canLay_of_shaped se) (SeqAt.canLay_of_shaped sd) (PyProof.Rows.room_in_shaped sd hu) ⟨.bl _, H, I, rfl, q⟩
theorem cq_inD {op : CmpOp} {neg : Bool} {mx : W (List β)} (D : Dt ra) (E : Dt rb) (ho : OpR X (compareOp op) (rInT X.K neg)) (ha : PE X a (tE C env ra ma)) (hb : PE X b (tQ C env k rb mx)) (hm : behindInMarks op b = false) (h1 : D.dep ≤ 64 := by decide) (h2 : E.dep < 64 := by decide) :
    PE X (.Compare a [op] [b] pos) (tE C env qB (ma.bind fun i => mx.bind fun xs => .ret (if neg then !(xs.any fun y => PyData.eqv (E.d y) (D.d i)) else xs.any fun y => PyData.eqv (E.d y) (D.d i)))) :=
  pe_imp (pe_cmpR ho ha hb hm) fun σ H Q _ ⟨S, g0, P, F, em, kk⟩ => ⟨S, g0, _, F, em, fun i g1 hi v S1 H1 F1 x1 hv => ⟨S1, g1, _, F1, hi, fun xs g2 px p S2 H2 F2 x2 rd => by
    obtain ⟨vs, hp, h3⟩ := rd _ S2 H2 F2 (Ex.refl S2)
    refine ⟨D.d i, xs.map E.d, Dp.up (x2.trans F2.e1) (D.rep hv), ?_, D.shaped h1 i, fun _ => kk _ _ px _ S2 H2 F2 (x1.trans x2) (by rw [List.any_map]; rfl)⟩
    have hall : DpAll X.K H2 vs (xs.map E.d) := dpAll (r := rb) (f := E.d) (fun h => E.rep h) (h3.mono fun _ _ z => rb.mono F2.e1 z)
    cases k with
    | true => exact .inl ⟨.lst (SqL.of hp) hall, (dL E).shaped (by show E.dep + 1 ≤ 64; omega) xs⟩
    | false => exact .inr ⟨.tup (TupAt.sq hp) hall, (dT E).shaped (by show E.dep + 1 ≤ 64; omega) xs⟩⟩⟩
theorem xe_inD {mx : W (List β)} (D : Dt ra) (E : Dt rb) (hu : X.A.units + 65 < cLine) (ha : PE X a (tE C env ra ma)) (hb : PE X b (tQ C env k rb mx)) (hm : behindInMarks .In b = false := by with_unfolding_all rfl) (h1 : D.dep ≤ 64 := by decide) (h2 : E.dep < 64 := by decide) :
    PE X (.Compare a [.In] [b] pos) (tE C env qB (ma.bind fun i => mx.bind fun xs => .ret (xs.any fun y => PyData.eqv (E.d y) (D.d i)))) := cq_inD D E (op_inT hu) ha hb hm h1 h2
theorem xe_ninD {mx : W (List β)} (D : Dt ra) (E : Dt rb) (hu : X.A.units + 65 < cLine) (ha : PE X a (tE C env ra ma)) (hb : PE X b (tQ C env k rb mx)) (hm : behindInMarks .NotIn b = false := by with_unfolding_all rfl) (h1 : D.dep ≤ 64 := by decide) (h2 : E.dep < 64 := by decide) :
    PE X (.Compare a [.NotIn] [b] pos) (tE C env qB (ma.bind fun i => mx.bind fun xs => .ret !(xs.any fun y => PyData.eqv (E.d y) (D.d i)))) := cq_inD D E (op_ninT hu) ha hb hm h1 h2

/-! ### built-in functions -/
/-- a call of a built-in function with one sequence -/
theorem xe_b1 {id : String} {R : List V → Hp → VK → Prop} {x : Str} {p : Pos} {mx : W (List α)} {f : List α → Option β} (hc : CallR X (.builtin id) R) (hv : bootBuiltins x = some (.builtin id)) (hg : Gl X x) (hm : X.mg x = none) (ha : PE X a (tQ C env k ra mx))
    (hr : ∀ (e0 : List Sl) S H σ p vs xs z Q, Fr C S H σ e0 → Lens H → Sq k H p vs → All2 (ra.p S) vs xs → f xs = some z → (∀ v S' H', Fr C S' H' σ e0 → Ex S S' → rb.p S' v z → Q v H') → R [.ref p] H Q)
    (hs : starEach [a] X.env = (false, eval a X.env) :: starEach [] X.env := by rfl) (hn : x ≠ "__name__" := by decide) (hdb : (x == ("__debug__" : Str)) = false := by decide) (hpl : (backTo pos (starEach [] X.env)).any (·.1) = false := by rfl) :
    PE X (.Call (.Name x p) [a] [] pos) (tE C env rb (mx.bind fun xs => ofO (f xs))) :=
  pe_imp (pe_callB hc hg hm hv (pa_cons (tQ_len ha) pa_nil hs) hn hdb hs hpl) fun σ H Q _ ⟨S, g0, P, F, em, kk⟩ => ⟨S, g0, _, F, em, fun xs g1 ⟨z, ez, pz⟩ p S1 H1 F1 x1 rd l1 => by
    obtain ⟨vs, hp, h2⟩ := rd _ S1 H1 F1 (Ex.refl S1)
    exact hr _ S1 H1 σ p vs xs z _ F1 l1 hp h2 ez fun v S' H' F' e' hv _ => kk z _ pz v S' H' F' (x1.trans e') hv⟩
theorem xe_t1 {id : String} {R : List V → Hp → VK → Prop} {x : Str} {p : Pos} {mx : W (List α)} {f : List α → Option β} (hc : CallR X (.type id) R) (hv : bootBuiltins x = some (.type id)) (hg : Gl X x) (hm : X.mg x = none) (ha : PE X a (tQ C env k ra mx))
    (hr : ∀ (e0 : List Sl) S H σ p vs xs z Q, Fr C S H σ e0 → Lens H → Sq k H p vs → All2 (ra.p S) vs xs → f xs = some z → (∀ v S' H', Fr C S' H' σ e0 → Ex S S' → rb.p S' v z → Q v H') → R [.ref p] H Q)
    (hs : starEach [a] X.env = (false, eval a X.env) :: starEach [] X.env := by rfl) (hn : x ≠ "__name__" := by decide) (hdb : (x == ("__debug__" : Str)) = false := by decide) (hpl : (backTo pos (starEach [] X.env)).any (·.1) = false := by rfl) :
    PE X (.Call (.Name x p) [a] [] pos) (tE C env rb (mx.bind fun xs => ofO (f xs))) :=
  pe_imp (pe_callTy hc hg hm hv (pa_cons (tQ_len ha) pa_nil hs) hn hdb hs hpl) fun σ H Q _ ⟨S, g0, P, F, em, kk⟩ => ⟨S, g0, _, F, em, fun xs g1 ⟨z, ez, pz⟩ p S1 H1 F1 x1 rd l1 => by
    obtain ⟨vs, hp, h2⟩ := rd _ S1 H1 F1 (Ex.refl S1)
    exact hr _ S1 H1 σ p vs xs z _ F1 l1 hp h2 ez fun v S' H' F' e' hv _ => kk z _ pz v S' H' F' (x1.trans e') hv⟩
/-- .. of one that can't fail -/
theorem tE_tot {f : α → β} (h : PE X e (tE C env rb (m.bind fun x => ofO (some (f x))))) : PE X e (tE C env rb (m.bind fun x => .ret (f x))) := by
  have e1 : (m.bind fun x => ofO (some (f x))) = (m.bind fun x => W.ret (f x)) := by
    funext g P
    show m g _ = m g _
    congr 1
    funext x g1
    exact congrFun (congrFun (ofO_some (f x)) g1) P
  rw [← e1]
  exact h
/-- sum of a tuple of ints -/
def rSumT (K : PySem.W.Frag) : List V → Hp → VK → Prop := fun vs H Q => ∃ (a : Addr) (ns : List Int), vs = [V.ref a] ∧ (SqL K H a (ns.map V.int) ∨ SqT K H a (ns.map V.int)) ∧ Q (.int ns.sum) H
theorem cr_sumT (hc : X.calm = true) : CallR X (.builtin "sum") (rSumT X.K) := by
  intro pins s σ H vs us Q I r h
  obtain ⟨a, ns, rfl, hs, q⟩ := h
  rcases hs with hs | hs
  · exact cr_sum hc pins s σ H _ us Q I r ⟨a, ns, rfl, hs, q⟩
  · obtain ⟨its, rv, hl, _⟩ := I.tuple hs
    rw [Vals.ref1 r]
    have hi := rv.ints
    obtain ⟨xs, e⟩ := hi.allInts.items
    have hn : numsOf (PySem.intItems xs).toList = ns := by rw [← e]; exact hi.numsOf
    rw [PySem.nums_intItems] at hn
    have hl' : s.heap.IsTuple a its.toArray := hl
    rw [e] at hl'
    refine PySem.W.ktm_sumG (I.ok.hd hc) hl' fun h' tk t' hk => ?_
    have := PySem.preSum_eq xs xs.size
    rw [PySem.preSum_eq, List.take_of_length_le (by simp), hn]
    exact ⟨.int _, H, I.kept hk, ⟨_, rfl⟩, q⟩
theorem xe_sum {p : Pos} {mx : W (List Int)} (hc : X.calm = true) (hg : Gl X "sum") (hm : X.mg "sum" = none) (ha : PE X a (tQ C env k qI mx)) (hs : starEach [a] X.env = (false, eval a X.env) :: starEach [] X.env := by rfl) :
    PE X (.Call (.Name "sum" p) [a] [] pos) (tE C env qI (mx.bind fun xs => .ret xs.sum)) :=
  tE_tot (xe_b1 (f := fun xs => some xs.sum) (cr_sumT hc) (by decide +kernel) hg hm ha (fun _ S H σ p vs xs z Q F _ hp h2 ez kk => ⟨p, xs, rfl, by rw [← flat_ints h2]; exact sq_seq hp, kk _ S H F (Ex.refl S) (by cases ez; rfl)⟩) hs)
theorem xe_all {p : Pos} {mx : W (List Bool)} (hc : X.calm = true) (hg : Gl X "all") (hm : X.mg "all" = none) (ha : PE X a (tQ C env true qB mx)) (hs : starEach [a] X.env = (false, eval a X.env) :: starEach [] X.env := by rfl) :
    PE X (.Call (.Name "all" p) [a] [] pos) (tE C env qB (mx.bind fun xs => .ret (xs.all id))) :=
  tE_tot (xe_b1 (f := fun xs => some (xs.all id)) (cr_all hc) (by decide +kernel) hg hm ha (fun _ S H σ p vs xs z Q F _ hp h2 ez kk => ⟨p, xs, rfl, by rw [← flat_bls h2]; exact SqL.of hp, kk _ S H F (Ex.refl S) (by cases ez; rfl)⟩) hs)
/-- tuple(xs) -/
theorem xe_tuple {p : Pos} {mx : W (List α)} (hg : Gl X "tuple") (hm : X.mg "tuple" = none) (ha : PE X a (tQ C env true ra mx)) (hs : starEach [a] X.env = (false, eval a X.env) :: starEach [] X.env := by rfl) :
    PE X (.Call (.Name "tuple" p) [a] [] pos) (tE C env (qT ra) mx) :=
  tE_tot (f := id) (xe_t1 (rb := qT ra) (f := some) RtU.call_tuple_ofU (by decide +kernel) hg hm ha (fun _ S H σ p vs xs z Q F _ hp h2 ez kk => ⟨p, vs, rfl, SqL.of hp, fun l o ho hl => by
    cases ez
    have ex := Ex.new (o := .frz o (.tup vs)) (F.e1.back hl)
    exact kk _ _ _ (F.new hl) ex ⟨l, vs, rfl, TupAt.new ho, h2.mono fun _ _ z => ra.mono ex z⟩⟩) hs)
/-- list(xs), a new list -/
theorem xn_list {p : Pos} {mx : W (List α)} (hg : Gl X "list") (hm : X.mg "list" = none) (ha : PE X a (tQ C env k ra mx)) (hs : starEach [a] X.env = (false, eval a X.env) :: starEach [] X.env := by rfl) :
    PE X (.Call (.Name "list" p) [a] [] pos) (tN C env ra mx) :=
  pe_imp (pe_callTy call_list_of hg hm (by decide +kernel) (pa_cons ha pa_nil hs) (by decide) (by decide) hs (by rfl)) fun σ H Q _ ⟨S, g0, P, F, em, kk⟩ => ⟨S, g0, _, F, em, fun xs g1 px p S1 H1 F1 x1 rd => by
    obtain ⟨vs, hp, h2⟩ := rd _ S1 H1 F1 (Ex.refl S1)
    exact ⟨p, vs, rfl, sq_seq hp, fun l hl _ => kk _ _ px l vs S1 H1 F1 x1 hl h2⟩⟩
/-! ints: abs, int, max, min of two -/
theorem xe_int1 {p : Pos} {mi : W Int} (hg : Gl X "int") (hm : X.mg "int" = none) (ha : PE X a (tE C env qI mi)) (hs : starEach [a] X.env = (false, eval a X.env) :: starEach [] X.env := by rfl) :
    PE X (.Call (.Name "int" p) [a] [] pos) (tE C env qI mi) :=
  pe_imp (pe_callTy call_int1 hg hm (by decide +kernel) (pa_cons ha pa_nil hs) (by decide) (by decide) hs (by rfl)) fun σ H Q _ ⟨S, g0, P, F, em, kk⟩ => ⟨S, g0, _, F, em, fun i g1 pi v S1 H1 F1 x1 hv => .inl ⟨i, by rw [show v = .int i from hv], fun _ => kk _ _ pi _ S1 H1 F1 x1 rfl⟩⟩
def b2 (b : Bool) : Int := if b = true then 1 else 0
theorem xe_intB {p : Pos} {mi : W Bool} (hg : Gl X "int") (hm : X.mg "int" = none) (ha : PE X a (tE C env qB mi)) (hs : starEach [a] X.env = (false, eval a X.env) :: starEach [] X.env := by rfl) :
    PE X (.Call (.Name "int" p) [a] [] pos) (tE C env qI (mi.bind fun b => .ret (b2 b))) :=
  pe_imp (pe_callTy call_int1 hg hm (by decide +kernel) (pa_cons ha pa_nil hs) (by decide) (by decide) hs (by rfl)) fun σ H Q _ ⟨S, g0, P, F, em, kk⟩ =>
    ⟨S, g0, _, F, em, fun b g1 pb v S1 H1 F1 x1 hv => .inr ⟨b, by rw [show v = .bl b from hv], fun _ => kk _ _ pb _ S1 H1 F1 x1 rfl⟩⟩
theorem xe_abs {p : Pos} {mi : W Int} (hg : Gl X "abs") (hm : X.mg "abs" = none) (ha : PE X a (tE C env qI mi)) (hs : starEach [a] X.env = (false, eval a X.env) :: starEach [] X.env := by rfl) :
    PE X (.Call (.Name "abs" p) [a] [] pos) (tE C env qI (mi.bind fun i => .ret (i.natAbs : Int))) :=
  pe_imp (pe_callB call_abs hg hm (by decide +kernel) (pa_cons ha pa_nil hs) (by decide) (by decide) hs (by rfl)) fun σ H Q _ ⟨S, g0, P, F, em, kk⟩ =>
    ⟨S, g0, _, F, em, fun i g1 pi v S1 H1 F1 x1 hv => ⟨i, by rw [show v = .int i from hv], fun _ => kk _ _ pi _ S1 H1 F1 x1 (by
      show V.int _ = V.int _
      congr 1
      split <;> omega)⟩⟩
theorem xe_two {id : String} {x : Str} {p : Pos} {mi mj : W Int} {g : Int → Int → Int} (hc : CallR X (.builtin id) (fun xs H Q => ∃ i j, xs = [.int i, .int j] ∧ Q (.int (g i j)) H)) (hv : bootBuiltins x = some (.builtin id)) (hg : Gl X x) (hm : X.mg x = none) (ha : PE X a (tE C env qI mi)) (hb : PE X b (tE C env qI mj))
    (hs : starEach [a, b] X.env = (false, eval a X.env) :: starEach [b] X.env := by rfl) (hs2 : starEach [b] X.env = (false, eval b X.env) :: starEach [] X.env := by rfl) (hn : x ≠ "__name__" := by decide) (hdb : (x == ("__debug__" : Str)) = false := by decide) (hpl : (backTo pos (starEach [b] X.env)).any (·.1) = false := by rfl) :
    PE X (.Call (.Name x p) [a, b] [] pos) (tE C env qI (mi.bind fun i => mj.bind fun j => .ret (g i j))) :=
  pe_imp (pe_callB hc hg hm hv (pa_cons ha (pa_cons hb pa_nil hs2) hs) hn hdb hs hpl) fun σ H Q _ ⟨S, g0, P, F, em, kk⟩ =>
    ⟨S, g0, _, F, em, fun i g1 hi v S1 H1 F1 x1 hv => ⟨S1, g1, _, F1, hi, fun j g2 pj w S2 H2 F2 x2 hw => ⟨i, j, by rw [show v = .int i from hv, show w = .int j from hw], fun _ => kk _ _ pj _ S2 H2 F2 (x1.trans x2) rfl⟩⟩⟩
theorem xe_max2 {p : Pos} {mi mj : W Int} (hc : X.calm = true) (hg : Gl X "max") (hm : X.mg "max" = none) (ha : PE X a (tE C env qI mi)) (hb : PE X b (tE C env qI mj))
    (hs : starEach [a, b] X.env = (false, eval a X.env) :: starEach [b] X.env := by rfl) (hs2 : starEach [b] X.env = (false, eval b X.env) :: starEach [] X.env := by rfl) (hpl : (backTo pos (starEach [b] X.env)).any (·.1) = false := by rfl) : PE X (.Call (.Name "max" p) [a, b] [] pos) (tE C env qI (mi.bind fun i => mj.bind fun j => .ret (if j > i then j else i))) :=
  xe_two (call_max2 hc) (by decide +kernel) hg hm ha hb hs hs2 (by decide) (by decide) hpl
theorem xe_min2 {p : Pos} {mi mj : W Int} (hc : X.calm = true) (hg : Gl X "min") (hm : X.mg "min" = none) (ha : PE X a (tE C env qI mi)) (hb : PE X b (tE C env qI mj))
    (hs : starEach [a, b] X.env = (false, eval a X.env) :: starEach [b] X.env := by rfl) (hs2 : starEach [b] X.env = (false, eval b X.env) :: starEach [] X.env := by rfl) (hpl : (backTo pos (starEach [b] X.env)).any (·.1) = false := by rfl) : PE X (.Call (.Name "min" p) [a, b] [] pos) (tE C env qI (mi.bind fun i => mj.bind fun j => .ret (if j < i then j else i))) :=
  xe_two (call_min2 hc) (by decide +kernel) hg hm ha hb hs hs2 (by decide) (by decide) hpl
/-! isinstance, the class a built-in one -/
/-- the type of what stands for data -/
structure Ty {α : Type} (r : Rp α) (t : String) : Prop where
  ty : ∀ {K : PySem.W.Frag} {H : Hp} {v : V} {a : α}, r.p H v a → RtU.TyU K H v (.type t)
theorem tyI : Ty qI "int" := ⟨fun {K H v a} h => by rw [show v = .int a from h]; exact .inl (.int a)⟩
theorem tyB : Ty qB "bool" := ⟨fun {K H v a} h => by rw [show v = .bl a from h]; exact .inl (.bl a)⟩
theorem tyN : Ty qN "NoneType" := ⟨fun {K H v a} h => by rw [show v = .non from h]; exact .inl .non⟩
theorem tyS : Ty qS "str" := ⟨fun {K H v a} h => by rw [show v = .str a from h]; exact .inl (.str a)⟩
theorem tyT : Ty (qT r) "tuple" := ⟨fun {K H v a} ⟨p, vs, e, hp, _⟩ => by rw [e]; exact .inr ⟨rfl, _, hp.choose, _, rfl, hp.choose_spec.2⟩⟩
theorem tyL : Ty (qL r) "list" := ⟨fun {K H v a} ⟨p, vs, e, hp, _⟩ => by rw [e]; exact .inl (.lst hp)⟩
theorem tyP : Ty (qP ra rb) "tuple" := ⟨fun {K H v a} ⟨p, x, y, e, hp, _⟩ => by rw [e]; exact .inr ⟨rfl, _, hp.choose, _, rfl, hp.choose_spec.2⟩⟩
theorem tyP3 : Ty (qP3 ra rb rc) "tuple" := ⟨fun {K H v a} ⟨p, x, y, z, e, hp, _⟩ => by rw [e]; exact .inr ⟨rfl, _, hp.choose, _, rfl, hp.choose_spec.2⟩⟩
theorem xe_isi {t n : String} {ans : Bool} {x : Str} {p p2 : Pos} (T : Ty r t) (hg : Gl X "isinstance") (hm : X.mg "isinstance" = none) (ha : PE X a (tE C env r m)) (hgx : Gl X x) (hmx : X.mg x = none) (hv : bootBuiltins x = some (.type n)) (hk : kitB t n = some ans)
    (hn : x ≠ "__name__" := by decide) (hdb : (x == ("__debug__" : Str)) = false := by decide) (hs : starEach [a, .Name x p2] X.env = (false, eval a X.env) :: starEach [.Name x p2] X.env := by rfl) (hs2 : starEach [.Name x p2] X.env = (false, eval (.Name x p2) X.env) :: starEach [] X.env := by rfl) (hpl : (backTo pos (starEach [.Name x p2] X.env)).any (·.1) = false := by rfl) :
    PE X (.Call (.Name "isinstance" p) [a, .Name x p2] [] pos) (tE C env qB (m.bind fun _ => .ret ans)) :=
  pe_imp (pe_callB RtU.call_isiU hg hm (by decide +kernel) (pa_cons ha (pa_cons (pe_bltn (v := .ty n) hgx hmx hv rfl hn hdb) pa_nil hs2) hs) (by decide) (by decide) hs hpl) fun σ H Q _ ⟨S, g0, P, F, em, kk⟩ =>
    ⟨S, g0, _, F, em, fun y g1 py v S1 H1 F1 x1 hv => ⟨v, n, t, ans, rfl, T.ty (r.mono F1.e1 hv), hk, fun _ => kk _ _ py _ S1 H1 F1 x1 rfl⟩⟩
/-! sorted of ints -/
def insI (x : Int) : List Int → List Int
  | [] => [x]
  | y :: ys => if x ≤ y then x :: y :: ys else y :: insI x ys
def sortI : List Int → List Int
  | [] => []
  | x :: xs => insI x (sortI xs)
theorem insI_perm (x : Int) : ∀ ys : List Int, (insI x ys).Perm (x :: ys)
  | [] => .refl _
  | y :: ys => by
    unfold insI
    split
    · exact .refl _
    · exact ((insI_perm x ys).cons y).trans (.swap x y ys)
theorem sortI_perm : ∀ xs : List Int, (sortI xs).Perm xs
  | [] => .refl _
  | x :: xs => (insI_perm x (sortI xs)).trans ((sortI_perm xs).cons x)
theorem insI_sorted (x : Int) : ∀ ys : List Int, ys.Pairwise (· ≤ ·) → (insI x ys).Pairwise (· ≤ ·)
  | [], _ => by simp [insI]
  | y :: ys, h => by
    unfold insI
    have h' := List.pairwise_cons.mp h
    split
    · rename_i hxy
      refine List.pairwise_cons.mpr ⟨fun z hz => ?_, h⟩
      rcases List.mem_cons.mp hz with e | hz
      · rw [e]; exact hxy
      · exact Int.le_trans hxy (h'.1 z hz)
    · rename_i hxy
      refine List.pairwise_cons.mpr ⟨fun z hz => ?_, insI_sorted x ys h'.2⟩
      rcases List.mem_cons.mp ((insI_perm x ys).mem_iff.mp hz) with e | hz
      · rw [e]; omega
      · exact h'.1 z hz
theorem sortI_sorted : ∀ xs : List Int, (sortI xs).Pairwise (· ≤ ·)
  | [] => .nil
  | x :: xs => insI_sorted x _ (sortI_sorted xs)
theorem sorted_unique : ∀ {xs ys : List Int}, xs.Perm ys → xs.Pairwise (· ≤ ·) → ys.Pairwise (· ≤ ·) → xs = ys
  | [], ys, h, _, _ => (List.Perm.nil_eq h)
  | x :: xs, [], h, _, _ => absurd h.length_eq (by simp)
  | x :: xs, y :: ys, h, h1, h2 => by
    have a1 := List.pairwise_cons.mp h1
    have a2 := List.pairwise_cons.mp h2
    have e : x = y := by
      have m1 : x ∈ y :: ys := h.mem_iff.mp List.mem_cons_self
      have m2 : y ∈ x :: xs := h.mem_iff.mpr List.mem_cons_self
      have l1 : y ≤ x := by
        rcases List.mem_cons.mp m1 with e | m
        · omega
        · exact a2.1 x m
      have l2 : x ≤ y := by
        rcases List.mem_cons.mp m2 with e | m
        · omega
        · exact a1.1 y m
      omega
    subst e
    rw [sorted_unique (List.Perm.cons_inv h) a1.2 a2.2]
def rSortT (K : PySem.W.Frag) : List V → Hp → VK → Prop := fun vs H Q => ∃ (a : Addr) (ns : List Int), vs = [V.ref a] ∧ SqL K H a (ns.map V.int) ∧ ∀ (p : Addr), H p = none → Q (.ref p) (upd H p (.lst ((sortI ns).map V.int)))
theorem cr_sortL : CallR X (.builtin "sorted") (rSortT X.K) := by
  intro pins s σ H vs us Q I r h
  obtain ⟨a, ns, rfl, hs, q⟩ := h
  exact cr_sortedI pins s σ H _ us Q I r ⟨a, ns, rfl, hs, fun ns' p h1 h2 hp => by
    rw [sorted_unique (h1.trans (sortI_perm ns).symm) h2 (sortI_sorted ns)]
    exact q p hp⟩
theorem xn_sorted {p : Pos} {mx : W (List Int)} (hg : Gl X "sorted") (hm : X.mg "sorted" = none) (ha : PE X a (tQ C env true qI mx)) (hs : starEach [a] X.env = (false, eval a X.env) :: starEach [] X.env := by rfl) :
    PE X (.Call (.Name "sorted" p) [a] [] pos) (tN C env qI (mx.bind fun xs => .ret (sortI xs))) :=
  pe_imp (pe_callB cr_sortL hg hm (by decide +kernel) (pa_cons ha pa_nil hs) (by decide) (by decide) hs (by rfl)) fun σ H Q _ ⟨S, g0, P, F, em, kk⟩ => ⟨S, g0, _, F, em, fun xs g1 px p S1 H1 F1 x1 rd => by
    obtain ⟨vs, hp, h2⟩ := rd _ S1 H1 F1 (Ex.refl S1)
    exact ⟨p, xs, rfl, by rw [← flat_ints h2]; exact SqL.of hp, fun l hl _ => kk _ _ px l _ S1 H1 F1 x1 hl (All2.of_map _)⟩⟩
end
end Rt

set_option maxRecDepth 100000
set_option maxHeartbeats 4000000
/-! RtE: enumerate of a tuple. -/
namespace RtE
open PySem PySem.Spec PySem.Calls PyProof.Rows L2
abbrev itT (l : Addr) : Obj := { cls := .type "tuple_iterator", data := .fields #[.ref l, .int 0 0] }
abbrev enO (n : Addr) : Obj := { cls := .type "enumerate", data := .fields #[.none, .bool false, .ref n, rawInt 0, .none, .none] }
theorem new_meets (l : Addr) (its : Array Value) :
    Meets (Builtin.«enumerate.__new__» ⟨[.type "enumerate", .ref l], []⟩) (fun _ R s => s.heap.IsTuple l its ∧
      R (.ok (.ret (.ref (s.heap.push (itT l)).objs.size))) { s with heap := (s.heap.push (itT l)).push (enO s.heap.objs.size) }) :=
  .of_wp fun prog w A R s hs => by
    obtain ⟨hp, g, d, tk, os⟩ := s
    obtain ⟨hL, h⟩ := hs
    obtain ⟨o, hl, hc, n, hd⟩ := id hL
    have hsub := sub_enumerate
    wp_walk
    refine wpAny_stack_any fun st => wpAny_pure ?_
    split
    · rename_i c _ _ _ _ _
      cases (c == Value.type "enumerate")
      · wp_walk using AutoSeq1.wpAny_loadPart' hl, wpAny_pyIter_tuple hL
        exact ⟨_, rfl, h⟩
      · wp_walk using AutoSeq1.wpAny_loadPart' hl, wpAny_pyIter_tuple hL
        exact ⟨_, rfl, h⟩
    · wp_walk using AutoSeq1.wpAny_loadPart' hl, wpAny_pyIter_tuple hL
      exact ⟨_, rfl, h⟩
section
variable {prog : Program} {w : World} {A : Around} {E : Value → Shared → Prop} {s : Shared}
theorem call_en {l : Addr} {its : Array Value} {Q : Value → Shared → Prop} (hL : s.heap.IsTuple l its)
    (h : ∀ h', IsEnum h' (s.heap.objs.size + 1) s.heap.objs.size 0 .none → h'.IsTupleIter s.heap.objs.size l 0 → h'.objs.size = s.heap.objs.size + 2 →
      (∀ b o, s.heap.get? b = some o → h'.get? b = some o) → Q (.ref (s.heap.objs.size + 1)) { s with heap := h' }) :
    wpAny (model prog w) A (call (.type "enumerate") [.ref l]) Q E s := by
  refine callType_new F.called_enumerate (by decide) (F.typeCall_enumerate_1 _) (F.newCall_enumerate_1 _) (fun obj => F.args_object_init_2 obj _) F.entry_enumerate_new (new_meets l its) ⟨hL, ?_⟩
  have hz : (s.heap.push (itT l)).objs.size = s.heap.objs.size + 1 := Heap.size_push ..
  show _ ∧ _
  rw [hz]
  have he : IsEnum ((s.heap.push (itT l)).push (enO s.heap.objs.size)) (s.heap.objs.size + 1) s.heap.objs.size 0 .none := by
    have := Heap.get?_push_size (s.heap.push (itT l)) (o := enO s.heap.objs.size) rfl
    rw [hz] at this
    exact this
  exact ⟨⟨_, he, rfl⟩, h _ he ⟨_, Heap.get?_push_of_some _ (Heap.get?_push_size _ rfl), rfl, rfl⟩ (by rw [Heap.size_push, hz]) fun b o x => Heap.get?_push_of_some _ (Heap.get?_push_of_some _ x)⟩
end
/-- a tuple's items, each in a new pair with its number -/
def ItT (K : PySem.W.Frag) (a : Addr) : It where
  go i H := ∃ (xs : List V) (x : V), SqT K H a xs ∧ xs[i]? = some x
  yld i H v H' := ∃ T x, v = .ref T ∧ H T = none ∧ H' = upd H T (.tup [.int (i : Nat), x]) ∧ ∀ xs, SqT K H a xs → xs[i]? = some x
  stop i H := ∃ xs : List V, SqT K H a xs ∧ xs.length ≤ i
theorem turn {P : Program} {w : World} {K : PySem.W.Frag} {elts : List Expr} {kk : Nat} {tpos : Pos} (a e it : Addr) :
    Turn P w K (.Tuple elts kk tpos) (ItT K a) [e, it] e (fun i h => (∃ old, IsEnum h e it ((i : Nat) : Int) old) ∧ h.IsTupleIter it a i ∧ e ≠ it) where
  mem := by simp
  obj := fun i h st b hb => by
    obtain ⟨⟨old, he⟩, ⟨o, ho, hc, hd⟩, _⟩ := st
    rcases (show b = e ∨ b = it by simpa using hb) with z | z
    · rw [z]
      exact ⟨_, he, fun v q => nomatch q⟩
    · rw [z]
      exact ⟨o, ho, fun v q => by rw [hd] at q; cases q⟩
  keep := fun i h h' st k => let ⟨⟨old, he⟩, hi, hne⟩ := st; ⟨⟨old, k e (by simp) _ he⟩, hi.at fun o q => k it (by simp) o q, hne⟩
  item := by
    intro X hP hw hK hc i pins s σ H E I hf st hg
    subst hP hw hK
    obtain ⟨⟨old, he⟩, hit, hne⟩ := st
    obtain ⟨xs, x, hq, hx⟩ := hg
    obtain ⟨its, rv, p, hz⟩ := I.tuple hq
    obtain ⟨u, hu, ru⟩ := rv.get hx
    have hel : e < s.heap.objs.size := Heap.lt_size he
    have hil : it < s.heap.objs.size := let ⟨_, q, _⟩ := hit; Heap.lt_size q
    have p' : s.heap.IsTuple a its.toArray := p
    have hat : a ≠ it := fun z => by
      obtain ⟨o1, q1, q2, _⟩ := hit
      obtain ⟨o2, q3, q4, _⟩ := p'
      rw [z, q1] at q3
      cases q3
      rw [q2] at q4
      exact absurd q4 (by decide)
    have hea : e ≠ a := fun z => by
      obtain ⟨o2, q3, q4, _⟩ := p'
      rw [← z, show s.heap.get? e = _ from he] at q3
      cases q3
      exact absurd q4 (by show ¬ (Value.type "enumerate" = Value.type "tuple"); decide)
    have D := Draws.tuple (prog := X.prog) (w := X.w) (A := X.A.in1) (I.ok.hd hc) it a hat its.toArray
    have hlt : i < its.toArray.size := by
      have := (List.getElem?_eq_some_iff.mp hu).1
      simpa using this
    refine wpAny_pyNext_enum_itemD D he ⟨hit, p'⟩ hlt hne (by simp [hne, hea]) fun x' h' tk hx' ho hst hT hsz hk => ?_
    have ex : x' = u := by
      have : its.toArray[i]? = some u := by simpa using hu
      rw [this] at hx'
      exact (Option.some.inj hx').symm
    subst ex
    refine ⟨_, rfl, wpAny_letOwnedTupleGo_enum (s := { s with heap := h', toks := tk + 1 }) ho fun h'' he' sb => ?_⟩
    have hT2 := (sb.2 _ (Nat.ne_of_gt hel)).trans hT
    have new : ObjOk X.prog X.w (upd H s.heap.objs.size (.tup [.int (i : Nat), x])) h'' s.heap.objs.size (.tup [.int (i : Nat), x]) :=
      ⟨by show 2 ≤ sizeLine; decide, [.int i tk, x'], .cons ⟨_, rfl⟩ (.cons ru .nil), ⟨_, hT2, rfl, _, rfl⟩⟩
    have I1 : Inv X pins σ (upd H s.heap.objs.size (.tup [.int (i : Nat), x])) { s with heap := h'', toks := tk + 1 } :=
      I.turnedNew (ch := [e, it]) (fun b ob hb q => (sb.2 b (fun z => hb (by simp [z]))).trans (hk b ob (fun z => hb (by simp [z])) (fun z => hb (by simp [z])) q)) hf (Nat.le_refl _) new
    refine ⟨.ref s.heap.objs.size, _, I1, rfl, ⟨_, x, rfl, I.hok.fresh (Nat.le_refl _), rfl, fun ys hy => by rw [I.tuple_inj hy hq]; exact hx⟩, ⟨⟨x', ?_⟩, hst.1.at fun o q => (sb.2 it (Ne.symm hne)).trans q, hne⟩, fun b hb => ?_⟩
    · rw [show ((i + 1 : Nat) : Int) = (i : Int) + 1 by omega]
      exact he'
    · have hb' : b < s.heap.objs.size := by
        rcases (show b = e ∨ b = it by simpa using hb) with z | z
        · rw [z]; exact hel
        · rw [z]; exact hil
      rw [upd_ne (Nat.ne_of_lt hb')]
      exact (hf b hb).1
  done := by
    intro X hP hw hK hc i pins s σ H E I hf st hg
    subst hP hw hK
    obtain ⟨⟨old, he⟩, hit, hne⟩ := st
    obtain ⟨xs, hq, hx⟩ := hg
    obtain ⟨its, rv, p, hz⟩ := I.tuple hq
    obtain ⟨f0, f1, f2, f3, f4, f5⟩ := hf it (by simp)
    have hl := rv.length
    have p' : s.heap.IsTuple a its.toArray := p
    have hat : a ≠ it := fun z => by
      obtain ⟨o1, q1, q2, _⟩ := hit
      obtain ⟨o2, q3, q4, _⟩ := p'
      rw [z, q1] at q3
      cases q3
      rw [q2] at q4
      exact absurd q4 (by decide)
    -- the iterator stands behind the last item, or at it
    have D0 : Draws X.prog X.w X.A.in1 it [it, a] i (fun _ _ => False) (fun j h => j = i ∧ h.IsTupleIter it a i ∧ h.IsTuple a its.toArray) := by
      have D := Draws.tuple (prog := X.prog) (w := X.w) (A := X.A.in1) (I.ok.hd hc) it a hat its.toArray
      refine ⟨fun j h st => D.live i h st.2, fun j h h' st k => ⟨st.1, D.frame i h h' st.2 k⟩, fun j s' Q E' hj st _ => absurd st.1 (Nat.ne_of_lt hj), fun s' Q E' st hQ => ?_⟩
      exact wpAny_nextOf_tuple_end (I.ok.hd hc) st.2.1 st.2.2 (by simp; omega) hQ
    exact wpAny_pyNext_enum_endD D0 he ⟨rfl, hit, p'⟩ fun h' eb => ⟨rfl, I.turned (t' := s.toks) (fun b o hb q => eb b o hb q) f0 f1 f3 f4 f5⟩
  self := fun A i s Q E st h => let ⟨⟨_, he⟩, _⟩ := st; wpAny_pyIter_enum he h
def iEnT (K : PySem.W.Frag) (ta : TA) : TI := fun σ H R => ta σ H fun vs H1 => ∃ a xs, vs = [.ref a] ∧ SqT K H1 a xs ∧ R (ItT K a) H1
theorem pi_en {X : Cx} {e : Expr} {ta : TA} {p pos tpos : Pos} {elts : List Expr} {kk : Nat} (hg : Gl X "enumerate") (hm : X.mg "enumerate" = none) (ha : PA X [e] ta) (hs : starEach [e] X.env = [(false, eval e X.env)] := by rfl) :
    PI X (.Tuple elts kk tpos) (.Call (.Name "enumerate" p) [e] [] pos) (iEnT X.K ta) := by
  refine ⟨fun pins s σ H R I h => ?_⟩
  refine Call_ (ld_blt I hg hm boot_enumerate (PyProof.Rows.callWith_type1 (thn (ha.run pos pins s σ H _ I h) fun us s1 ⟨vs, H1, I1, r1, q1⟩ => ?_) hs rfl))
  obtain ⟨a, xs, ex, hq, q⟩ := q1
  subst ex
  cases r1 with
  | cons r rr =>
    cases rr
    cases r
    obtain ⟨its, rv, p', hz⟩ := I1.tuple hq
    refine call_en (show s1.heap.IsTuple a its.toArray from p') fun h' he hit hsz hk => wpAny_pyIter_enum he ?_
    have I2 : Inv X pins σ H1 { s1 with heap := h' } := I1.kept (t' := s1.toks) hk
    refine ⟨s1.heap.objs.size + 1, [s1.heap.objs.size + 1, s1.heap.objs.size], _, _, H1, rfl, I2, turn a (s1.heap.objs.size + 1) s1.heap.objs.size, ⟨⟨.none, he⟩, hit, Nat.succ_ne_self _⟩, fun b hb => ?_, q⟩
    have hle : s1.heap.objs.size ≤ b := by
      rcases (show b = s1.heap.objs.size + 1 ∨ b = s1.heap.objs.size by simpa using hb) with z | z
      · rw [z]; exact Nat.le_add_right _ _
      · rw [z]; exact Nat.le_refl _
    exact I1.fpOk hle (I1.hok.fresh hle)
end RtE

set_option maxRecDepth 100000
set_option maxHeartbeats 4000000
/-! RtP: what a def promises where something is known of what stands around the call. -/
namespace Rt
open PySem L2 PySem.Spec PyProof.Rows
/-- what a call deeper keeps -/
def Stb (π : Around → Prop) : Prop := ∀ A env, π A → π (A.deeper env)
theorem stb_true : Stb fun _ => True := fun _ _ _ => True.intro
theorem stb_guards : Stb fun A => A.guards = some [] := fun _ _ h => h
/-- a def's promise, called where π holds -/
structure FnP (π : Around → Prop) (P : Program) (w : World) (K : PySem.W.Frag) (mg : Str → Option Value) (base : Heap) (CX : CXT) (k : Nat) (f : Addr) (fd : FuncData) (ps : List Str) (sp : Sp) : Prop where
  ln : ∀ vs H Q E, sp vs H Q E → vs.length = ps.length
  go : ∀ (A : Around) (outer : List Env) (s : Shared) (H : Hp) (as : Args) (us : List Value) (vs : List V) (Q : VK) (E : XK), π A → Room k A → Env0 P w K mg base A outer s H → BindsTo s fd as (ps.zip us) → Vals vs us → sp vs H Q E →
    codeAny (model P w) A (.call (.ref f) as) (CR CX outer P w H s Q E) s
section
variable {π : Around → Prop} {P : Program} {w : World} {K : PySem.W.Frag} {mg : Str → Option Value} {base : Heap} {CX : CXT} {k : Nat} {f : Addr} {fd : FuncData} {ps : List Str} {sp : Sp}
theorem FnP.ok (F : FnP (fun _ => True) P w K mg base CX k f fd ps sp) : FnOk P w K mg base CX k f fd ps sp := ⟨F.ln, fun A outer s H as us vs Q E r e b v q => F.go A outer s H as us vs Q E True.intro r e b v q⟩
theorem FnP.of (F : FnOk P w K mg base CX k f fd ps sp) : FnP π P w K mg base CX k f fd ps sp := ⟨F.len, fun A outer s H as us vs Q E _ r e b v q => F.run A outer s H as us vs Q E r e b v q⟩
theorem FnP.more {j : Nat} (F : FnP π P w K mg base CX j f fd ps sp) (h : j ≤ k) : FnP π P w K mg base CX k f fd ps sp := ⟨F.ln, fun A outer s H as us vs Q E hp r e b v q => F.go A outer s H as us vs Q E hp (r.mono h) e b v q⟩
/-- a def by its body -/
theorem fnP_of {name qual : Str} {params : Arguments} {body : List Stmt} {scope : Scope} {dV kV doc pm cdv ct oc : Value} {an od : Option Addr} {osl : Array (Option Value)} {N : List Str} (sπ : Stb π)
    (lk : K.lookup f = some ⟨oc, od, .func (PySem.W.fnOf name qual params body scope dV kV doc pm an cdv ct), osl⟩) (hcd : PySem.W.codeIn K cdv qual = true) (S : FnScope N ps scope) (ln : ∀ vs H Q E, sp vs H Q E → vs.length = ps.length)
    (hbody : ∀ (A : Around) (outer : List Env) (s : Shared) (H : Hp) (vs : List V) (Q : VK) (E : XK), π (A.deeper (envOfC qual scope s.heap.objs.size f cdv)) → Room k (A.deeper (envOfC qual scope s.heap.objs.size f cdv)) → sp vs H Q E →
      ∃ t, PSs (cxOf CX P w K mg base N qual scope f cdv A outer s H E) body t ∧ t { nx := fun _ H' => Q .non H', rt := Q } (start N vs) H) :
    FnP π P w K mg base CX (k + 1) f (PySem.W.fnOf name qual params body scope dV kV doc pm an cdv ct) ps sp := by
  refine ⟨ln, fun A outer s H as us vs Q E hp hr e0 hb r q => ?_⟩
  have hl := ln _ _ _ _ q
  have kx : K.In s.heap := e0.mod.kin.keeps fun b o e => (e0.bs b o e).1
  have hkind : ∀ y ∈ ps.zip us, scope.names.lookup y.1 = some .local ∨ (scope.names.lookup y.1 = some .cell ∧ ((cellsFrom (s.heap.objs.size + 1) scope.names []).lookup y.1).isSome = true) := fun y hy =>
    (S.par y.1 (List.of_mem_zip (show (y.1, y.2) ∈ ps.zip us from hy)).1).imp id fun z => ⟨z, PySem.W.cellsFrom_some _ _ _ (.inl z)⟩
  refine codeAny_call_function hr.depth (kx _ _ lk) rfl S.co S.gen rfl (PySem.W.codeRec_of kx hcd) (hb _ _ _ _ (wpAny_newFunctionEnv_cells S.kind hkind fun env he s1 x => ?_))
  subst he
  refine ⟨(e0.mod.nolimit.keeps fun b o e => (e0.bs b o e).1).keeps x.toInCall.keep, codeAny_func ?_⟩
  obtain ⟨t, ht, ht2⟩ := hbody A outer s H vs Q E (sπ _ _ hp) (hr.deeper _) q
  refine wpAny_mono (ht.run [] s1 (start N vs) H _ (inv_start S hr.hd e0 hl r x) ht2) (fun fl s' hs => ?_) fun e s' hs => hs
  cases fl with
  | ret u => exact let ⟨v, _, H', J, rv, z⟩ := hs; ⟨v, H', J.os, J.bare, J.base, J.hok, rv, z⟩
  | next => exact let ⟨_, H', J, z⟩ := hs; ⟨V.non, H', J.os, J.bare, J.base, J.hok, rfl, z⟩
  | brk => exact let ⟨_, _, _, z⟩ := hs; z.elim
  | cont => exact let ⟨_, _, _, z⟩ := hs; z.elim
theorem funP_ok {x qual : Str} {st : Stmt} {N : List Str} (sπ : Stb π) (F : Fun K x qual st f fd) (S : FnScope N ps (defScope st)) (ln : ∀ vs H Q E, sp vs H Q E → vs.length = ps.length)
    (hbody : ∀ (cdv : Value) (A : Around) (outer : List Env) (s : Shared) (H : Hp) (vs : List V) (Q : VK) (E : XK), π (A.deeper (envOfC qual (defScope st) s.heap.objs.size f cdv)) → Room k (A.deeper (envOfC qual (defScope st) s.heap.objs.size f cdv)) → sp vs H Q E →
      ∃ t, PSs (cxOf CX0 P w K mg base N qual (defScope st) f cdv A outer s H E).nox (defBody st) t ∧ t { nx := fun _ H' => Q .non H', rt := Q } (start N vs) H) : FnP π P w K mg base CX0 (k + 1) f fd ps sp := by
  obtain ⟨oc, od, kV, doc, pm, an, cdv, ct, osl, rfl, lk, hcd⟩ := F.ex
  exact fnP_of sπ lk hcd S ln fun A outer s H vs Q E hp hr q => let ⟨t, h1, h2⟩ := hbody cdv A outer s H vs Q E hp hr q; ⟨t, h1.nox, h2⟩
end
section
variable {X : Cx} {π : Around → Prop} {CX : CXT} {k : Nat} {f : Addr} {fd : FuncData} {ps : List Str} {sp : Sp} {dvs : List V} {ds : List Value} {E : XK} {x : Str} {p pos : Pos} {e : Expr} {es : List Expr} {t : TA}
theorem run_fnP {pins : List (Addr × Obj)} {σ : L2.St} {H : Hp} {s : Shared} {Q : VK} {us : List Value} {vs : List V} (F : FnP π X.prog X.w X.K X.mg X.base CX k f fd ps sp) (hp : π X.A) (hr : Room k X.A) (hb : Binds X.K fd ps ds) (hd : Vals dvs ds) (hx : Passes CX X E)
    (I : Inv X pins σ H s) (r : Vals vs us) (h : sp (vs ++ dvs) H Q E) : wpAny (model X.prog X.w) X.A (call (.ref f) us) (EP X pins σ Q) X.xe s := by
  have hl : (us ++ ds).length = ps.length := (r.append hd).length.symm.trans (F.ln _ _ _ _ h)
  refine wpAny_call (codeAny_mono (F.go X.A X.stack s H ⟨us, []⟩ (us ++ ds) (vs ++ dvs) Q E hp hr I.env0 (hb s us I.kIn hl) (r.append hd) h) fun r s' hq => ?_)
  match r, hq with
  | .error e, hq => exact hx pins σ H s e s' I hq
  | .ok (.ret u), hq => exact I.after hq
  | .ok .next, hq => exact False.elim hq
  | .ok .brk, hq => exact False.elim hq
  | .ok .cont, hq => exact False.elim hq
theorem pe_callP (F : FnP π X.prog X.w X.K X.mg X.base CX k f fd ps sp) (hp : π X.A) (hr : Room k X.A) (hg : Gl X x) (hm : X.mg x = some (.ref f)) (hk : PySem.W.keepIn X.K (.ref f) = true) (hb : Binds X.K fd ps ds) (hd : Vals dvs ds) (hx : Passes CX X E)
    (ha : PA X (e :: es) t) (hdb : (x == ("__debug__" : Str)) = false := by decide) (he : starEach (e :: es) X.env = (false, eval e X.env) :: starEach es X.env := by rfl) (hpl : (backTo pos (starEach es X.env)).any (·.1) = false := by rfl) :
    PE X (.Call (.Name x p) (e :: es) [] pos) (tCall sp dvs E t) :=
  ⟨fun pins s σ H Q I h => wpAny_Call_Name_kw (ld_glob I hg hm (PySem.W.callWith_K (h₀ := X.base) I.ok.mod.kin hk (thn (ha.run pos pins s σ H _ I h) fun us s1 ⟨vs, H1, I1, r, q⟩ => ⟨I1.kIn, run_fnP F hp hr hb hd hx I1 r q⟩) he hpl) hdb)⟩
end
/-! ### the law's own call -/
section
/-- the law's promise, behind the top; called there no repr is under way -/
theorem law_callP {π : Around → Prop} {P : Program} {w : World} {K : PySem.W.Frag} {mg mb : Str → Option Value} {CX : CXT} {k : Nat} {fa a : Addr} {fd : FuncData} {x : Str} {sp : Sp} {s1 : Shared} {vs : List Value} {ns : List Int} (hpi : π callerA)
    (kx : K.In s1.heap) (hns : s1.heap.Ns mainGlobals mg) (hbn : s1.heap.Ns builtinsNs mb) (hbb : ∀ x : Str, x ≠ "__name__" → mb x = bootBuiltins x) (hlim : s1.heap.NoLimit) (hgn : s1.gens = #[])
    (hget : s1.heap.get? a = some { cls := .type "list", data := .seq vs.toArray }) (hint : IntsAre vs ns) (hlen : ns.length ≤ sizeLine) (hroom : Room k callerA)
    (FF : ∀ base : Heap, K.In base → base.Ns mainGlobals mg → FnP π P w K mg base CX k fa fd [x] sp) (hbind : ∀ (s : Shared) (u : Value), BindsTo s fd ⟨[u], []⟩ [(x, u)])
    (hspec : ∀ H : Hp, Only H → SqL K H a (ns.map V.int) → sp [.ref a] H (fun v _ => v = .bl true) fun _ _ _ => False) (hcx : ∀ H e s', CX [] H s1 (fun _ _ _ => False) e s' → False) :
    codeAny (model P w) callerA (.call (.ref fa) ⟨[.ref a], []⟩) (fun r s' => r = .ok (.ret (.bool true)) ∧ OldK s1.heap s'.heap ∧ s'.os = s1.os ∧ AllBare s'.gens) s1 := by
  have rv := vals_ints hint
  have main : ∀ H : Hp, Only H → SqL K H a (ns.map V.int) → HOk P w H s1.heap → (∀ b, H b ≠ none → b = a) → (H a ≠ none → K.lookup a = none) →
      codeAny (model P w) callerA (.call (.ref fa) ⟨[.ref a], []⟩) (fun r s' => r = .ok (.ret (.bool true)) ∧ OldK s1.heap s'.heap ∧ s'.os = s1.os ∧ AllBare s'.gens) s1 := fun H hO hS hok hA hKa => by
    have only_a : ∀ {b : Addr} {u : HO}, H b = some u → b = a := fun {b u} q => hA b (by rw [q]; exact fun z => nomatch z)
    have noDict : ∀ {b : Addr} {o : Obj} {es : Array DictEntry} {ep : Nat}, s1.heap.get? b = some o → o.data = .dict es ep → H b = none := fun {b o es ep} e d => by
      cases q : H b with
      | none => rfl
      | some u =>
        rw [only_a q, hget] at e
        cases e
        cases (show Data.seq vs.toArray _ = Data.dict es ep from d)
    have nsk : ∀ {b : Addr} {m : Str → Option Value}, s1.heap.Ns b m → (hidT s1.heap H).Ns b m := fun {b m} ⟨o, es, ep, e, d, r⟩ => ⟨o, es, ep, hidT_get e (noDict e d), d, r⟩
    have kxb : K.In (hidT s1.heap H) := fun b o e => hidT_get (kx b o e) (by
      cases q : H b with
      | none => rfl
      | some u =>
        have e' := only_a q
        subst e'
        rw [hKa (by rw [q]; exact fun z => nomatch z)] at e
        cases e)
    have md : Mod K mg (hidT s1.heap H) := ⟨kxb, nsk hns, ⟨mb, nsk hbn, hbb⟩, let ⟨mc, h1, h2⟩ := hlim; ⟨mc, nsk h1, h2⟩⟩
    have env0 : Env0 P w K mg (hidT s1.heap H) callerA [] s1 H := ⟨rfl, md, fun b o e => of_hidT e, Nat.le_of_eq (hidT_size _ _), trivial, fun b hb => absurd (show b ∈ ([] : List Addr) from hb) List.not_mem_nil, hok, .of_eq hgn⟩
    refine codeAny_mono ((FF _ kxb (nsk hns)).go callerA [] s1 H ⟨[.ref a], []⟩ [.ref a] [.ref a] _ _ hpi hroom env0 (hbind s1 (.ref a)) (.cons rfl .nil) (hspec H hO hS)) fun r s' h => ?_
    match r, h with
    | .error e, h => exact (hcx H e s' h).elim
    | .ok .next, h => exact False.elim h
    | .ok .brk, h => exact False.elim h
    | .ok .cont, h => exact False.elim h
    | .ok (.ret u), ⟨v, H', os, bare, un, hok', r', q⟩ =>
      have q : v = .bl true := q
      subst q
      obtain rfl : u = Value.bool true := r'
      refine ⟨rfl, OldK.of_keep fun b o e => ?_, os, bare⟩
      rcases hO b with z | ⟨ob, xs, z⟩
      · exact un.keep b o e z (fun z => absurd (show b ∈ ([] : List Addr) from z) List.not_mem_nil) List.not_mem_nil
      · obtain ⟨e1, _⟩ := hok b _ z
        obtain ⟨e2, _⟩ := hok' b _ (un.frzs b ob _ z)
        rw [e] at e1
        cases e1
        exact e2
  cases hk : K.lookup a with
  | some o =>
    have e := kx a o hk
    rw [hget] at e
    cases e
    exact main (fun _ => none) (fun _ => .inl rfl) (.inr ⟨_, vs.toArray, _, hk, rfl, rfl, rfl, by rw [List.size_toArray, hint.length]; exact hlen, by simpa using rv⟩) (fun b u z => nomatch (show (none : Option HO) = some u from z)) (fun b z => absurd rfl z) fun z => absurd rfl z
  | none =>
    refine main (fun b => if b = a then some (.frz { cls := .type "list", data := .seq vs.toArray } (.lst (ns.map V.int))) else none) (fun b => ?_) (.inl (.inr ⟨{ cls := .type "list", data := .seq vs.toArray }, if_pos rfl⟩)) (fun b u z => ?_) (fun b z => ?_) fun _ => hk
    · by_cases e : b = a
      · exact .inr ⟨_, _, if_pos e⟩
      · exact .inl (if_neg e)
    · by_cases e : b = a
      · subst e
        cases (if_pos rfl).symm.trans z
        exact ⟨hget, by rw [List.length_map]; exact hlen, vs, _, rv, hget⟩
      · cases (if_neg e).symm.trans z
    · by_cases e : b = a
      · exact e
      · exact absurd (if_neg e) z
end
end Rt

set_option maxRecDepth 100000
set_option maxHeartbeats 4000000
/-! Rt5: what is walked, where it goes, comprehensions, calls of the text's own defs. -/
namespace Rt
open PySem L2

/-! ### frames, further -/
section
variable {C : Cs} {S S' H H' : Hp} {σ : St} {env : List Sl}
theorem Fr.H0none (F : Fr C S H σ env) {p : Addr} (hp : H p = none) : C.H0 p = none := by
  cases q : C.H0 p with
  | none => rfl
  | some u => exact absurd hp (F.al p (by rw [q]; exact fun z => nomatch z))
/-- a new thing, not of the data -/
theorem Fr.add (F : Fr C S H σ env) {p : Addr} {o : HO} (hp : H p = none) (nt : ∀ vs, o ≠ .tup vs := by intro _ z; cases z) : Fr C S (upd H p o) σ env := by
  refine ⟨F.e0, F.e1.trans (Ex.new hp), fun b u e n => Ex.new hp _ _ (F.e2 b u e n), F.nw, fun b h0 => ?_, F.sl.mono (Ex.refl S) (Ex.new hp) fun q hq => (F.sl.own hq).1, F.ow, F.nd, F.tc.up nt⟩
  by_cases z : b = p
  · rw [z, upd_same]
    exact fun z => nomatch z
  · rw [upd_ne z]
    exact F.al b h0
/-- a base of its own for a part of the way -/
def Cs.at (S H : Hp) (σ : St) (env : List Sl) : Cs := ⟨owns σ env, S, H⟩
theorem Fr.here (F : Fr C S H σ env) : Fr (Cs.at S H σ env) S H σ env :=
  ⟨Ex.refl S, F.e1, fun _ _ e _ => e, fun _ e _ => e, fun _ h => h, F.sl, fun p hp => .inr hp, F.nd, F.tc⟩
theorem Fr.back (F : Fr C S H σ env) (G : Fr (Cs.at S H σ env) S' H' σ env) : Fr C S' H' σ env := by
  refine ⟨F.e0.trans G.e0, G.e1, fun b o e n => ?_, fun b s0 h0 => G.nw b (F.nw b s0 h0) (F.al b h0), fun b h0 => G.al b (F.al b h0), G.sl, F.ow, G.nd, G.tc⟩
  refine G.e2 b o (F.e2 b o e n) fun hb => ?_
  rcases F.ow b hb with z | z
  · rw [z] at e
    cases e
  · exact n z
/-- other slots that hold the same: a base at which other own things are -/
theorem Fr.back2 {σ2 : St} {env2 : List Sl} (F : Fr C S H σ env) (hs : ∀ p ∈ owns σ2 env2, p ∈ owns σ env) (G : Fr (Cs.at S H σ2 env2) S' H' σ2 env2) (hsl : SlAll S' H' σ env) : Fr C S' H' σ env := by
  refine ⟨F.e0.trans G.e0, G.e1, fun b o e n => ?_, fun b s0 h0 => G.nw b (F.nw b s0 h0) (F.al b h0), fun b h0 => G.al b (F.al b h0), hsl, F.ow, F.nd, G.tc⟩
  refine G.e2 b o (F.e2 b o e n) fun hb => ?_
  rcases F.ow b (hs b hb) with z | z
  · rw [z] at e
    cases e
  · exact n z
/-- a thing outside of the data changes -/
theorem Fr.other (F : Fr C S H σ env) {p : Addr} {o o' : HO} (hp : H p = some o) (hs : S p = none) (h0 : C.H0 p = none) (ho : p ∉ owns σ env) (nt : ∀ vs, o' ≠ .tup vs := by intro _ z; cases z) : Fr C S (upd H p o') σ env := by
  refine ⟨F.e0, F.e1.mut hs, fun b u e n => ?_, F.nw, fun b h => ?_, ?_, F.ow, F.nd, F.tc.up nt⟩
  · have nb : b ≠ p := fun z => by
      rw [z, h0] at e
      cases e
    rw [upd_ne nb]
    exact F.e2 b u e n
  · by_cases z : b = p
    · rw [z, upd_same]
      exact fun z => nomatch z
    · rw [upd_ne z]
      exact F.al b h
  · have key : ∀ {σ : St} {env : List Sl}, p ∉ owns σ env → SlAll S H σ env → SlAll S (upd H p o') σ env := by
      intro σ
      induction σ with
      | nil => intro env n z; cases env with | nil => exact True.intro | cons _ _ => exact z.elim
      | cons w σ ih => intro env n z; cases env with | nil => exact z.elim | cons s env =>
          obtain ⟨z1, z2⟩ := z
          unfold owns at n
          refine ⟨?_, ih (fun q => n (List.mem_append_right _ q)) z2⟩
          have n1 : p ∉ ownOf w s := fun q => n (List.mem_append_left _ q)
          cases s with
          | un => exact True.intro
          | im r a => exact z1
          | ow r xs =>
            obtain ⟨q, vs, e, e2, e3, e4⟩ := z1
            subst e
            have : q ≠ p := fun z => n1 (by rw [z]; simp [ownOf])
            exact ⟨q, vs, rfl, e2, by rw [upd_ne this]; exact e3, e4⟩
          | iv d0 o0 =>
            obtain ⟨q, o2, e, e2, e3, e4⟩ := z1
            subst e
            have : q ≠ p := fun z => n1 (by rw [z]; simp [ownOf])
            exact ⟨q, o2, rfl, e2, by rw [upd_ne this]; exact e3, e4⟩
          | ob q0 a0 =>
            obtain ⟨q, o2, e, e2, e3, e4⟩ := z1
            subst e
            have : q ≠ p := fun z => n1 (by rw [z]; simp [ownOf])
            exact ⟨q, o2, rfl, e2, by rw [upd_ne this]; exact e3, e4⟩
    exact key ho F.sl
/-- behind a call of a def that changes nothing -/
theorem Fr.call (F : Fr C S H σ env) (eS : Ex S S') (e1 : Ex S' H') (eH : Ex H H') (n : ∀ b, S b = none → H b ≠ none → S' b = none) (t : Tc S' H') : Fr C S' H' σ env := by
  refine ⟨F.e0.trans eS, e1, fun b o e m => eH _ _ (F.e2 b o e m), fun b s0 h0 => n b (F.nw b s0 h0) (F.al b h0), fun b h0 => ?_, F.sl.mono eS eH fun p hp => ?_, F.ow, F.nd, t⟩
  · have := F.al b h0
    cases q : H b with
    | none => exact absurd q this
    | some u => rw [eH _ _ q]; exact fun z => nomatch z
  · obtain ⟨a, o, e⟩ := F.sl.own hp
    exact n p a (by rw [e]; exact fun z => nomatch z)
end

/-! ### what is walked -/
structure Wk {α : Type} (J : It) (re : Rp α) (xs : List α) (S0 : Hp) : Prop where
  len : xs.length ≤ sizeLine
  go : ∀ {C S H σ env} (i : Nat), i < xs.length → Fr C S H σ env → Ex S0 S → J.go i H
  yld : ∀ {C S H σ env} (i : Nat) (x : V) (H' : Hp) (a : α), Fr C S H σ env → Ex S0 S → J.yld i H x H' → xs[i]? = some a → ∃ S', Fr C S' H' σ env ∧ Ex S S' ∧ Ex H H' ∧ (∀ b, S b = none → H b ≠ none → S' b = none) ∧ re.p S' x a
  stop : ∀ {C S H σ env} (i : Nat), xs.length ≤ i → Fr C S H σ env → Ex S0 S → J.stop i H
def tS (C : Cs) (env : Gh → List Sl) {α : Type} (re : Rp α) (m : W (List α)) : TI := fun σ H R => ∃ S g P, Fr C S H σ (env g) ∧ m g P ∧ ∀ xs g', P xs g' → ∀ J S' H', Fr C S' H' σ (env g') → Ex S S' → Wk J re xs S' → R J H'
/-- what a target does to the data -/
structure Up (α : Type) where
  f : α → List Sl → List Sl
  js : List Nat
  ok : ∀ a env i, i ∉ js → (f a env)[i]? = env[i]?
section
variable {X : Cx} {C : Cs} {env : Gh → List Sl} {e a b c tg iter : Expr} {es : List Expr} {pos : Pos} {α β γ δ : Type} {r ra re : Rp α} {rb : Rp β} {rc : Rp γ} {m ma : W α} {mb : W β} {mc : W γ} {k : Bool}
theorem pi_imp {wi wi' : TI} (h : PI X tg e wi) (hi : ∀ σ H R, Lens H → wi' σ H R → wi σ H R) : PI X tg e wi' := ⟨fun pins s σ H R I q => h.run pins s σ H R I (hi σ H R (Lens.of I) q)⟩
/-- a list, a tuple that nobody changes -/
theorem wk_seq {K : PySem.W.Frag} {p : Addr} {vs : List V} {xs : List α} {S0 : Hp} (hl : vs.length ≤ sizeLine) (hp : Sq k S0 p vs) (h : All2 (re.p S0) vs xs) : Wk (if k = true then Itl K p else Itt K p) re xs S0 := by
  have at_ : ∀ {C S H σ env}, Fr C S H σ env → Ex S0 S → Sq k H p vs := fun F e => (hp.mono e).mono F.e1
  have l := All2.length h
  refine ⟨by rw [← l]; exact hl, fun {C S H σ env} i hi F e => ?_, fun {C S H σ env} i x H' y F e hy ha => ?_, fun {C S H σ env} i hi F e => ?_⟩
  · have hv : i < vs.length := by omega
    cases k with
    | true => exact ⟨vs, vs[i], SqL.of (at_ F e), by simp [hv]⟩
    | false => exact ⟨vs, vs[i], TupAt.sq (at_ F e), by simp [hv]⟩
  · obtain ⟨v, hv, hr⟩ := All2.get i h ha
    cases k with
    | true =>
      obtain ⟨eH, hq⟩ := hy
      have q := hq vs (SqL.of (at_ F e))
      rw [hv] at q
      cases q
      subst eH
      exact ⟨S, F, Ex.refl S, Ex.refl _, fun _ z _ => z, re.mono e hr⟩
    | false =>
      obtain ⟨eH, hq⟩ := hy
      have q := hq vs (TupAt.sq (at_ F e))
      rw [hv] at q
      cases q
      subst eH
      exact ⟨S, F, Ex.refl S, Ex.refl _, fun _ z _ => z, re.mono e hr⟩
  · cases k with
    | true => exact ⟨vs, SqL.of (at_ F e), by omega⟩
    | false => exact ⟨vs, TupAt.sq (at_ F e), by omega⟩
theorem xi_seq {mx : W (List α)} (h : PE X iter (tE C env (qSeq k re) mx)) : PI X tg iter (tS C env re mx) := by
  have h' := tE_len h
  cases k with
  | true =>
    refine pi_imp (pi_list h') fun σ H R _ ⟨S, g0, P, F, em, q⟩ => ⟨S, g0, P, F, em, fun xs g' px v S' H' F' eS ⟨p, vs, ev, hp, ha⟩ l => ⟨p, ev, ⟨vs, SqL.of (F'.e1 _ _ hp)⟩, ?_⟩⟩
    exact q xs _ px _ S' H' F' eS (wk_seq (k := true) (l p true vs (F'.e1 _ _ hp)) hp ha)
  | false =>
    refine pi_imp (pi_tup h') fun σ H R _ ⟨S, g0, P, F, em, q⟩ => ⟨S, g0, P, F, em, fun xs g' px v S' H' F' eS ⟨p, vs, ev, hp, ha⟩ l => ⟨p, ev, ⟨vs, TupAt.sq (TupAt.mono F'.e1 hp)⟩, ?_⟩⟩
    exact q xs _ px _ S' H' F' eS (wk_seq (k := false) (l p false vs (TupAt.mono F'.e1 hp)) hp ha)
/-- ranges -/
def irange (a b : Int) : List Int := (List.range (b - a).toNat).map fun i => a + (i : Nat)
def rngC (a b : Int) : Option (List Int) := if -1000000 ≤ a ∧ a ≤ 1000000 ∧ -1000000 ≤ b ∧ b ≤ 1000000 then some (irange a b) else none
theorem irange_length (a b : Int) : (irange a b).length = (b - a).toNat := by unfold irange; rw [List.length_map, List.length_range]
theorem irange_get {a b : Int} {i : Nat} {x : Int} (h : (irange a b)[i]? = some x) : x = a + (i : Nat) := by
  unfold irange at h
  rw [List.getElem?_map] at h
  cases q : (List.range (b - a).toNat)[i]? with
  | none => rw [q] at h; cases h
  | some j =>
    rw [q] at h
    have : j = i := by
      obtain ⟨h1, h2⟩ := List.getElem?_eq_some_iff.mp q
      simpa using h2.symm
    subst this
    exact (Option.some.inj h).symm
theorem wk_rng {lo hi : Int} {n : Nat} {S0 : Hp} (hn : n = (hi - lo).toNat) (hl : n ≤ sizeLine) : Wk (Itr lo n) qI (irange lo hi) S0 := by
  have l := irange_length lo hi
  refine ⟨by rw [l, ← hn]; exact hl, fun {C S H σ env} i hi' F e => ?_, fun {C S H σ env} i x H' y F e hy ha => ?_, fun {C S H σ env} i hi' F e => ?_⟩
  · show i < n
    omega
  · obtain ⟨eH, ex⟩ := hy
    subst eH
    refine ⟨S, F, Ex.refl S, Ex.refl _, fun _ z _ => z, ?_⟩
    show x = V.int y
    rw [ex, irange_get ha]
  · show n ≤ i
    omega
theorem rngC_some {i j : Int} {xs : List Int} (h : rngC i j = some xs) : xs = irange i j ∧ -1000000 ≤ i ∧ i ≤ 1000000 ∧ -1000000 ≤ j ∧ j ≤ 1000000 := by
  unfold rngC at h
  split at h
  · rename_i hc
    exact ⟨(Option.some.inj h).symm, hc⟩
  · cases h
theorem xi_rng1 {mi : W Int} {p : Pos} (hg : Gl X "range") (hm : X.mg "range" = none) (ha : PE X a (tE C env qI mi)) (hs : starEach [a] X.env = (false, eval a X.env) :: starEach [] X.env := by rfl) (hs' : starEach [a] X.env = [(false, eval a X.env)] := by rfl) :
    PI X tg (.Call (.Name "range" p) [a] [] pos) (tS C env qI (mi.bind fun i => ofO (rngC 0 i))) :=
  pi_imp (pi_range1 hg hm (pa_cons ha pa_nil hs) hs') fun σ H R _ ⟨S, g0, P, F, em, q⟩ => ⟨S, g0, _, F, em, fun i g1 ⟨z, ez, pz⟩ v S1 H1 F1 x1 hv => by
    obtain ⟨rfl, h1, h2, h3, h4⟩ := rngC_some ez
    refine ⟨i, by rw [show v = .int i from hv], by omega, by omega, ?_⟩
    exact q _ _ pz _ S1 H1 F1 x1 (wk_rng (by omega) (by rw [sizeLine_eq]; omega))⟩
theorem xi_rng2 {mi mj : W Int} {p : Pos} (hg : Gl X "range") (hm : X.mg "range" = none) (ha : PE X a (tE C env qI mi)) (hb : PE X b (tE C env qI mj)) (hs : starEach [a, b] X.env = (false, eval a X.env) :: starEach [b] X.env := by rfl) (hsb : starEach [b] X.env = (false, eval b X.env) :: starEach [] X.env := by rfl)
    (hs' : starEach [a, b] X.env = [(false, eval a X.env), (false, eval b X.env)] := by rfl) (hs2 : starEach [b] X.env = [(false, eval b X.env)] := by rfl) :
    PI X tg (.Call (.Name "range" p) [a, b] [] pos) (tS C env qI (mi.bind fun i => mj.bind fun j => ofO (rngC i j))) :=
  pi_imp (pi_range2 hg hm (pa_cons ha (pa_cons hb pa_nil hsb) hs) hs' hs2) fun σ H R _ ⟨S, g0, P, F, em, q⟩ => ⟨S, g0, _, F, em, fun i g1 hi v S1 H1 F1 x1 hv => ⟨S1, g1, _, F1, hi, fun j g2 ⟨z, ez, pz⟩ w S2 H2 F2 x2 hw => by
    obtain ⟨rfl, h1, h2, h3, h4⟩ := rngC_some ez
    refine ⟨i, j, by rw [show v = .int i from hv, show w = .int j from hw], by omega, ?_⟩
    exact q _ _ pz _ S2 H2 F2 (x1.trans x2) (wk_rng rfl (by rw [sizeLine_eq]; omega))⟩⟩
/-- enumerate -/
def enumI {α : Type} (xs : List α) : List (Int × α) := xs.zipIdx.map fun p => ((p.2 : Nat), p.1)
theorem enumI_get {xs : List α} {i : Nat} {y : Int × α} (h : (enumI xs)[i]? = some y) : y.1 = (i : Nat) ∧ xs[i]? = some y.2 := by
  unfold enumI at h
  rw [List.getElem?_map, List.getElem?_zipIdx] at h
  cases q : xs[i]? with
  | none => rw [q] at h; cases h
  | some x =>
    rw [q] at h
    have := Option.some.inj h
    subst this
    simp
theorem enumI_len (xs : List α) : (enumI xs).length = xs.length := by unfold enumI; rw [List.length_map, List.length_zipIdx]
theorem wk_new {J : It} {xs : List α} {S0 : Hp} (hl : xs.length ≤ sizeLine) (hg : ∀ {C S H σ env} (i : Nat), i < xs.length → Fr C S H σ env → Ex S0 S → J.go i H) (hs : ∀ {C S H σ env} (i : Nat), xs.length ≤ i → Fr C S H σ env → Ex S0 S → J.stop i H)
    (hy : ∀ {C S H σ env} (i : Nat) (x : V) (H' : Hp) (a : α), Fr C S H σ env → Ex S0 S → J.yld i H x H' → xs[i]? = some a → ∃ T o, x = .ref T ∧ H T = none ∧ H' = upd H T o ∧ re.p (upd S T o) x a) : Wk J re xs S0 :=
  ⟨hl, hg, fun {C S H σ env} i x H' a F e hj ha => by
    obtain ⟨T, o, ex, hT, eH, hr⟩ := hy i x H' a F e hj ha
    subst eH
    refine ⟨_, F.new hT, Ex.new (F.e1.back hT), Ex.new hT, fun b z1 z2 => ?_, hr⟩
    rw [upd_ne (fun z => z2 (by rw [z]; exact hT))]
    exact z1, hs⟩
theorem xi_enT {elts : List Expr} {kk : Nat} {tpos p : Pos} {mx : W (List α)} (hg : Gl X "enumerate") (hm : X.mg "enumerate" = none) (ha : PE X a (tE C env (qT re) mx)) (hs : starEach [a] X.env = (false, eval a X.env) :: starEach [] X.env := by rfl) (hs' : starEach [a] X.env = [(false, eval a X.env)] := by rfl) :
    PI X (.Tuple elts kk tpos) (.Call (.Name "enumerate" p) [a] [] pos) (tS C env (qW qI re) (mx.bind fun xs => .ret (enumI xs))) := by
  refine pi_imp (RtE.pi_en hg hm (pa_cons (tE_len ha) pa_nil hs) hs') fun σ H R _ ⟨S, g0, P, F, em, q⟩ => ?_
  refine ⟨S, g0, _, F, em, fun xs g1 px v S1 H1 F1 x1 ⟨p, vs, ev, hp, h2⟩ l => ?_⟩
  subst ev
  have at_ : ∀ {C S H σ env}, Fr C S H σ env → Ex S1 S → TupAt H p vs := fun F e => TupAt.mono F.e1 (TupAt.mono e hp)
  have ll := All2.length h2
  refine ⟨p, vs, rfl, TupAt.sq (TupAt.mono F1.e1 hp), q _ _ px _ S1 H1 F1 x1 (wk_new (by rw [enumI_len, ← ll]; exact l p false vs (TupAt.mono F1.e1 hp)) (fun {C S H σ env} i hi F e => ?_) (fun {C S H σ env} i hi F e => ?_) fun {C S H σ env} i x H' y F e hy ha => ?_)⟩
  · rw [enumI_len] at hi
    have hv : i < vs.length := by omega
    exact ⟨vs, vs[i], TupAt.sq (at_ F e), by simp [hv]⟩
  · rw [enumI_len] at hi
    exact ⟨vs, TupAt.sq (at_ F e), by omega⟩
  · obtain ⟨T, v, ev, hT, eH, hq⟩ := hy
    obtain ⟨y1, y2⟩ := enumI_get ha
    obtain ⟨w, hw, hr⟩ := All2.get i h2 y2
    have := hq vs (TupAt.sq (at_ F e))
    rw [hw] at this
    cases this
    exact ⟨T, _, ev, hT, eH, T, .int (i : Nat), _, ev, .inl upd_same, by rw [y1]; rfl, re.mono (e.trans (Ex.new (F.e1.back hT))) hr⟩
theorem xi_enL {elts : List Expr} {kk : Nat} {tpos p : Pos} {mx : W (List α)} (hg : Gl X "enumerate") (hm : X.mg "enumerate" = none) (ha : PE X a (tE C env (qL re) mx)) (hs : starEach [a] X.env = (false, eval a X.env) :: starEach [] X.env := by rfl) (hs' : starEach [a] X.env = [(false, eval a X.env)] := by rfl) :
    PI X (.Tuple elts kk tpos) (.Call (.Name "enumerate" p) [a] [] pos) (tS C env (qW qI re) (mx.bind fun xs => .ret (enumI xs))) := by
  refine pi_imp (pi_enum hg hm (pa_cons (tE_len ha) pa_nil hs) hs') fun σ H R _ ⟨S, g0, P, F, em, q⟩ => ?_
  refine ⟨S, g0, _, F, em, fun xs g1 px v S1 H1 F1 x1 ⟨p, vs, ev, hp, h2⟩ l => ?_⟩
  subst ev
  have at_ : ∀ {C S H σ env}, Fr C S H σ env → Ex S1 S → H p = some (.lst vs) := fun F e => F.e1 _ _ (e _ _ hp)
  have ll := All2.length h2
  refine ⟨p, vs, rfl, SqL.of (F1.e1 _ _ hp), q _ _ px _ S1 H1 F1 x1 (wk_new (by rw [enumI_len, ← ll]; exact l p true vs (F1.e1 _ _ hp)) (fun {C S H σ env} i hi F e => ?_) (fun {C S H σ env} i hi F e => ?_) fun {C S H σ env} i x H' y F e hy ha => ?_)⟩
  · rw [enumI_len] at hi
    have hv : i < vs.length := by omega
    exact ⟨vs, vs[i], SqL.of (at_ F e), by simp [hv]⟩
  · rw [enumI_len] at hi
    exact ⟨vs, SqL.of (at_ F e), by omega⟩
  · obtain ⟨T, v, ev, hT, eH, hq⟩ := hy
    obtain ⟨y1, y2⟩ := enumI_get ha
    obtain ⟨w, hw, hr⟩ := All2.get i h2 y2
    have := hq vs (SqL.of (at_ F e))
    rw [hw] at this
    cases this
    exact ⟨T, _, ev, hT, eH, T, .int (i : Nat), _, ev, .inl upd_same, by rw [y1]; rfl, re.mono (e.trans (Ex.new (F.e1.back hT))) hr⟩
/-! ### where it goes -/
def tG (re : Rp α) (up : Up α) : TG := fun v σ H Q => ∃ C S env a, Fr C S H σ env ∧ re.p S v a ∧ ∀ σ', σ'.length = σ.length → (∀ i, i ∉ up.js → σ'[i]? = σ[i]?) → Fr C S H σ' (up.f a env) → Q σ' H
def uN (i : Nat) (re : Rp α) : Up α := ⟨fun a env => env.set i (.im re a), [i], fun a env j hj => by simp at hj; exact List.getElem?_set_ne (Ne.symm hj)⟩
def uP (u1 : Up α) (u2 : Up β) : Up (α × β) := ⟨fun x env => u2.f x.2 (u1.f x.1 env), u1.js ++ u2.js, fun x env j hj => by
  simp at hj
  rw [u2.ok _ _ j hj.2, u1.ok _ _ j hj.1]⟩
def uP3 (u1 : Up α) (u2 : Up β) (u3 : Up γ) : Up (α × β × γ) := uP u1 (uP u2 u3)
theorem xg_name {i : Nat} (h : PG X tg (gName i)) : PG X tg (tG re (uN i re)) := ⟨fun pins s σ H v u Q I r ⟨C, S, env, a, F, hr, q⟩ =>
  h.run pins s σ H v u Q I r (q _ (List.length_set ..) (fun j hj => List.getElem?_set_ne (fun z => hj (by rw [← z]; exact List.mem_singleton.mpr rfl))) (F.setIm i hr))⟩
theorem pgs_imp {es : List Expr} {t t' : TGs} (h : PGs X es t) (hi : ∀ vs σ H Q, t' vs σ H Q → t vs σ H Q) : PGs X es t' := ⟨fun pins s σ H vs us Q I r q => h.run pins s σ H vs us Q I r (hi _ _ _ _ q)⟩
theorem pg_imp {t t' : TG} (h : PG X tg t) (hi : ∀ v σ H Q, t' v σ H Q → t v σ H Q) : PG X tg t' := ⟨fun pins s σ H v u Q I r q => h.run pins s σ H v u Q I r (hi _ _ _ _ q)⟩
variable {up1 : Up α} {up2 : Up β} {up3 : Up γ}
theorem xg_pair {kk : Nat} (hc : X.calm = true) (h1 : PG X a (tG ra up1)) (h2 : PG X b (tG rb up2))
    (hs : (assignEach [a, b] X.env).map (·.2) = assign a X.env :: (assignEach [b] X.env).map (·.2) := by rfl) (hs2 : (assignEach [b] X.env).map (·.2) = assign b X.env :: (assignEach [] X.env).map (·.2) := by rfl)
    (hn : (assignEach [a, b] X.env).length = 2 := by rfl) (hst : (assignEach [a, b] X.env).findIdx? (·.1) = none := by rfl) :
    PG X (.Tuple [a, b] kk pos) (tG (qP ra rb) (uP up1 up2)) :=
  pg_imp (pg_tup hc (pgs_cons h1 (pgs_cons h2 pgs_nil hs2) hs) hn hst) fun v σ H Q ⟨C, S, env, x, F, ⟨p, v1, v2, ev, hp, r1, r2⟩, q⟩ =>
    ⟨p, [v1, v2], ev, TupAt.sq (TupAt.mono F.e1 hp), rfl, v1, [v2], rfl, C, S, env, x.1, F, r1, fun σ1 l1 n1 F1 => ⟨v2, [], rfl, C, S, _, x.2, F1, r2, fun σ2 l2 n2 F2 => ⟨rfl, q σ2 (l2.trans l1) (fun i hi => by
      have hi : i ∉ up1.js ++ up2.js := hi
      simp at hi
      rw [n2 i hi.2, n1 i hi.1]) F2⟩⟩⟩
theorem xg_pairW {kk : Nat} (hc : X.calm = true) (h1 : PG X a (tG ra up1)) (h2 : PG X b (tG rb up2))
    (hs : (assignEach [a, b] X.env).map (·.2) = assign a X.env :: (assignEach [b] X.env).map (·.2) := by rfl) (hs2 : (assignEach [b] X.env).map (·.2) = assign b X.env :: (assignEach [] X.env).map (·.2) := by rfl)
    (hn : (assignEach [a, b] X.env).length = 2 := by rfl) (hst : (assignEach [a, b] X.env).findIdx? (·.1) = none := by rfl) :
    PG X (.Tuple [a, b] kk pos) (tG (qW ra rb) (uP up1 up2)) :=
  pg_imp (pg_tup hc (pgs_cons h1 (pgs_cons h2 pgs_nil hs2) hs) hn hst) fun v σ H Q ⟨C, S, env, x, F, ⟨p, v1, v2, ev, hp, r1, r2⟩, q⟩ =>
    ⟨p, [v1, v2], ev, (hp.elim (fun h => SqT.of (F.e1 _ _ h)) fun h => TupAt.sq (TupAt.mono F.e1 h)), rfl, v1, [v2], rfl, C, S, env, x.1, F, r1, fun σ1 l1 n1 F1 => ⟨v2, [], rfl, C, S, _, x.2, F1, r2, fun σ2 l2 n2 F2 => ⟨rfl, q σ2 (l2.trans l1) (fun i hi => by
      have hi : i ∉ up1.js ++ up2.js := hi
      simp at hi
      rw [n2 i hi.2, n1 i hi.1]) F2⟩⟩⟩
theorem xg_triple {kk : Nat} (hc : X.calm = true) (h1 : PG X a (tG ra up1)) (h2 : PG X b (tG rb up2)) (h3 : PG X c (tG rc up3))
    (hs : (assignEach [a, b, c] X.env).map (·.2) = assign a X.env :: (assignEach [b, c] X.env).map (·.2) := by rfl) (hs2 : (assignEach [b, c] X.env).map (·.2) = assign b X.env :: (assignEach [c] X.env).map (·.2) := by rfl) (hs3 : (assignEach [c] X.env).map (·.2) = assign c X.env :: (assignEach [] X.env).map (·.2) := by rfl)
    (hn : (assignEach [a, b, c] X.env).length = 3 := by rfl) (hst : (assignEach [a, b, c] X.env).findIdx? (·.1) = none := by rfl) :
    PG X (.Tuple [a, b, c] kk pos) (tG (qP3 ra rb rc) (uP3 up1 up2 up3)) :=
  pg_imp (pg_tup hc (pgs_cons h1 (pgs_cons h2 (pgs_cons h3 pgs_nil hs3) hs2) hs) hn hst) fun v σ H Q ⟨C, S, env, x, F, ⟨p, v1, v2, v3, ev, hp, r1, r2, r3⟩, q⟩ =>
    ⟨p, [v1, v2, v3], ev, TupAt.sq (TupAt.mono F.e1 hp), rfl, v1, [v2, v3], rfl, C, S, env, x.1, F, r1, fun σ1 l1 n1 F1 => ⟨v2, [v3], rfl, C, S, _, x.2.1, F1, r2, fun σ2 l2 n2 F2 => ⟨v3, [], rfl, C, S, _, x.2.2, F2, r3, fun σ3 l3 n3 F3 => ⟨rfl, q σ3 (l3.trans (l2.trans l1)) (fun i hi => by
      have hi : i ∉ up1.js ++ (up2.js ++ up3.js) := hi
      simp at hi
      rw [n3 i hi.2.2, n2 i hi.2.1, n1 i hi.1]) F3⟩⟩⟩⟩

/-! ### comprehensions -/
def wipeE (env : List Sl) : List Nat → List Sl
  | [] => env
  | v :: vs => (wipeE env vs).set v .un
theorem owns_wipe {σ : St} {env : List Sl} : ∀ (vs : List Nat) {p : Addr}, p ∈ owns (wipe σ vs) (wipeE env vs) → p ∈ owns σ env
  | [], _, h => h
  | v :: vs, p, h => by
    unfold wipe wipeE at h
    rcases owns_set v h with h | h
    · exact owns_wipe vs h
    · cases h
theorem Fr.wipe {S H : Hp} {σ : St} {env : List Sl} (F : Fr C S H σ env) : ∀ vs : List Nat, Fr C S H (wipe σ vs) (wipeE env vs)
  | [] => F
  | v :: vs => by
    unfold L2.wipe wipeE
    exact (Fr.wipe F vs).setUn v none
theorem wipe_in {σ : St} {x : Option V} {i : Nat} : ∀ {vs : List Nat}, i ∈ vs → wipe (σ.set i x) vs = wipe σ vs
  | v :: vs, h => by
    unfold L2.wipe
    by_cases hv : i ∈ vs
    · rw [wipe_in hv]
    · have e : i = v := (List.mem_cons.mp h).resolve_right hv
      subst e
      have key : ∀ vs : List Nat, (wipe (σ.set i x) vs).set i none = (wipe σ vs).set i none := by
        intro vs
        induction vs with
        | nil => simp [L2.wipe]
        | cons w ws ih =>
          unfold L2.wipe
          by_cases hw : w = i
          · subst hw
            rw [List.set_set, List.set_set, ih]
          · rw [List.set_comm _ _ hw, List.set_comm _ _ hw, ih]
      exact key vs
/-- slots that are the same but for some that are wiped -/
theorem wipe_same {σ σ' : St} {vs : List Nat} (hl : σ'.length = σ.length) (h : ∀ i, i ∉ vs → σ'[i]? = σ[i]?) : wipe σ' vs = wipe σ vs := by
  refine List.ext_getElem? fun i => ?_
  have key : ∀ (τ : St) (vs : List Nat), (wipe τ vs)[i]? = if i ∈ vs ∧ i < τ.length then some none else τ[i]? := by
    intro τ vs
    induction vs with
    | nil => simp [L2.wipe]
    | cons w ws ih =>
      unfold L2.wipe
      by_cases hw : w = i
      · subst hw
        by_cases hi : w < τ.length
        · rw [List.getElem?_set_self (by rw [wipe_length]; exact hi)]
          simp [hi]
        · rw [List.getElem?_eq_none (by rw [List.length_set, wipe_length]; omega)]
          simp [hi]
      · rw [List.getElem?_set_ne hw, ih]
        have : i ∈ w :: ws ↔ i ∈ ws := by
          simp
          exact fun z => absurd z.symm hw
        simp only [this]
  rw [key, key, hl]
  by_cases hi : i ∈ vs
  · by_cases hl2 : i < σ.length
    · simp [hi, hl2]
    · have h1 : σ.length ≤ i := by omega
      simp [hi, hl2, List.getElem?_eq_none h1, List.getElem?_eq_none (show σ'.length ≤ i by rw [hl]; exact h1)]
  · simp [hi]
    exact h i hi
/-- [f x for x in xs if c x] -/
def lcW {α β : Type} (c : α → W Bool) (f : α → W β) : List α → W (List β)
  | [] => .ret []
  | x :: xs => (c x).bind fun b => if b = true then (f x).bind fun y => (lcW c f xs).bind fun ys => .ret (y :: ys) else lcW c f xs
/-- .. reckoned -/
def lcO {α β : Type} (c : α → Option Bool) (f : α → Option β) : List α → Option (List β)
  | [] => some []
  | x :: xs => (c x).bind fun b => if b = true then (f x).bind fun y => (lcO c f xs).bind fun ys => some (y :: ys) else lcO c f xs
theorem ofO_lc {α β : Type} (c : α → Option Bool) (f : α → Option β) : ∀ xs : List α, ofO (lcO c f xs) = lcW (fun x => ofO (c x)) (fun x => ofO (f x)) xs
  | [] => ofO_some []
  | x :: xs => by
    unfold lcO lcW
    rw [ofO_bind]
    congr 1
    funext b
    rw [ofO_if]
    congr 1
    · rw [ofO_bind]
      congr 1
      funext y
      rw [ofO_bind, ofO_lc c f xs]
      congr 1
      funext ys
      exact ofO_some _
    · exact ofO_lc c f xs
/-- the slots that are wiped hold no own things -/
def wipeOk (env : List Sl) (vs : List Nat) : Bool := vs.all fun i => match env[i]? with
  | some (.ow _ _) => false
  | some (.iv _ _) => false
  | some (.ob _ _) => false
  | _ => true
theorem SlAll.of_get {S H : Hp} : ∀ {σ : St} {env : List Sl}, σ.length = env.length → (∀ (i : Nat) v s, σ[i]? = some v → env[i]? = some s → SlOk S H v s) → SlAll S H σ env
  | [], [], _, _ => True.intro
  | v :: σ, s :: env, h, f => ⟨f 0 v s rfl rfl, SlAll.of_get (by simpa using h) fun i v s h1 h2 => f (i + 1) v s (by simpa using h1) (by simpa using h2)⟩
  | [], _ :: _, h, _ => by simp at h
  | _ :: _, [], h, _ => by simp at h
/-- the same but for what the shared object holds -/
inductive Gs : List Sl → List Sl → Prop
  | nil : Gs [] []
  | keep {s : Sl} {a b : List Sl} : Gs a b → Gs (s :: a) (s :: b)
  | gh {d : Addr} {o o' : HO} {a b : List Sl} : Gs a b → Gs (.iv d o :: a) (.iv d o' :: b)
theorem Gs.owns {a b : List Sl} (h : Gs a b) : ∀ σ : St, owns σ a = owns σ b := by
  induction h with
  | nil => intro σ; rfl
  | keep h ih => intro σ; cases σ with
    | nil => rfl
    | cons v σ => show ownOf v _ ++ Rt.owns σ _ = ownOf v _ ++ Rt.owns σ _; rw [ih σ]
  | gh h ih => intro σ; cases σ with
    | nil => rfl
    | cons v σ => show ownOf v _ ++ Rt.owns σ _ = ownOf v _ ++ Rt.owns σ _; rw [ih σ]; cases v with
      | none => rfl
      | some v => cases v <;> rfl
theorem Gs.get {a b : List Sl} (h : Gs a b) : ∀ i : Nat, a[i]? = b[i]? ∨ ∃ d o o', a[i]? = some (.iv d o) ∧ b[i]? = some (.iv d o') := by
  induction h with
  | nil => intro i; exact .inl rfl
  | keep h ih => intro i; cases i with
    | zero => exact .inl rfl
    | succ i => simpa using ih i
  | gh h ih => intro i; cases i with
    | zero => exact .inr ⟨_, _, _, rfl, rfl⟩
    | succ i => simpa using ih i
theorem Gs.length {a b : List Sl} (h : Gs a b) : a.length = b.length := by
  induction h with
  | nil => rfl
  | keep h ih => simp [ih]
  | gh h ih => simp [ih]
theorem Fr.backG {C : Cs} {S H S' H' : Hp} {σ : St} {env env' : List Sl} (F : Fr C S H σ env) (e : owns σ env' = owns σ env) (G : Fr (Cs.at S H σ env) S' H' σ env') : Fr C S' H' σ env' := by
  refine ⟨F.e0.trans G.e0, G.e1, fun b o e n => ?_, fun b s0 h0 => G.nw b (F.nw b s0 h0) (F.al b h0), fun b h0 => G.al b (F.al b h0), G.sl, fun p hp => F.ow p (e ▸ hp), G.nd, G.tc⟩
  refine G.e2 b o (F.e2 b o e n) fun hb => ?_
  rcases F.ow b hb with z | z
  · rw [z] at e
    cases e
  · exact n z
theorem Fr.unwipe {C : Cs} {S H S' H' : Hp} {σ σ2 : St} {env env' env2 : List Sl} {vs : List Nat} (F : Fr C S H σ env) (hG : Gs env env') (hv : wipeOk env vs = true) (G : Fr (Cs.at S H σ env) S' H' σ2 env2) (hσ : ∀ i, i ∉ vs → σ2[i]? = σ[i]?) (he : ∀ i, i ∉ vs → env2[i]? = env'[i]?) : Fr C S' H' σ env' := by
  have eo := (hG.owns σ).symm
  refine F.backG eo ⟨G.e0, G.e1, G.e2, G.nw, G.al, SlAll.of_get (F.sl.len.trans hG.length) fun i v s h1 h2 => ?_, fun p hp => .inr (by show p ∈ owns σ env; rw [← eo]; exact hp), by rw [eo]; exact F.nd, G.tc⟩
  by_cases hi : i ∈ vs
  · have q := List.all_eq_true.mp hv i hi
    rcases hG.get i with e | ⟨d0, o0, o1, e1, e2⟩
    · have h2' : env[i]? = some s := e.trans h2
      obtain ⟨v', e', r⟩ := F.sl.get i h2'
      rw [h1] at e'
      cases e'
      rw [h2'] at q
      cases s with
      | un => exact True.intro
      | im r' a =>
        obtain ⟨x, e, z⟩ := r
        exact ⟨x, e, r'.mono G.e0 z⟩
      | ow _ _ => cases q
      | iv _ _ => cases q
      | ob _ _ => cases q
    · rw [e1] at q
      cases q
  · obtain ⟨v', e', r⟩ := G.sl.get i ((he i hi).trans h2)
    rw [hσ i hi, h1] at e'
    cases e'
    exact r
/-- a thing outside of the data, taken out -/
def del (H : Hp) (p : Addr) : Hp := fun b => if b = p then none else H b
theorem Tc.del1 {S H : Hp} (t : Tc S H) (p : Addr) : Tc S (del H p) := fun b vs e => by
  unfold del at e
  by_cases z : b = p
  · rw [if_pos z] at e
    cases e
  · rw [if_neg z] at e
    exact t b vs e
theorem Tc.del2 {S H : Hp} (t : Tc S H) (p : Addr) : Tc (del S p) (del H p) := fun b vs e => by
  unfold del at e ⊢
  by_cases z : b = p
  · rw [if_pos z] at e
    cases e
  · rw [if_neg z] at e ⊢
    exact t b vs e
theorem upd_del {H : Hp} {p : Addr} {o : HO} (h : H p = some o) : upd (del H p) p o = H := by
  funext b
  unfold upd del
  by_cases z : b = p
  · subst z
    simp [h]
  · simp [z]
theorem Fr.del {S H : Hp} {σ : St} {env : List Sl} (F : Fr C S H σ env) {p : Addr} (hs : S p = none) (h0 : C.H0 p = none) (ho : p ∉ owns σ env) : Fr C S (del H p) σ env := by
  have ne : ∀ b, b ≠ p → Rt.del H p b = H b := fun b hb => by unfold Rt.del; rw [if_neg hb]
  have nS : ∀ {b u}, S b = some u → b ≠ p := fun {b u} e z => by rw [z, hs] at e; cases e
  have n0 : ∀ {b}, C.H0 b ≠ none → b ≠ p := fun {b} e z => e (by rw [z]; exact h0)
  refine ⟨F.e0, fun b u e => by rw [ne b (nS e)]; exact F.e1 b u e, fun b u e n => by rw [ne b (n0 (by rw [e]; exact fun z => nomatch z))]; exact F.e2 b u e n, F.nw, fun b h => by rw [ne b (n0 h)]; exact F.al b h, SlAll.of_get F.sl.len fun i v s h1 h2 => ?_, F.ow, F.nd, F.tc.del1 p⟩
  obtain ⟨v', e', r⟩ := F.sl.get i h2
  rw [h1] at e'
  cases e'
  cases s with
  | un => exact True.intro
  | im r' a => exact r
  | ow r' xs =>
    obtain ⟨q, vs, e, e2, e3, e4⟩ := r
    subst e
    have : q ≠ p := fun z => ho (by rw [← z]; exact owns_mem_get i h2 h1 rfl)
    exact ⟨q, vs, rfl, e2, by rw [ne q this]; exact e3, e4⟩
  | iv d0 o0 =>
    obtain ⟨q, o, e, e2, e3, e4⟩ := r
    subst e
    have : q ≠ p := fun z => ho (by rw [← z]; exact owns_mem_get i h2 h1 rfl)
    exact ⟨q, o, rfl, e2, by rw [ne q this]; exact e3, e4⟩
  | ob q0 a0 =>
    obtain ⟨q, o, e, e2, e3, e4⟩ := r
    subst e
    have : q ≠ p := fun z => ho (by rw [← z]; exact owns_mem_get i h2 h1 rfl)
    exact ⟨q, o, rfl, e2, by rw [ne q this]; exact e3, e4⟩
theorem wipeE_get {env : List Sl} {i : Nat} : ∀ {vs : List Nat}, i ∉ vs → (wipeE env vs)[i]? = env[i]?
  | [], _ => rfl
  | v :: vs, h => by
    unfold wipeE
    simp at h
    rw [List.getElem?_set_ne (Ne.symm h.1), wipeE_get h.2]
theorem wipe_get {σ : St} {i : Nat} : ∀ {vs : List Nat}, i ∉ vs → (wipe σ vs)[i]? = σ[i]?
  | [], _ => rfl
  | v :: vs, h => by
    unfold L2.wipe
    simp at h
    rw [List.getElem?_set_ne (Ne.symm h.1), wipe_get h.2]
theorem wipe_wipe {σ : St} (vs : List Nat) : wipe (wipe σ vs) vs = wipe σ vs := wipe_same (wipe_length σ vs) fun i hi => wipe_get hi
theorem drop_cons {xs : List α} {i : Nat} {a : α} (h : xs[i]? = some a) : xs.drop i = a :: xs.drop (i + 1) := by
  obtain ⟨h1, h2⟩ := List.getElem?_eq_some_iff.mp h
  rw [List.drop_eq_getElem_cons h1, h2]
theorem tN_of_E {m : W (List α)} {σ : St} {H : Hp} {Q : VK} (h : tE C env (qL r) m σ H Q) : tN C env r m σ H Q :=
  let ⟨S, g0, P, F, em, q⟩ := h
  ⟨S, g0, P, F, em, fun xs g1 px p vs S' H' F' eS hp ha => by
    have sp : S' p = none := F'.e1.back hp
    exact q xs g1 px _ _ _ (F'.new (o := .lst vs) hp) (eS.trans (Ex.new sp)) ⟨p, vs, rfl, upd_same, ha.mono fun _ _ z => r.mono (Ex.new sp) z⟩⟩
theorem lc_use {own : List (Str × Nat)} {mx : W (List α)} {up : Up α} {cf : α → W Bool} {ef : α → W β} (hjs : (up.js.all fun j => (own.map (·.2)).contains j) = true) (hw : ∀ g, wipeOk (env g) (own.map (·.2)) = true) (hE : ∀ g g', Gs (env g) (env g'))
    {σ : St} {H : Hp} {Q : VK} (h : tN C env rb (mx.bind fun xs => lcW cf ef xs) σ H Q) :
    tLc (tS C env re mx) (tG re up) (fun σ H Q => ∃ p : Cs × α, tT p.1 (fun g => up.f p.2 (wipeE (env g) (own.map (·.2)))) (cf p.2) σ H Q) (fun σ H Q => ∃ p : Cs × α, tE p.1 (fun g => up.f p.2 (wipeE (env g) (own.map (·.2)))) rb (ef p.2) σ H Q) (own.map (·.2)) σ H Q := by
  have hjs' : ∀ j, j ∉ own.map (·.2) → j ∉ up.js := fun j hj z => hj (by
    have := List.all_eq_true.mp hjs j z
    simpa using this)
  obtain ⟨S, g0, P, F, em, q⟩ := h
  refine ⟨S, g0, _, F, em, fun xs g1 em J S1 H1 F1 x1 W1 D hD => ?_⟩
  have dS : S1 D = none := F1.e1.back hD
  have d0 : C.H0 D = none := F1.H0none hD
  have dO1 : D ∉ owns σ (env g1) := fun z => by
    obtain ⟨_, o, e⟩ := F1.sl.own z
    rw [hD] at e
    cases e
  have dO : ∀ g, D ∉ owns σ (env g) := fun g z => dO1 ((hE g g1).owns σ ▸ z)
  refine ⟨fun i m H => m = xs.length - i ∧ i ≤ xs.length ∧ ∃ S g acc ys, Fr C S H σ (env g) ∧ Ex S1 S ∧ H D = some (.lst acc) ∧ S D = none ∧ lcW cf ef (xs.drop i) g (fun zs => P (ys ++ zs)) ∧ All2 (rb.p S) acc ys ∧ ys.length ≤ i,
    ⟨xs.length, rfl, Nat.zero_le _, S1, g1, [], [], F1.add hD, Ex.refl S1, upd_same, dS, em, True.intro, Nat.le_refl _⟩, ?_⟩
  rintro i m H2 ⟨rfl, hi2, S2, g2, acc, ys, F2, x2, hD2, sD2, hz, ha, hy⟩
  by_cases hlt : i < xs.length
  · have hxi : xs[i]? = some xs[i] := List.getElem?_eq_getElem hlt
    have hz' := hz
    rw [drop_cons hxi] at hz'
    unfold lcW at hz'
    refine .inr ⟨W1.go i hlt F2 x2, fun H' => ∃ S g acc ys, Fr C S H' σ (env g) ∧ Ex S1 S ∧ H' D = some (.lst acc) ∧ S D = none ∧ lcW cf ef (xs.drop (i + 1)) g (fun zs => P (ys ++ zs)) ∧ All2 (rb.p S) acc ys ∧ ys.length ≤ i + 1,
      fun H' h' => ⟨xs.length - (i + 1), by omega, rfl, hlt, h'⟩, fun x H3 hy3 => ?_⟩
    have Fb := F2.here.wipe (own.map (·.2))
    obtain ⟨S3, F3, x3, xH3, n3, r3⟩ := W1.yld i x H3 xs[i] Fb x2 hy3 hxi
    refine ⟨Cs.at S2 H2 σ (env g2), S3, _, xs[i], F3, r3, fun σ4 l4 n4 F4 => ?_⟩
    have hσ4 : ∀ j, j ∉ own.map (·.2) → σ4[j]? = σ[j]? := fun j hj => (n4 j (hjs' j hj)).trans (wipe_get hj)
    have hev : ∀ g j, j ∉ own.map (·.2) → (up.f xs[i] (wipeE (env g) (own.map (·.2))))[j]? = (env g)[j]? := fun g j hj => (up.ok _ _ j (hjs' j hj)).trans (wipeE_get hj)
    have hlen4 : σ4.length = σ.length := l4.trans (wipe_length _ _)
    refine ⟨wipe_same hlen4 hσ4, (Cs.at S2 H2 σ (env g2), xs[i]), ?_⟩
    have keepD : ∀ {S' H' g}, Fr (Cs.at S2 H2 σ (env g2)) S' H' σ4 (up.f xs[i] (wipeE (env g) (own.map (·.2)))) → H' D = some (.lst acc) ∧ S' D = none ∧ Ex S2 S' ∧ Fr C S' H' σ (env g) := fun {S' H' g} G =>
      ⟨G.e2 D _ hD2 (dO g2), G.nw D sD2 (by show H2 D ≠ none; rw [hD2]; exact fun z => nomatch z), G.e0, F2.unwipe (hE g2 g) (hw g2) G hσ4 (hev g)⟩
    refine ⟨S3, g2, _, F4, hz', fun b g5 hb S5 H5 F5 x5 => ?_⟩
    cases b with
    | false =>
      obtain ⟨k1, k2, k3, k4⟩ := keepD F5
      exact ⟨S5, g5, acc, ys, k4, x2.trans k3, k1, k2, hb, ha.mono fun _ _ z => rb.mono k3 z, by omega⟩
    | true =>
      refine ⟨(Cs.at S2 H2 σ (env g2), xs[i]), S5, g5, _, F5, hb, fun y g6 hyw v S6 H6 F6 x6 hv => ?_⟩
      obtain ⟨k1, k2, k3, k4⟩ := keepD F6
      have l1 := All2.length ha
      have e1 : (fun ws => P (ys ++ (y :: ws))) = (fun zs => P ((ys ++ [y]) ++ zs)) := by
        funext zs
        rw [List.append_assoc]
        rfl
      have hyw : lcW cf ef (xs.drop (i + 1)) g6 (fun ws => P (ys ++ (y :: ws))) := hyw
      rw [e1] at hyw
      exact ⟨acc, k1, by rw [l1]; exact Nat.lt_of_le_of_lt hy (Nat.lt_of_lt_of_le hlt W1.len), S6, g6, acc ++ [v], ys ++ [y], k4.other k1 k2 d0 (dO g6), x2.trans k3, upd_same, k2, hyw, (ha.mono fun _ _ z => rb.mono k3 z).snoc hv, by simp; omega⟩
  · have e : i = xs.length := by omega
    subst e
    rw [List.drop_length] at hz
    have hz : P (ys ++ []) g2 := hz
    rw [List.append_nil] at hz
    refine .inl ⟨W1.stop _ (Nat.le_refl _) F2 x2, ?_⟩
    have := q ys g2 hz D acc S2 (del H2 D) (F2.del sD2 d0 (dO g2)) (x1.trans x2) (by unfold del; simp) ha
    rw [upd_del hD2] at this
    exact this
theorem xn_lc {scope : Scope} {own : List (Str × Nat)} {ifs : List Expr} {elt : Expr} {mx : W (List α)} {up : Up α} {cf : α → W Bool} {ef : α → W β} (hc : X.calm = true) (hN : X.N.Nodup) (hi : PI X tg iter (tS C env re mx)) (ok : BlkOk X.N X.env.scope scope own)
    (hjs : (up.js.all fun j => (own.map (·.2)).contains j) = true) (hw : ∀ g, wipeOk (env g) (own.map (·.2)) = true)
    (hg : ∀ (s : Shared) (H : Hp) (C0 : Addr) (cl : List (Str × Addr)) (fp : List Addr), PG (X.blk s H scope (compEnvC scope cl C0 X.env) fp) tg (tG re up))
    (ht : ∀ (s : Shared) (H : Hp) (C0 : Addr) (cl : List (Str × Addr)) (fp : List Addr) (C' : Cs) (a : α), PTs (X.blk s H scope (compEnvC scope cl C0 X.env) fp) ifs (tT C' (fun g => up.f a (wipeE (env g) (own.map (·.2)))) (cf a)))
    (he : ∀ (s : Shared) (H : Hp) (C0 : Addr) (cl : List (Str × Addr)) (fp : List Addr) (C' : Cs) (a : α), PE (X.blk s H scope (compEnvC scope cl C0 X.env) fp) elt (tE C' (fun g => up.f a (wipeE (env g) (own.map (·.2)))) rb (ef a)))
    (hs : ∀ x, foldedSetIterable iter X.env x = pure x := by intro _; rfl) (hE : ∀ g g', Gs (env g) (env g') := by intro _ _; repeat (first | exact Gs.nil | apply Gs.keep | apply Gs.gh)) :
    PE X (.ListComp elt [⟨tg, iter, ifs, 0⟩] scope pos) (tN C env rb (mx.bind fun xs => lcW cf ef xs)) := by
  refine pe_imp (pe_lc (tt := fun σ H Q => ∃ p : Cs × α, tT p.1 (fun g => up.f p.2 (wipeE (env g) (own.map (·.2)))) (cf p.2) σ H Q) (te := fun σ H Q => ∃ p : Cs × α, tE p.1 (fun g => up.f p.2 (wipeE (env g) (own.map (·.2)))) rb (ef p.2) σ H Q) hc hN hi ok hg
    (fun s H C0 cl fp => ⟨fun pins s' σ H' Q I ⟨p, q⟩ => (ht s H C0 cl fp p.1 p.2).run pins s' σ H' Q I q⟩) (fun s H C0 cl fp => pe_ex fun p => he s H C0 cl fp p.1 p.2) hs) fun σ H Q _ h => lc_use hjs hw hE (by
      obtain ⟨S, g0, P, F, em, q⟩ := h
      exact ⟨S, g0, P, F, em, fun xs g1 px p vs S' H' F' eS hp ha _ => q xs g1 px p vs S' H' F' eS hp ha⟩)
/-- as long as there is room -/
def roomW {β : Type} (n : Nat) (w : W β) : W β := fun g P => n < 1000000 ∧ w g P
def roomO {β : Type} (n : Nat) (o : Option β) : Option β := if n < 1000000 then o else none
theorem ofO_room {β : Type} (n : Nat) (o : Option β) : ofO (roomO n o) = roomW n (ofO o) := by
  funext g P
  apply propext
  unfold roomO roomW
  split
  · rename_i h
    exact Iff.intro (fun z => ⟨h, z⟩) fun z => z.2
  · rename_i h
    exact Iff.intro (fun ⟨_, e, _⟩ => nomatch e) fun z => absurd z.1 h
/-- acc and [f y for y in ys if c y] -/
def lcWa {α β : Type} (c : α → W Bool) (f : α → W β) : List α → List β → W (List β)
  | [], acc => .ret acc
  | y :: ys, acc => (c y).bind fun b => if b = true then (f y).bind fun v => roomW acc.length (lcWa c f ys (acc ++ [v])) else lcWa c f ys acc
def lcOa {α β : Type} (c : α → Option Bool) (f : α → Option β) : List α → List β → Option (List β)
  | [], acc => some acc
  | y :: ys, acc => (c y).bind fun b => if b = true then (f y).bind fun v => roomO acc.length (lcOa c f ys (acc ++ [v])) else lcOa c f ys acc
theorem ofO_lca {α β : Type} (c : α → Option Bool) (f : α → Option β) : ∀ (ys : List α) (acc : List β), ofO (lcOa c f ys acc) = lcWa (fun x => ofO (c x)) (fun x => ofO (f x)) ys acc
  | [], acc => ofO_some acc
  | y :: ys, acc => by
    unfold lcOa lcWa
    rw [ofO_bind]
    congr 1
    funext b
    rw [ofO_if]
    congr 1
    · rw [ofO_bind]
      congr 1
      funext v
      rw [ofO_room, ofO_lca c f ys]
    · exact ofO_lca c f ys acc
/-- [f x y for x in xs if c x for y in ..]: h x adds to what there is -/
def lcW2 {α β : Type} (c : α → W Bool) (h : α → List β → W (List β)) : List α → List β → W (List β)
  | [], acc => .ret acc
  | x :: xs, acc => (c x).bind fun b => if b = true then (h x acc).bind fun acc' => lcW2 c h xs acc' else lcW2 c h xs acc
def lcO2 {α β : Type} (c : α → Option Bool) (h : α → List β → Option (List β)) : List α → List β → Option (List β)
  | [], acc => some acc
  | x :: xs, acc => (c x).bind fun b => if b = true then (h x acc).bind fun acc' => lcO2 c h xs acc' else lcO2 c h xs acc
theorem ofO_lc2 {α β : Type} (c : α → Option Bool) (h : α → List β → Option (List β)) : ∀ (xs : List α) (acc : List β), ofO (lcO2 c h xs acc) = lcW2 (fun x => ofO (c x)) (fun x acc => ofO (h x acc)) xs acc
  | [], acc => ofO_some acc
  | x :: xs, acc => by
    unfold lcO2 lcW2
    rw [ofO_bind]
    congr 1
    funext b
    rw [ofO_if]
    congr 1
    · rw [ofO_bind]
      congr 1
      funext acc'
      exact ofO_lc2 c h xs acc'
    · exact ofO_lc2 c h xs acc
theorem Fr.unwipeD {C : Cs} {S H S' H' : Hp} {σ σ2 : St} {env env' env2 : List Sl} {vs : List Nat} {D : Addr} (F : Fr C S H σ env) (d0 : C.H0 D = none) (hG : Gs env env') (hv : wipeOk env vs = true) (G : Fr ⟨owns σ env, S, Rt.del H D⟩ S' H' σ2 env2) (hσ : ∀ i, i ∉ vs → σ2[i]? = σ[i]?) (he : ∀ i, i ∉ vs → env2[i]? = env'[i]?) : Fr C S' H' σ env' := by
  have eo := (hG.owns σ).symm
  have nD : ∀ {b}, C.H0 b ≠ none → Rt.del H D b = H b := fun {b} e => by
    have : b ≠ D := fun z => e (by rw [z]; exact d0)
    unfold Rt.del
    rw [if_neg this]
  refine ⟨F.e0.trans G.e0, G.e1, fun b o e n => ?_, fun b s0 h0 => G.nw b (F.nw b s0 h0) (by show Rt.del H D b ≠ none; rw [nD h0]; exact F.al b h0), fun b h0 => G.al b (by show Rt.del H D b ≠ none; rw [nD h0]; exact F.al b h0), SlAll.of_get (σ := σ) (env := env') (F.sl.len.trans hG.length) fun i v s h1 h2 => ?_, fun p hp => F.ow p (by rw [← eo]; exact hp), by rw [eo]; exact F.nd, G.tc⟩
  · refine G.e2 b o (by show Rt.del H D b = some o; rw [nD (by rw [e]; exact fun z => nomatch z)]; exact F.e2 b o e n) fun hb => ?_
    rcases F.ow b hb with z | z
    · rw [z] at e
      cases e
    · exact n z
  · by_cases hi : i ∈ vs
    · have q := List.all_eq_true.mp hv i hi
      rcases hG.get i with e | ⟨d0, o0, o1, e1, e2⟩
      · have h2' : env[i]? = some s := e.trans h2
        obtain ⟨v', e', r⟩ := F.sl.get i h2'
        rw [h1] at e'
        cases e'
        rw [h2'] at q
        cases s with
        | un => exact True.intro
        | im r' a =>
          obtain ⟨x, e, z⟩ := r
          exact ⟨x, e, r'.mono G.e0 z⟩
        | ow _ _ => cases q
        | iv _ _ => cases q
        | ob _ _ => cases q
      · rw [e1] at q
        cases q
    · obtain ⟨v', e', r⟩ := G.sl.get i ((he i hi).trans h2)
      rw [hσ i hi, h1] at e'
      cases e'
      exact r
theorem Fr.hereD {C : Cs} {S H : Hp} {σ : St} {env : List Sl} (F : Fr C S H σ env) (D : Addr) : Fr ⟨owns σ env, S, Rt.del H D⟩ S H σ env := by
  have nD : ∀ {b}, Rt.del H D b ≠ none → Rt.del H D b = H b := fun {b} e => by
    unfold Rt.del at e ⊢
    split
    · rename_i z
      rw [if_pos z] at e
      exact absurd rfl e
    · rfl
  exact ⟨Ex.refl S, F.e1, fun b o e _ => by rw [← nD (by show Rt.del H D b ≠ none; rw [show Rt.del H D b = some o from e]; exact fun z => nomatch z)]; exact e, fun _ e _ => e, fun b h => by rw [← nD h]; exact h, F.sl, fun p hp => .inr hp, F.nd, F.tc⟩
theorem xn_lc2 {scope : Scope} {own : List (Str × Nat)} {vs1 : List Nat} {ifs ifs1 : List Expr} {elt tg1 iter1 : Expr} {mx : W (List α)} {up : Up α} {up1 : Up γ} {cf : α → W Bool} {mi : α → W (List γ)} {cf1 : α → γ → W Bool} {ef : α → γ → W β} (hc : X.calm = true) (hN : X.N.Nodup) (hi : PI X tg iter (tS C env re mx)) (ok : BlkOk X.N X.env.scope scope own) (hv1 : ∀ i ∈ vs1, i ∈ own.map (·.2))
    (hjs : (up.js.all fun j => (own.map (·.2)).contains j) = true) (hjs1 : (up1.js.all fun j => vs1.contains j) = true) (hw : ∀ g, wipeOk (env g) (own.map (·.2)) = true) (hw1 : ∀ g a, wipeOk (up.f a (wipeE (env g) (own.map (·.2)))) vs1 = true) (hw2 : ∀ g a, wipeOk (up.f a (wipeE (env g) (own.map (·.2)))) (own.map (·.2)) = true)
    (hg : ∀ (s : Shared) (H : Hp) (C0 : Addr) (cl : List (Str × Addr)) (fp : List Addr), PG (X.blk s H scope (compEnvC scope cl C0 X.env) fp) tg (tG re up))
    (ht : ∀ (s : Shared) (H : Hp) (C0 : Addr) (cl : List (Str × Addr)) (fp : List Addr) (C' : Cs) (a : α), PTs (X.blk s H scope (compEnvC scope cl C0 X.env) fp) ifs (tT C' (fun g => up.f a (wipeE (env g) (own.map (·.2)))) (cf a)))
    (hi1 : ∀ (s : Shared) (H : Hp) (C0 : Addr) (cl : List (Str × Addr)) (fp : List Addr) (C' : Cs) (a : α), PI (X.blk s H scope (compEnvC scope cl C0 X.env) fp) tg1 iter1 (tS C' (fun g => up.f a (wipeE (env g) (own.map (·.2)))) rc (mi a)))
    (hg1 : ∀ (s : Shared) (H : Hp) (C0 : Addr) (cl : List (Str × Addr)) (fp : List Addr), PG (X.blk s H scope (compEnvC scope cl C0 X.env) fp) tg1 (tG rc up1))
    (ht1 : ∀ (s : Shared) (H : Hp) (C0 : Addr) (cl : List (Str × Addr)) (fp : List Addr) (C' : Cs) (a : α) (b : γ), PTs (X.blk s H scope (compEnvC scope cl C0 X.env) fp) ifs1 (tT C' (fun g => up1.f b (wipeE (up.f a (wipeE (env g) (own.map (·.2)))) vs1)) (cf1 a b)))
    (he : ∀ (s : Shared) (H : Hp) (C0 : Addr) (cl : List (Str × Addr)) (fp : List Addr) (C' : Cs) (a : α) (b : γ), PE (X.blk s H scope (compEnvC scope cl C0 X.env) fp) elt (tE C' (fun g => up1.f b (wipeE (up.f a (wipeE (env g) (own.map (·.2)))) vs1)) rb (ef a b)))
    (hs : ∀ x, foldedSetIterable iter X.env x = pure x := by intro _; rfl) (hs1 : ∀ env x, foldedSetIterable iter1 env x = pure x := by intro _ _; rfl)
    (hE : ∀ g g', Gs (env g) (env g') := by intro _ _; repeat (first | exact Gs.nil | apply Gs.keep | apply Gs.gh)) (hE1 : ∀ g g' a, Gs (up.f a (wipeE (env g) (own.map (·.2)))) (up.f a (wipeE (env g') (own.map (·.2)))) := by intro _ _ _; repeat (first | exact Gs.nil | apply Gs.keep | apply Gs.gh)) :
    PE X (.ListComp elt [⟨tg, iter, ifs, 0⟩, ⟨tg1, iter1, ifs1, 0⟩] scope pos) (tN C env rb (mx.bind fun xs => lcW2 cf (fun a acc => (mi a).bind fun ys => lcWa (cf1 a) (ef a) ys acc) xs [])) := by
  have hjs' : ∀ j, j ∉ own.map (·.2) → j ∉ up.js := fun j hj z => hj (by
    have := List.all_eq_true.mp hjs j z
    simpa using this)
  have hjs1' : ∀ j, j ∉ vs1 → j ∉ up1.js := fun j hj z => hj (by
    have := List.all_eq_true.mp hjs1 j z
    simpa using this)
  refine pe_imp (pe_lc2 (tt := fun σ H Q => ∃ p : Cs × α, tT p.1 (fun g => up.f p.2 (wipeE (env g) (own.map (·.2)))) (cf p.2) σ H Q)
    (wi1 := fun σ H Q => ∃ p : Cs × α, tS p.1 (fun g => up.f p.2 (wipeE (env g) (own.map (·.2)))) rc (mi p.2) σ H Q)
    (tt1 := fun σ H Q => ∃ p : Cs × α × γ, tT p.1 (fun g => up1.f p.2.2 (wipeE (up.f p.2.1 (wipeE (env g) (own.map (·.2)))) vs1)) (cf1 p.2.1 p.2.2) σ H Q)
    (te := fun σ H Q => ∃ p : Cs × α × γ, tE p.1 (fun g => up1.f p.2.2 (wipeE (up.f p.2.1 (wipeE (env g) (own.map (·.2)))) vs1)) rb (ef p.2.1 p.2.2) σ H Q) hc hN hi ok hv1 hg
    (fun s H C0 cl fp => ⟨fun pins s' σ H' Q I ⟨p, q⟩ => (ht s H C0 cl fp p.1 p.2).run pins s' σ H' Q I q⟩)
    (fun s H C0 cl fp => ⟨fun pins s' σ H' Q I ⟨p, q⟩ => (hi1 s H C0 cl fp p.1 p.2).run pins s' σ H' Q I q⟩) hg1
    (fun s H C0 cl fp => ⟨fun pins s' σ H' Q I ⟨p, q⟩ => (ht1 s H C0 cl fp p.1 p.2.1 p.2.2).run pins s' σ H' Q I q⟩) (fun s H C0 cl fp => pe_ex fun p => he s H C0 cl fp p.1 p.2.1 p.2.2) hs hs1) fun σ H Q _ ⟨S, g0, P, F, em, q⟩ => ?_
  refine ⟨S, g0, _, F, em, fun xs g1 em J S1 H1 F1 x1 W1 D hD => ?_⟩
  have d0 : C.H0 D = none := F1.H0none hD
  have dO1 : D ∉ owns σ (env g1) := fun z => by
    obtain ⟨_, o, e⟩ := F1.sl.own z
    rw [hD] at e
    cases e
  have dO : ∀ g, D ∉ owns σ (env g) := fun g z => dO1 ((hE g g1).owns σ ▸ z)
  have dS : S1 D = none := F1.e1.back hD
  refine ⟨fun i m H => m = xs.length - i ∧ i ≤ xs.length ∧ ∃ S g acc ys, Fr C S H σ (env g) ∧ Ex S1 S ∧ H D = some (.lst acc) ∧ S D = none ∧ lcW2 cf (fun a acc => (mi a).bind fun ys => lcWa (cf1 a) (ef a) ys acc) (xs.drop i) ys g P ∧ All2 (rb.p S) acc ys,
    ⟨xs.length, rfl, Nat.zero_le _, S1, g1, [], [], F1.add hD, Ex.refl S1, upd_same, dS, em, True.intro⟩, ?_⟩
  rintro i m H2 ⟨rfl, hi2, S2, g2, acc, ys, F2, x2, hD2, sD2, hz, ha⟩
  by_cases hlt : i < xs.length
  · have hxi : xs[i]? = some xs[i] := List.getElem?_eq_getElem hlt
    have hz' := hz
    rw [drop_cons hxi] at hz'
    unfold lcW2 at hz'
    refine .inr ⟨W1.go i hlt F2 x2, fun H' => ∃ S g acc ys, Fr C S H' σ (env g) ∧ Ex S1 S ∧ H' D = some (.lst acc) ∧ S D = none ∧ lcW2 cf (fun a acc => (mi a).bind fun ys => lcWa (cf1 a) (ef a) ys acc) (xs.drop (i + 1)) ys g P ∧ All2 (rb.p S) acc ys,
      fun H' h' => ⟨xs.length - (i + 1), by omega, rfl, hlt, h'⟩, fun x H3 hy3 => ?_⟩
    let C' : Cs := ⟨owns σ (env g2), S2, Rt.del H2 D⟩
    have c0 : C'.H0 D = none := by
      show Rt.del H2 D D = none
      unfold Rt.del
      simp
    have F2' : Fr C' S2 H2 σ (env g2) := F2.hereD D
    have Fb := F2'.wipe (own.map (·.2))
    obtain ⟨S3, F3, x3, xH3, n3, r3⟩ := W1.yld i x H3 xs[i] Fb x2 hy3 hxi
    have hD3 : H3 D = some (.lst acc) := xH3 _ _ hD2
    have sD3 : S3 D = none := n3 D sD2 (by rw [hD2]; exact fun z => nomatch z)
    refine ⟨C', S3, _, xs[i], F3, r3, fun σ4 l4 n4 F4 => ?_⟩
    have hσ4 : ∀ j, j ∉ own.map (·.2) → σ4[j]? = σ[j]? := fun j hj => (n4 j (hjs' j hj)).trans (wipe_get hj)
    have hev : ∀ g j, j ∉ own.map (·.2) → (up.f xs[i] (wipeE (env g) (own.map (·.2))))[j]? = (env g)[j]? := fun g j hj => (up.ok _ _ j (hjs' j hj)).trans (wipeE_get hj)
    have hlen4 : σ4.length = σ.length := l4.trans (wipe_length _ _)
    refine ⟨wipe_same hlen4 hσ4, (Cs.at S3 H3 σ4 (up.f xs[i] (wipeE (env g2) (own.map (·.2)))), xs[i]), ?_⟩
    -- back at the outer one
    have back : ∀ {S' H' g}, Fr C' S' H' σ4 (up.f xs[i] (wipeE (env g) (own.map (·.2)))) → Fr C S' H' σ (env g) := fun {S' H' g} G => F2.unwipeD d0 (hE g2 g) (hw g2) G hσ4 (hev g)
    -- D is none of the own ones
    have dO4 : ∀ {S' H' g}, Fr C' S' H' σ4 (up.f xs[i] (wipeE (env g) (own.map (·.2)))) → D ∉ owns σ4 (up.f xs[i] (wipeE (env g) (own.map (·.2)))) := fun {S' H' g} G z => by
      have G2 := back G
      obtain ⟨j, s, e1, e2, e3⟩ := owns_of z
      by_cases hj : j ∈ own.map (·.2)
      · have q := List.all_eq_true.mp (hw2 g xs[i]) j hj
        rw [e1] at q
        cases s with
        | un => cases e3
        | im _ _ => cases e3
        | ow _ _ => cases q
        | iv _ _ => cases q
        | ob _ _ => cases q
      · have : D ∈ owns σ (env g) := owns_mem_get j ((hev g j hj).symm.trans e1) ((hσ4 j hj).symm.trans e2) e3
        exact dO g this
    have keep : ∀ {S' H' S'' H'' g g'}, Fr C' S' H' σ4 (up.f xs[i] (wipeE (env g) (own.map (·.2)))) → H' D = some (.lst acc) → S' D = none → Fr (Cs.at S' H' σ4 (up.f xs[i] (wipeE (env g) (own.map (·.2))))) S'' H'' σ4 (up.f xs[i] (wipeE (env g') (own.map (·.2)))) →
        Fr C' S'' H'' σ4 (up.f xs[i] (wipeE (env g') (own.map (·.2)))) ∧ H'' D = some (.lst acc) ∧ S'' D = none ∧ Ex S' S'' := fun {S' H' S'' H'' g g'} G h1 h2 G' =>
      ⟨G.backG ((hE1 g' g xs[i]).owns σ4) G', G'.e2 D _ h1 (dO4 G), G'.nw D h2 (by show H' D ≠ none; rw [h1]; exact fun z => nomatch z), G'.e0⟩
    refine ⟨S3, g2, _, F4.here, hz', fun b g5 hb S5 H5 F5 x5 => ?_⟩
    obtain ⟨G5, hD5, sD5, _⟩ := keep F4 hD3 sD3 F5
    cases b with
    | false => exact ⟨S5, g5, acc, ys, back G5, x2.trans (x3.trans x5), hD5, sD5, hb, ha.mono fun _ _ z => rb.mono (x3.trans x5) z⟩
    | true =>
      refine ⟨(Cs.at S5 H5 σ4 _, xs[i]), S5, g5, _, G5.here, hb, fun zs1 g6 hz6 J1 S6 H6 F6 x6 W2 => ?_⟩
      obtain ⟨G6, hD6, sD6, _⟩ := keep G5 hD5 sD5 F6
      refine ⟨fun j k H => k = zs1.length - j ∧ j ≤ zs1.length ∧ ∃ S g acc ys, Fr C' S H σ4 (up.f xs[i] (wipeE (env g) (own.map (·.2)))) ∧ Ex S6 S ∧ H D = some (.lst acc) ∧ S D = none ∧
          lcWa (cf1 xs[i]) (ef xs[i]) (zs1.drop j) ys g (fun acc' g' => lcW2 cf (fun a acc => (mi a).bind fun ys => lcWa (cf1 a) (ef a) ys acc) (xs.drop (i + 1)) acc' g' P) ∧ All2 (rb.p S) acc ys,
        ⟨zs1.length, rfl, Nat.zero_le _, S6, g6, acc, ys, G6, Ex.refl S6, hD6, sD6, hz6, ha.mono fun _ _ z => rb.mono (x3.trans (x5.trans x6)) z⟩, ?_⟩
      rintro j k H7 ⟨rfl, hj2, S7, g7, acc7, ys7, G7, x7, hD7, sD7, hz7, ha7⟩
      by_cases hlt1 : j < zs1.length
      · have hxj : zs1[j]? = some zs1[j] := List.getElem?_eq_getElem hlt1
        have hz8 := hz7
        rw [drop_cons hxj] at hz8
        unfold lcWa at hz8
        refine .inr ⟨W2.go j hlt1 G7 x7, fun H => ∃ S g acc ys, Fr C' S H σ4 (up.f xs[i] (wipeE (env g) (own.map (·.2)))) ∧ Ex S6 S ∧ H D = some (.lst acc) ∧ S D = none ∧
          lcWa (cf1 xs[i]) (ef xs[i]) (zs1.drop (j + 1)) ys g (fun acc' g' => lcW2 cf (fun a acc => (mi a).bind fun ys => lcWa (cf1 a) (ef a) ys acc) (xs.drop (i + 1)) acc' g' P) ∧ All2 (rb.p S) acc ys,
          fun H' h' => ⟨zs1.length - (j + 1), by omega, rfl, hlt1, h'⟩, fun y H8 hy8 => ?_⟩
        have Gb := G7.here.wipe vs1
        obtain ⟨S8, F8, x8, xH8, n8, r8⟩ := W2.yld j y H8 zs1[j] Gb x7 hy8 hxj
        refine ⟨Cs.at S7 H7 σ4 (up.f xs[i] (wipeE (env g7) (own.map (·.2)))), S8, _, zs1[j], F8, r8, fun σ5 l5 n5 F9 => ?_⟩
        have hσ5 : ∀ j, j ∉ vs1 → σ5[j]? = σ4[j]? := fun j hj => (n5 j (hjs1' j hj)).trans (wipe_get hj)
        have hev1 : ∀ g j', j' ∉ vs1 → (up1.f zs1[j] (wipeE (up.f xs[i] (wipeE (env g) (own.map (·.2)))) vs1))[j']? = (up.f xs[i] (wipeE (env g) (own.map (·.2))))[j']? := fun g j' hj => (up1.ok _ _ j' (hjs1' j' hj)).trans (wipeE_get hj)
        have hlen5 : σ5.length = σ4.length := l5.trans (wipe_length _ _)
        refine ⟨wipe_same hlen5 hσ5, (Cs.at S7 H7 σ4 (up.f xs[i] (wipeE (env g7) (own.map (·.2)))), xs[i], zs1[j]), ?_⟩
        have keep1 : ∀ {S' H' g}, Fr (Cs.at S7 H7 σ4 (up.f xs[i] (wipeE (env g7) (own.map (·.2))))) S' H' σ5 (up1.f zs1[j] (wipeE (up.f xs[i] (wipeE (env g) (own.map (·.2)))) vs1)) →
            H' D = some (.lst acc7) ∧ S' D = none ∧ Ex S7 S' ∧ Fr C' S' H' σ4 (up.f xs[i] (wipeE (env g) (own.map (·.2)))) := fun {S' H' g} G =>
          ⟨G.e2 D _ hD7 (dO4 G7), G.nw D sD7 (by show H7 D ≠ none; rw [hD7]; exact fun z => nomatch z), G.e0, G7.unwipe (hE1 g7 g xs[i]) (hw1 g7 xs[i]) G hσ5 (hev1 g)⟩
        refine ⟨S8, g7, _, F9, hz8, fun b g10 hb10 S10 H10 F10 x10 => ?_⟩
        cases b with
        | false =>
          obtain ⟨k1, k2, k3, k4⟩ := keep1 F10
          exact ⟨S10, g10, acc7, ys7, k4, x7.trans k3, k1, k2, hb10, ha7.mono fun _ _ z => rb.mono k3 z⟩
        | true =>
          refine ⟨(Cs.at S7 H7 σ4 (up.f xs[i] (wipeE (env g7) (own.map (·.2)))), xs[i], zs1[j]), S10, g10, _, F10, hb10, fun v g11 ⟨hroom, hv11⟩ u S11 H11 F11 x11 hu => ?_⟩
          obtain ⟨k1, k2, k3, k4⟩ := keep1 F11
          have l1 := All2.length ha7
          exact ⟨acc7, k1, by rw [l1, sizeLine_eq]; omega, S11, g11, acc7 ++ [u], ys7 ++ [v], k4.other k1 k2 c0 (dO4 k4), x7.trans k3, upd_same, k2, hv11, (ha7.mono fun _ _ z => rb.mono k3 z).snoc hu⟩
      · have e : j = zs1.length := by omega
        subst e
        rw [List.drop_length] at hz7
        exact .inl ⟨W2.stop _ (Nat.le_refl _) G7 x7, S7, g7, acc7, ys7, back G7, x2.trans (x3.trans (x5.trans (x6.trans x7))), hD7, sD7, hz7, ha7⟩
  · have e : i = xs.length := by omega
    subst e
    rw [List.drop_length] at hz
    have hz : P ys g2 := hz
    refine .inl ⟨W1.stop _ (Nat.le_refl _) F2 x2, ?_⟩
    have := q ys g2 hz D acc S2 (del H2 D) (F2.del sD2 d0 (dO g2)) (x1.trans x2) (by unfold del; simp) ha
    rw [upd_del hD2] at this
    exact fun _ => this
theorem xts_nil {env' : Gh → List Sl} {C' : Cs} : PTs X [] (tT C' env' (.ret true)) := ⟨fun pins s σ H Q I ⟨S, g0, P, F, em, q⟩ => pts_nil.run pins s σ H Q I (q _ _ em S H F (Ex.refl S))⟩
theorem xts_one {env' : Gh → List Sl} {C' : Cs} {m : W Bool} (h : PT X a (tT C' env' m)) : PTs X [a] (tT C' env' m) := pts_one h
end

/-! ### the text's own defs -/
def Post {ρ : Type} (S H : Hp) (r : Rp ρ) (o : ρ) (Q : VK) : Prop := ∀ v S' H', Ex S S' → Ex S' H' → Ex H H' → (∀ b, S b = none → H b ≠ none → S' b = none) → Tc S' H' → r.p S' v o → Q v H'
/-- f(..) gives what f gives, and changes nothing -/
def SpF {α ρ : Type} (ra : Ra α) (r : Rp ρ) (f : α → Option ρ) : Sp := fun vs H Q _ => ∃ S a o, Ex S H ∧ Tc S H ∧ ra.p S vs a ∧ f a = some o ∧ Post S H r o Q
section
variable {X : Cx} {C : Cs} {env : Gh → List Sl} {e : Expr} {es : List Expr} {pos p : Pos} {α ρ : Type} {ra : Ra α} {r : Rp ρ} {f : α → Option ρ} {m : W α}
theorem xe_call {π : Around → Prop} {k : Nat} {fa : Addr} {fd : FuncData} {ps : List Str} {x : Str} (F : FnP π X.prog X.w X.K X.mg X.base CX0 k fa fd ps (SpF ra r f)) (hpi : π X.A) (hr : Room k X.A) (hg : Gl X x) (hm : X.mg x = some (.ref fa)) (hk : PySem.W.keepIn X.K (.ref fa) = true) (hb : Binds X.K fd ps [])
    (ha : PA X (e :: es) (tA C env ra m)) (hdb : (x == ("__debug__" : Str)) = false := by decide) (he : starEach (e :: es) X.env = (false, eval e X.env) :: starEach es X.env := by rfl) (hpl : (backTo pos (starEach es X.env)).any (·.1) = false := by rfl) :
    PE X (.Call (.Name x p) (e :: es) [] pos) (tE C env r (m.bind fun a => ofO (f a))) :=
  pe_imp (pe_callP F hpi hr hg hm hk hb .nil pass0 ha hdb he hpl) fun σ H Q _ ⟨S, g0, P, Fr1, em, q⟩ => ⟨S, g0, _, Fr1, em, fun a g1 ⟨o, eo, po⟩ vs S1 H1 F1 x1 hv => by
    show SpF ra r f (vs ++ []) H1 _ E0
    rw [List.append_nil]
    exact ⟨S1, a, o, F1.e1, F1.tc, hv, eo, fun v S' H' eS eH eHH n t hr' _ => q o g1 po v S' H' (F1.call eS eH eHH n t) (x1.trans eS) hr'⟩⟩
end
end Rt

set_option maxRecDepth 100000
set_option maxHeartbeats 4000000
/-! Rt6: statements over data, defs. -/
namespace Rt
open PySem L2

/-- how a block ends: it goes on with data, gives a value back, breaks, goes on with the next turn -/
inductive Fl (ρ β γ : Type) where
  | nx (b : β) | rt (a : ρ) | br (c : γ) | ct (c : γ)
def Fl.up {ρ β γ : Type} : Fl ρ Empty γ → Fl ρ β γ
  | .nx b => nomatch b
  | .rt a => .rt a
  | .br c => .br c
  | .ct c => .ct c
def W.no {α : Type} : W α := fun _ _ => False
theorem ofO_no {α : Type} : ofO (none : Option α) = W.no := by
  funext g P
  exact propext (Iff.intro (fun ⟨_, e, _⟩ => nomatch e) fun h => h.elim)
def upF {ρ β γ : Type} (o : W (Fl ρ Empty γ)) : W (Fl ρ β γ) := o.bind fun x => .ret x.up
def bindK {ρ β β' γ : Type} (k : β → W (Fl ρ β' γ)) : Fl ρ β γ → W (Fl ρ β' γ)
  | .nx b => k b
  | .rt a => .ret (.rt a)
  | .br c => .ret (.br c)
  | .ct c => .ret (.ct c)
def bindF {ρ β β' γ : Type} (o : W (Fl ρ β γ)) (k : β → W (Fl ρ β' γ)) : W (Fl ρ β' γ) := o.bind (bindK k)
/-- how a turn ends -/
def turnK {ρ γ γ' : Type} (k : γ → W (Fl ρ γ γ')) : Fl ρ γ γ → W (Fl ρ γ γ')
  | .nx s => k s
  | .ct s => k s
  | .br s => .ret (.nx s)
  | .rt a => .ret (.rt a)
/-- a loop over a list, from s on -/
def forL {ρ α γ γ' : Type} (f : γ → α → W (Fl ρ γ γ)) : List α → γ → W (Fl ρ γ γ')
  | [], s => .ret (.nx s)
  | x :: xs, s => (f s x).bind (turnK (forL f xs))
def whileL {ρ γ γ' : Type} (c : γ → W Bool) (f : γ → W (Fl ρ γ γ)) : Nat → γ → W (Fl ρ γ γ')
  | 0, _ => .no
  | n + 1, s => (c s).bind fun b => if b = true then (f s).bind (turnK (whileL c f n)) else .ret (.nx s)
/-- what a def gives -/
def rtK {ρ β γ : Type} : Fl ρ β γ → W ρ
  | .rt a => .ret a
  | _ => .no
def rtOf {ρ β γ : Type} (o : W (Fl ρ β γ)) : W ρ := o.bind rtK
/-- .. a def that gives None -/
def rtKN {β γ : Type} : Fl Unit β γ → W Unit
  | .rt a => .ret a
  | .nx _ => .ret ()
  | _ => .no
def rtN {β γ : Type} (o : W (Fl Unit β γ)) : W Unit := o.bind rtKN

/-! the same, reckoned -/
def upO {ρ β γ : Type} (o : Option (Fl ρ Empty γ)) : Option (Fl ρ β γ) := o.bind fun x => some x.up
def bindKO {ρ β β' γ : Type} (k : β → Option (Fl ρ β' γ)) : Fl ρ β γ → Option (Fl ρ β' γ)
  | .nx b => k b
  | .rt a => some (.rt a)
  | .br c => some (.br c)
  | .ct c => some (.ct c)
def bindFO {ρ β β' γ : Type} (o : Option (Fl ρ β γ)) (k : β → Option (Fl ρ β' γ)) : Option (Fl ρ β' γ) := o.bind (bindKO k)
def turnKO {ρ γ γ' : Type} (k : γ → Option (Fl ρ γ γ')) : Fl ρ γ γ → Option (Fl ρ γ γ')
  | .nx s => k s
  | .ct s => k s
  | .br s => some (.nx s)
  | .rt a => some (.rt a)
def forO {ρ α γ γ' : Type} (f : γ → α → Option (Fl ρ γ γ)) : List α → γ → Option (Fl ρ γ γ')
  | [], s => some (.nx s)
  | x :: xs, s => (f s x).bind (turnKO (forO f xs))
def whileO {ρ γ γ' : Type} (c : γ → Option Bool) (f : γ → Option (Fl ρ γ γ)) : Nat → γ → Option (Fl ρ γ γ')
  | 0, _ => none
  | n + 1, s => (c s).bind fun b => if b = true then (f s).bind (turnKO (whileO c f n)) else some (.nx s)
def rtKO {ρ β γ : Type} : Fl ρ β γ → Option ρ
  | .rt a => some a
  | _ => none
def rtO {ρ β γ : Type} (o : Option (Fl ρ β γ)) : Option ρ := o.bind rtKO
def rtKNO {β γ : Type} : Fl Unit β γ → Option Unit
  | .rt a => some a
  | .nx _ => some ()
  | _ => none
def rtNO {β γ : Type} (o : Option (Fl Unit β γ)) : Option Unit := o.bind rtKNO
theorem ofO_up {ρ β γ : Type} (o : Option (Fl ρ Empty γ)) : ofO (upO (β := β) o) = upF (ofO o) := by
  unfold upO upF
  rw [ofO_bind]
  congr 1
  funext x
  exact ofO_some _
theorem ofO_bindK {ρ β β' γ : Type} (k : β → Option (Fl ρ β' γ)) (x : Fl ρ β γ) : ofO (bindKO k x) = bindK (fun b => ofO (k b)) x := by
  cases x with
  | nx b => rfl
  | rt a => exact ofO_some _
  | br c => exact ofO_some _
  | ct c => exact ofO_some _
theorem ofO_bindF {ρ β β' γ : Type} (o : Option (Fl ρ β γ)) (k : β → Option (Fl ρ β' γ)) : ofO (bindFO o k) = bindF (ofO o) fun b => ofO (k b) := by
  unfold bindFO bindF
  rw [ofO_bind]
  congr 1
  funext x
  exact ofO_bindK k x
theorem ofO_turnK {ρ γ γ' : Type} (k : γ → Option (Fl ρ γ γ')) (x : Fl ρ γ γ) : ofO (turnKO k x) = turnK (fun b => ofO (k b)) x := by
  cases x with
  | nx b => rfl
  | ct b => rfl
  | rt a => exact ofO_some _
  | br c => exact ofO_some _
theorem ofO_for {ρ α γ γ' : Type} (f : γ → α → Option (Fl ρ γ γ)) : ∀ (xs : List α) (s : γ), ofO (forO (γ' := γ') f xs s) = forL (fun s x => ofO (f s x)) xs s
  | [], s => ofO_some _
  | x :: xs, s => by
    unfold forO forL
    rw [ofO_bind]
    congr 1
    funext o
    rw [ofO_turnK]
    congr 1
    funext s'
    exact ofO_for f xs s'
theorem ofO_while {ρ γ γ' : Type} (c : γ → Option Bool) (f : γ → Option (Fl ρ γ γ)) : ∀ (n : Nat) (s : γ), ofO (whileO (γ' := γ') c f n s) = whileL (fun s => ofO (c s)) (fun s => ofO (f s)) n s
  | 0, s => ofO_no
  | n + 1, s => by
    unfold whileO whileL
    rw [ofO_bind]
    congr 1
    funext b
    rw [ofO_if, ofO_bind, ofO_some]
    congr 1
    congr 1
    funext o
    rw [ofO_turnK]
    congr 1
    funext s'
    exact ofO_while c f n s'
theorem ofO_rt {ρ β γ : Type} (o : Option (Fl ρ β γ)) : ofO (rtO o) = rtOf (ofO o) := by
  unfold rtO rtOf
  rw [ofO_bind]
  congr 1
  funext x
  cases x with
  | rt a => exact ofO_some _
  | nx b => exact ofO_no
  | br c => exact ofO_no
  | ct c => exact ofO_no
theorem ofO_rtN {β γ : Type} (o : Option (Fl Unit β γ)) : ofO (rtNO o) = rtN (ofO o) := by
  unfold rtNO rtN
  rw [ofO_bind]
  congr 1
  funext x
  cases x with
  | rt a => exact ofO_some _
  | nx b => exact ofO_some _
  | br c => exact ofO_no
  | ct c => exact ofO_no

/-- the shared object: a list of ints -/
def oD (g : Gh) : HO := .lst (g.map V.int)
/-- the ends, by the data; kp: what is known still where a value is given back -/
def EndF (C : Cs) (S : Hp) {ρ β γ : Type} (kp : Gh → List Sl) (pn : β → Gh → List Sl) (pl : γ → Gh → List Sl) (r : Rp ρ) (D : Ends) (g : Gh) : Fl ρ β γ → Prop
  | .nx b => ∀ S' H' σ', Fr C S' H' σ' (pn b g) → Ex S S' → D.nx σ' H'
  | .rt a => ∀ v S' H' σ', Fr C S' H' σ' (kp g) → Ex S S' → r.p S' v a → D.rt v H'
  | .br c => ∀ S' H' σ', Fr C S' H' σ' (pl c g) → Ex S S' → D.bk σ' H'
  | .ct c => ∀ S' H' σ', Fr C S' H' σ' (pl c g) → Ex S S' → D.ct σ' H'
def tF (C : Cs) (env : Gh → List Sl) {ρ β γ : Type} (m : W (Fl ρ β γ)) (pn : β → Gh → List Sl) (pl : γ → Gh → List Sl) (kp : Gh → List Sl) (r : Rp ρ) : TS := fun D σ H => ∃ S g P, Fr C S H σ (env g) ∧ m g P ∧ ∀ o g', P o g' → EndF C S kp pn pl r D g' o
theorem EndF.mono {C : Cs} {S S2 : Hp} {ρ β γ : Type} {kp : Gh → List Sl} {pn : β → Gh → List Sl} {pl : γ → Gh → List Sl} {r : Rp ρ} {D : Ends} {g : Gh} {o : Fl ρ β γ} (e : Ex S S2) (h : EndF C S kp pn pl r D g o) : EndF C S2 kp pn pl r D g o := by
  cases o with
  | nx b => exact fun S' H' σ' F x => h S' H' σ' F (e.trans x)
  | rt a => exact fun v S' H' σ' F x q => h v S' H' σ' F (e.trans x) q
  | br c => exact fun S' H' σ' F x => h S' H' σ' F (e.trans x)
  | ct c => exact fun S' H' σ' F x => h S' H' σ' F (e.trans x)
/-- less is known -/
inductive Le : List Sl → List Sl → Prop
  | nil : Le [] []
  | keep {s : Sl} {a b : List Sl} : Le a b → Le (s :: a) (s :: b)
  | drop {s : Sl} {a b : List Sl} : Le a b → Le (s :: a) (.un :: b)
theorem Le.refl : ∀ a : List Sl, Le a a
  | [] => .nil
  | _ :: a => .keep (Le.refl a)
theorem Le.sl {S H : Hp} : ∀ {σ : St} {a b : List Sl}, Le a b → SlAll S H σ a → SlAll S H σ b
  | [], _, _, .nil, _ => True.intro
  | _ :: _, _, _, .keep l, ⟨x, y⟩ => ⟨x, Le.sl l y⟩
  | _ :: _, _, _, .drop l, ⟨_, y⟩ => ⟨True.intro, Le.sl l y⟩
  | _ :: _, _, _, .nil, h => h.elim
  | [], _, _, .keep _, h => h.elim
  | [], _, _, .drop _, h => h.elim
theorem Le.owns : ∀ {σ : St} {a b : List Sl}, Le a b → (owns σ b).Sublist (owns σ a)
  | [], _, _, _ => by simp [Rt.owns]
  | _ :: _, _, _, .nil => by simp [Rt.owns]
  | v :: _, _, _, .keep l => by
    unfold Rt.owns
    exact (List.Sublist.refl _).append (Le.owns l)
  | v :: _, s :: _, _, .drop l => by
    unfold Rt.owns
    have : ownOf v Sl.un = [] := by cases v with | none => rfl | some v => cases v <;> rfl
    rw [this, List.nil_append]
    exact (Le.owns l).trans (List.sublist_append_right _ _)
theorem Fr.le {C : Cs} {S H : Hp} {σ : St} {a b : List Sl} (F : Fr C S H σ a) (l : Le a b) : Fr C S H σ b :=
  ⟨F.e0, F.e1, F.e2, F.nw, F.al, l.sl F.sl, fun p hp => F.ow p (l.owns.subset hp), F.nd.sublist l.owns, F.tc⟩
theorem SlAll.take {S H : Hp} : ∀ (n : Nat) {σ : St} {a : List Sl}, SlAll S H σ a → SlAll S H (σ.take n) (a.take n)
  | 0, _, _, _ => by simp [SlAll]
  | n + 1, [], [], _ => True.intro
  | n + 1, _ :: _, _ :: _, h => ⟨h.1, SlAll.take n h.2⟩
  | _ + 1, [], _ :: _, h => h.elim
  | _ + 1, _ :: _, [], h => h.elim
theorem owns_take : ∀ (n : Nat) {σ : St} {a : List Sl}, (Rt.owns (σ.take n) (a.take n)).Sublist (Rt.owns σ a)
  | 0, _, _ => by simp [Rt.owns]
  | n + 1, [], _ => by simp [Rt.owns]
  | n + 1, _ :: _, [] => by simp [Rt.owns]
  | n + 1, v :: σ, s :: a => by
    show (ownOf v s ++ Rt.owns (σ.take n) (a.take n)).Sublist (ownOf v s ++ Rt.owns σ a)
    exact (List.Sublist.refl _).append (owns_take n)
theorem Fr.take {C : Cs} {S H : Hp} {σ : St} {a : List Sl} (n : Nat) (F : Fr C S H σ a) : Fr C S H (σ.take n) (a.take n) :=
  ⟨F.e0, F.e1, F.e2, F.nw, F.al, F.sl.take n, fun p hp => F.ow p ((owns_take n).subset hp), F.nd.sublist (owns_take n), F.tc⟩
/-- what is kept: the first slots -/
def Kp (env kp : Gh → List Sl) : Prop := ∃ n, ∀ g, kp g = (env g).take n
theorem Fr.kp {C : Cs} {S H : Hp} {σ : St} {env kp : Gh → List Sl} {g : Gh} (k : Kp env kp) (F : Fr C S H σ (env g)) : ∃ σ', Fr C S H σ' (kp g) := by
  obtain ⟨n, e⟩ := k
  exact ⟨σ.take n, by rw [e g]; exact F.take n⟩

section
variable {X : Cx} {C : Cs} {env kp : Gh → List Sl} {e a b c tg iter : Expr} {es : List Expr} {A B rest : List Stmt} {st : Stmt} {pos : Pos} {α β γ δ ρ τ : Type} {r : Rp ρ} {ra re : Rp α} {rb : Rp β} {ma : W α} {mb : W β} {k : Bool} {pn : β → Gh → List Sl} {pl : γ → Gh → List Sl} {pt : τ → Gh → List Sl}
/-! ### blocks -/
theorem xs_nil {v : β} (l : ∀ g, Le (env g) (pn v g)) : PSs X [] (tF C env (.ret (.nx v)) pn pl kp r) := pss_imp pss_nil fun D σ H _ ⟨S, g0, P, F, em, q⟩ => q _ _ em S H σ (F.le (l _)) (Ex.refl S)
theorem xs_ret {m : W ρ} (h : PE X e (tE C env r m)) (hk : Kp env kp := by first | exact ⟨0, fun _ => rfl⟩ | exact ⟨1, fun _ => rfl⟩) : PSs X (.Return (some e) pos :: rest) (tF C env (m.bind fun x => .ret (.rt x)) pn pl kp r) := pss_imp (pss_cons (ps_ret h) pss_never) fun D σ H _ ⟨S, g0, P, F, em, q⟩ =>
  ⟨S, g0, _, F, em, fun x g1 px v S1 H1 F1 x1 hv => let ⟨σ', F'⟩ := F1.kp hk; q _ _ px v S1 H1 σ' F' x1 hv⟩
theorem xs_brk {v : γ} (l : ∀ g, Le (env g) (pl v g)) : PSs X (.Break pos :: rest) (tF C env (.ret (.br v)) pn pl kp r) := pss_imp (pss_cons ps_break pss_never) fun D σ H _ ⟨S, g0, P, F, em, q⟩ => q _ _ em S H σ (F.le (l _)) (Ex.refl S)
theorem xs_cont {v : γ} (l : ∀ g, Le (env g) (pl v g)) : PSs X (.Continue pos :: rest) (tF C env (.ret (.ct v)) pn pl kp r) := pss_imp (pss_cons ps_continue pss_never) fun D σ H _ ⟨S, g0, P, F, em, q⟩ => q _ _ em S H σ (F.le (l _)) (Ex.refl S)
/-- what isn't come to -/
theorem xs_never : PSs X A (tF C env (.no : W (Fl ρ β γ)) pn pl kp r) := pss_imp pss_never fun D σ H _ ⟨S, g0, P, F, em, q⟩ => em.elim
/-- name = e -/
theorem xs_set {i : Nat} {x : Str} {py : Pos} {m : W α} {K : α → W (Fl ρ β γ)} (h : PE X e (tE C env re m)) (hr : ∀ a, PSs X rest (tF C (fun g => (env g).set i (.im re a)) (K a) pn pl kp r)) (hN : X.N.Nodup) (hi : X.N[i]? = some x) (hx : Loc X.env.scope x) (hs : swapsWith e (some (.Name x py)) pos.line X.env = pure false)
    (hf : X.fn x = true) : PSs X (.Assign [.Name x py] e pos :: rest) (tF C env (m.bind K) pn pl kp r) :=
  pss_imp (pss_cons (ps_set hN hi hx h hs (.inl hf)) (pss_ex hr)) fun D σ H _ ⟨S, g0, P, F, em, q⟩ =>
    ⟨S, g0, _, F, em, fun a g1 pa v S1 H1 F1 x1 hv => ⟨a, S1, _, P, F1.setIm i hv, pa, fun o g9 po => (q o g9 po).mono x1⟩⟩
/-- name = a new list, the def's own -/
theorem xs_setN {i : Nat} {x : Str} {py : Pos} {m : W (List α)} {K : List α → W (Fl ρ β γ)} (h : PE X e (tN C env re m)) (hr : ∀ a, PSs X rest (tF C (fun g => (env g).set i (.ow re a)) (K a) pn pl kp r)) (hN : X.N.Nodup) (hi : X.N[i]? = some x) (hx : Loc X.env.scope x) (hs : swapsWith e (some (.Name x py)) pos.line X.env = pure false)
    (hf : X.fn x = true) : PSs X (.Assign [.Name x py] e pos :: rest) (tF C env (m.bind K) pn pl kp r) :=
  pss_imp (pss_cons (ps_set hN hi hx h hs (.inl hf)) (pss_ex hr)) fun D σ H _ ⟨S, g0, P, F, em, q⟩ =>
    ⟨S, g0, _, F, em, fun xs g1 px p vs S1 H1 F1 x1 hp hv => ⟨xs, S1, _, P, F1.setOw i hp hv, px, fun o g9 po => (q o g9 po).mono x1⟩⟩
/-- any target -/
theorem xs_asg {m : W α} {up : Up α} {K : α → W (Fl ρ β γ)} (h : PE X e (tE C env re m)) (hg : PG X tg (tG re up)) (hr : ∀ a, PSs X rest (tF C (fun g => up.f a (env g)) (K a) pn pl kp r)) (hs : swapsWithSole [tg] e pos.line X.env = pure false := by rfl) (hw : swappedStores [tg] e X.env = pure none := by rfl)
    (h1 : (assignEach [tg] X.env).map (·.2) = [assign tg X.env] := by rfl) : PSs X (.Assign [tg] e pos :: rest) (tF C env (m.bind K) pn pl kp r) :=
  pss_imp (pss_cons (ps_asg h hg hs hw h1) (pss_ex hr)) fun D σ H _ ⟨S, g0, P, F, em, q⟩ =>
    ⟨S, g0, _, F, em, fun a g1 pa v S1 H1 F1 x1 hv => ⟨C, S1, _, a, F1, hv, fun σ' _ _ F2 => ⟨a, S1, _, P, F2, pa, fun o g9 po => (q o g9 po).mono x1⟩⟩⟩
/-- x, y = a, b of two locals -/
theorem xs_par {i j : Nat} {x y : Str} {px py pt0 : Pos} {kt k2 : Nat} {pt2 : Pos} {α1 α2 : Type} {r1 : Rp α1} {r2 : Rp α2} {m1 : W α1} {m2 : W α2} {K : α1 → α2 → W (Fl ρ β γ)} (ha : PE X a (tE C env r1 m1)) (hb : PE X b (tE C env r2 m2)) (hr : ∀ a b, PSs X rest (tF C (fun g => ((env g).set i (.im r1 a)).set j (.im r2 b)) (K a b) pn pl kp r))
    (hc : X.calm = true) (hN : X.N.Nodup) (hi : X.N[i]? = some x) (hj : X.N[j]? = some y) (hij : i ≠ j) (hx : X.env.scope.names.lookup x = some .local) (hy : X.env.scope.names.lookup y = some .local)
    (hw : swappedStores [.Tuple [.Name x px, .Name y py] kt pt0] (.Tuple [a, b] k2 pt2) X.env = pure (some [x, y])) (hs : swapsWithSole [.Tuple [.Name x px, .Name y py] kt pt0] (.Tuple [a, b] k2 pt2) pos.line X.env = pure false := by rfl)
    (h1 : starEach [a, b] X.env = (false, eval a X.env) :: starEach [b] X.env := by rfl) (h2 : starEach [b] X.env = (false, eval b X.env) :: starEach [] X.env := by rfl) :
    PSs X (.Assign [.Tuple [.Name x px, .Name y py] kt pt0] (.Tuple [a, b] k2 pt2) pos :: rest) (tF C env (m1.bind fun a => m2.bind fun b => K a b) pn pl kp r) :=
  pss_imp (pss_cons (ps_par hc hN hi hj hij hx hy (pa_cons ha (pa_cons hb pa_nil h2) h1) hw hs) (pss_ex fun p : α1 × α2 => hr p.1 p.2)) fun D σ H _ ⟨S, g0, P, F, em, q⟩ =>
    ⟨S, g0, _, F, em, fun u g1 pu v S1 H1 F1 x1 hv => ⟨S1, g1, _, F1, pu, fun w g2 pw v2 S2 H2 F2 x2 hv2 => ⟨v, v2, rfl, (u, w), S2, _, P, (F2.setIm i (r1.mono x2 hv)).setIm j hv2, pw, fun o g9 po => (q o g9 po).mono (x1.trans x2)⟩⟩⟩
/-- .. the second one a new list -/
theorem xs_parN {i j : Nat} {x y : Str} {px py pt0 : Pos} {kt k2 : Nat} {pt2 : Pos} {α1 α2 : Type} {r1 : Rp α1} {r2 : Rp α2} {m1 : W α1} {m2 : W (List α2)} {K : α1 → List α2 → W (Fl ρ β γ)} (ha : PE X a (tE C env r1 m1)) (hb : PE X b (tN C env r2 m2)) (hr : ∀ a b, PSs X rest (tF C (fun g => ((env g).set i (.im r1 a)).set j (.ow r2 b)) (K a b) pn pl kp r))
    (hc : X.calm = true) (hN : X.N.Nodup) (hi : X.N[i]? = some x) (hj : X.N[j]? = some y) (hij : i ≠ j) (hx : X.env.scope.names.lookup x = some .local) (hy : X.env.scope.names.lookup y = some .local)
    (hw : swappedStores [.Tuple [.Name x px, .Name y py] kt pt0] (.Tuple [a, b] k2 pt2) X.env = pure (some [x, y])) (hs : swapsWithSole [.Tuple [.Name x px, .Name y py] kt pt0] (.Tuple [a, b] k2 pt2) pos.line X.env = pure false := by rfl)
    (h1 : starEach [a, b] X.env = (false, eval a X.env) :: starEach [b] X.env := by rfl) (h2 : starEach [b] X.env = (false, eval b X.env) :: starEach [] X.env := by rfl) :
    PSs X (.Assign [.Tuple [.Name x px, .Name y py] kt pt0] (.Tuple [a, b] k2 pt2) pos :: rest) (tF C env (m1.bind fun a => m2.bind fun b => K a b) pn pl kp r) :=
  pss_imp (pss_cons (ps_par hc hN hi hj hij hx hy (pa_cons ha (pa_cons hb pa_nil h2) h1) hw hs) (pss_ex fun p : α1 × List α2 => hr p.1 p.2)) fun D σ H _ ⟨S, g0, P, F, em, q⟩ =>
    ⟨S, g0, _, F, em, fun u g1 pu v S1 H1 F1 x1 hv => ⟨S1, g1, _, F1, pu, fun w g2 pw p vs S2 H2 F2 x2 hp hv2 => ⟨v, .ref p, rfl, (u, w), S2, _, P, (F2.setIm i (r1.mono x2 hv)).setOw j hp hv2, pw, fun o g9 po => (q o g9 po).mono (x1.trans x2)⟩⟩⟩
/-- an expression whose value is dropped -/
theorem xs_exp {m : W α} {K : α → W (Fl ρ β γ)} (h : PE X e (tE C env re m)) (hr : ∀ a, PSs X rest (tF C env (K a) pn pl kp r)) (hs : swapsWith e none pos.line X.env = pure false := by rfl) : PSs X (.Expr e pos :: rest) (tF C env (m.bind K) pn pl kp r) :=
  pss_imp (pss_cons (ps_expr h hs) (pss_ex hr)) fun D σ H _ ⟨S, g0, P, F, em, q⟩ =>
    ⟨S, g0, _, F, em, fun a g1 pa v S1 H1 F1 x1 hv => ⟨a, S1, _, P, F1, pa, fun o g9 po => (q o g9 po).mono x1⟩⟩
theorem xs_pass {mc : W (Fl ρ β γ)} (hr : PSs X rest (tF C env mc pn pl kp r)) : PSs X (.Pass pos :: rest) (tF C env mc pn pl kp r) := pss_imp (pss_cons ps_pass hr) fun D σ H _ h => h
theorem xs_doc {x : Str} {j : Nat} {pos' : Pos} {mc : W (Fl ρ β γ)} (hr : PSs X rest (tF C env mc pn pl kp r)) : PSs X (.Expr (.Constant (.str x) j pos) pos' :: rest) (tF C env mc pn pl kp r) := pss_imp (pss_cons ps_doc hr) fun D σ H _ h => h
/-! ### if -/
/-- if c: a block that doesn't go on; and the rest -/
theorem xs_ifx {m : W Bool} {MA : W (Fl ρ Empty γ)} {MR : W (Fl ρ β γ)} (hc : PT X c (tT C env m)) (hA : PSs X A (tF C env MA (fun z _ => nomatch z) pl kp r)) (hR : PSs X rest (tF C env MR pn pl kp r)) :
    PSs X (.If c A [] pos :: rest) (tF C env (m.bind fun b => if b = true then upF MA else MR) pn pl kp r) :=
  pss_imp (pss_cons (ps_if hc hA pss_nil) hR) fun D σ H _ ⟨S, g0, P, F, em, q⟩ => ⟨S, g0, _, F, em, fun x g1 px S1 H1 F1 x1 => by
    cases x with
    | true =>
      refine ⟨S1, g1, _, F1, px, fun w g9 pw => ?_⟩
      have q := (q _ _ pw).mono x1
      cases w with
      | nx z => exact nomatch z
      | rt a => exact q
      | br c => exact q
      | ct c => exact q
    | false => exact ⟨S1, g1, P, F1, px, fun o g9 po => (q o g9 po).mono x1⟩⟩
/-- if with both ways, the last statement -/
theorem xs_ifT {m : W Bool} {MA MB : W (Fl ρ β γ)} (hc : PT X c (tT C env m)) (hA : PSs X A (tF C env MA pn pl kp r)) (hB : PSs X B (tF C env MB pn pl kp r)) :
    PSs X [.If c A B pos] (tF C env (m.bind fun b => if b = true then MA else MB) pn pl kp r) :=
  pss_imp (pss_one (ps_if hc hA hB)) fun D σ H _ ⟨S, g0, P, F, em, q⟩ => ⟨S, g0, _, F, em, fun x g1 px S1 H1 F1 x1 => by
    cases x with
    | true => exact ⟨S1, g1, P, F1, px, fun o g9 po => (q o g9 po).mono x1⟩
    | false => exact ⟨S1, g1, P, F1, px, fun o g9 po => (q o g9 po).mono x1⟩⟩
/-- if, and the rest behind where they meet -/
theorem xs_if {m : W Bool} {MA MB : W (Fl ρ τ γ)} {MR : τ → W (Fl ρ β γ)} (hc : PT X c (tT C env m)) (hA : PSs X A (tF C env MA pt pl kp r)) (hB : PSs X B (tF C env MB pt pl kp r)) (hR : ∀ t, PSs X rest (tF C (pt t) (MR t) pn pl kp r)) :
    PSs X (.If c A B pos :: rest) (tF C env (m.bind fun b => bindF (if b = true then MA else MB) MR) pn pl kp r) :=
  pss_imp (pss_cons (ps_if hc hA hB) (pss_ex hR)) fun D σ H _ ⟨S, g0, P, F, em, q⟩ => ⟨S, g0, _, F, em, fun x g1 px S1 H1 F1 x1 => by
    have go : ∀ M : W (Fl ρ τ γ), bindF M MR g1 P → tF C env M pt pl kp r { D with nx := fun σ H => ∃ t, tF C (pt t) (MR t) pn pl kp r D σ H } σ H1 := fun M hM => ⟨S1, g1, _, F1, hM, fun w g9 pw => by
      cases w with
      | nx t => exact fun S2 H2 σ2 F2 x2 => ⟨t, S2, _, P, F2, pw, fun o g9 po => (q o g9 po).mono (x1.trans x2)⟩
      | rt a => exact fun v S2 H2 σ2 F2 x2 hv => q _ _ pw v S2 H2 σ2 F2 (x1.trans x2) hv
      | br c => exact fun S2 H2 σ2 F2 x2 => q _ _ pw S2 H2 σ2 F2 (x1.trans x2)
      | ct c => exact fun S2 H2 σ2 F2 x2 => q _ _ pw S2 H2 σ2 F2 (x1.trans x2)⟩
    cases x with
    | true => exact go MA px
    | false => exact go MB px⟩
/-! ### loops -/
theorem xs_for {up : Up α} {mx : W (List α)} {s0 : τ} {f : τ → α → W (Fl ρ τ τ)} {MR : τ → W (Fl ρ β γ)} (hp : PassesOwn (model X.prog X.w) X.A X.env X.xe) (hc : X.calm = true) (hi : PI X tg iter (tS C env re mx)) (hg : PG X tg (tG re up)) (l0 : ∀ g, Le (env g) (pt s0 g))
    (hb : ∀ s a, PSs X A (tF C (fun g => up.f a (pt s g)) (f s a) pt pt kp r)) (hR : ∀ s, PSs X rest (tF C (pt s) (MR s) pn pl kp r)) (hs : ∀ x, foldedSetIterable iter X.env x = pure x := by intro _; rfl) :
    PSs X (.For tg iter A [] pos :: rest) (tF C env (mx.bind fun xs => bindF (forL f xs s0) MR) pn pl kp r) :=
  pss_imp (pss_cons (ps_for hp hc hi hg (pss_ex fun p : τ × α => hb p.1 p.2) hs) (pss_ex hR)) fun D σ H _ ⟨S, g0, P, F, em, q⟩ => ⟨S, g0, _, F, em, fun xs g1 em J S1 H1 F1 x1 W1 => by
    refine ⟨fun i m σ H => m = xs.length - i ∧ i ≤ xs.length ∧ ∃ S g s, Fr C S H σ (pt s g) ∧ Ex S1 S ∧ bindF (forL f (xs.drop i) s) MR g P, ⟨xs.length, rfl, Nat.zero_le _, S1, g1, s0, F1.le (l0 _), Ex.refl S1, em⟩, ?_⟩
    rintro i m σ2 H2 ⟨rfl, hi2, S2, g2, s, F2, x2, h2⟩
    by_cases hlt : i < xs.length
    · have hxi : xs[i]? = some xs[i] := List.getElem?_eq_getElem hlt
      rw [drop_cons hxi] at h2
      unfold forL at h2
      refine .inr ⟨W1.go i hlt F2 x2, fun σ' H' => ∃ S g s, Fr C S H' σ' (pt s g) ∧ Ex S1 S ∧ bindF (forL f (xs.drop (i + 1)) s) MR g P, fun σ' H' h' => ⟨xs.length - (i + 1), by omega, rfl, hlt, h'⟩, fun x H3 hy3 => ?_⟩
      obtain ⟨S3, F3, x3, _, _, r3⟩ := W1.yld i x H3 xs[i] F2 x2 hy3 hxi
      refine ⟨C, S3, _, xs[i], F3, r3, fun σ4 _ _ F4 => ⟨(s, xs[i]), S3, g2, _, F4, h2, fun w g9 pw => ?_⟩⟩
      cases w with
      | nx t => exact fun S5 H5 σ5 F5 x5 => ⟨S5, g9, t, F5, x2.trans (x3.trans x5), pw⟩
      | ct t => exact fun S5 H5 σ5 F5 x5 => ⟨S5, g9, t, F5, x2.trans (x3.trans x5), pw⟩
      | br t => exact fun S5 H5 σ5 F5 x5 => ⟨t, S5, _, P, F5, pw, fun o g9 po => (q o g9 po).mono (x1.trans (x2.trans (x3.trans x5)))⟩
      | rt a => exact fun v S5 H5 σ5 F5 x5 hv => q _ _ pw v S5 H5 σ5 F5 (x1.trans (x2.trans (x3.trans x5))) hv
    · have e : i = xs.length := by omega
      subst e
      rw [List.drop_length] at h2
      exact .inl ⟨W1.stop _ (Nat.le_refl _) F2 x2, s, S2, _, P, F2, h2, fun o g9 po => (q o g9 po).mono (x1.trans x2)⟩⟩
theorem xs_while {s0 : τ} {n : Nat} {cf : τ → W Bool} {f : τ → W (Fl ρ τ τ)} {MR : τ → W (Fl ρ β γ)} (hp : PassesOwn (model X.prog X.w) X.A X.env X.xe) (l0 : ∀ g, Le (env g) (pt s0 g)) (hc : ∀ s, PT X c (tT C (pt s) (cf s)))
    (hb : ∀ s, PSs X A (tF C (pt s) (f s) pt pt kp r)) (hR : ∀ s, PSs X rest (tF C (pt s) (MR s) pn pl kp r)) :
    PSs X (.While c A [] pos :: rest) (tF C env (bindF (whileL cf f n s0) MR) pn pl kp r) :=
  pss_imp (pss_cons (ps_while hp (pt_ex hc) (pss_ex hb)) (pss_ex hR)) fun D σ H _ ⟨S, g0, P, F, em, q⟩ => by
    refine ⟨fun m σ H => ∃ S2 g s, Fr C S2 H σ (pt s g) ∧ Ex S S2 ∧ bindF (whileL cf f m s) MR g P, ⟨n, S, g0, s0, F.le (l0 _), Ex.refl S, em⟩, ?_⟩
    rintro m σ2 H2 ⟨S2, g2, s, F2, x2, h2⟩
    cases m with
    | zero => exact h2.elim
    | succ m =>
      unfold whileL at h2
      refine ⟨s, S2, g2, _, F2, h2, fun b g3 pb S3 H3 F3 x3 => ?_⟩
      cases b with
      | false => exact ⟨s, S3, _, P, F3, pb, fun o g9 po => (q o g9 po).mono (x2.trans x3)⟩
      | true =>
        refine ⟨fun σ' H' => ∃ S2 g s, Fr C S2 H' σ' (pt s g) ∧ Ex S S2 ∧ bindF (whileL cf f m s) MR g P, fun σ' H' h' => ⟨m, Nat.lt_succ_self m, h'⟩, s, S3, g3, _, F3, pb, fun w g9 pw => ?_⟩
        cases w with
        | nx t => exact fun S5 H5 σ5 F5 x5 => ⟨S5, g9, t, F5, x2.trans (x3.trans x5), pw⟩
        | ct t => exact fun S5 H5 σ5 F5 x5 => ⟨S5, g9, t, F5, x2.trans (x3.trans x5), pw⟩
        | br t => exact fun S5 H5 σ5 F5 x5 => ⟨t, S5, _, P, F5, pw, fun o g9 po => (q o g9 po).mono (x2.trans (x3.trans x5))⟩
        | rt a => exact fun v S5 H5 σ5 F5 x5 hv => q _ _ pw v S5 H5 σ5 F5 (x2.trans (x3.trans x5)) hv
/-! ### lists of the def's own -/
def addO {α : Type} (xs : List α) (v : α) : Option (List α) := if xs.length ≤ 1000000 then some (xs ++ [v]) else none
theorem xs_app {i : Nat} {x : Str} {px pa pe : Pos} {xs : List α} {m : W α} {K : List α → W (Fl ρ β γ)} (hv : PE X (.Name x px) (tVar i)) (h : PE X e (tE C env re m)) (hr : ∀ ys, PSs X rest (tF C (fun g => (env g).set i (.ow re ys)) (K ys) pn pl kp r)) (hi : ∀ g, (env g)[i]? = some (.ow re xs) := by intro _; rfl)
    (hs : swapsWith (.Call (.Attribute (.Name x px) "append" pa) [e] [] pe) none pos.line X.env = pure false := by rfl) (h1 : starEach [e] X.env = (false, eval e X.env) :: starEach [] X.env := by rfl)
    (hb : PE X (.Call (.Attribute (.Name x px) "append" pa) [e] [] pe) (tBM X.K "list" rAppend (tVar i) (tCons (tE C env re m) tNil))) :
    PSs X (.Expr (.Call (.Attribute (.Name x px) "append" pa) [e] [] pe) pos :: rest) (tF C env (m.bind fun v => (ofO (addO xs v)).bind K) pn pl kp r) :=
  pss_imp (pss_cons (ps_expr hb hs) (pss_ex hr)) fun D σ H _ ⟨S, g0, P, F, em, q⟩ => by
    obtain ⟨w, ew, p, vs, e2, sp, hp, ha⟩ := F.sl.get i (hi _)
    subst e2
    refine ⟨.ref p, ew, .inl ⟨rfl, vs, SqL.of hp⟩, S, g0, _, F, em, fun v g1 ⟨zs, ez, pv⟩ u S1 H1 F1 x1 hu => ?_⟩
    unfold addO at ez
    split at ez
    case isFalse => cases ez
    rename_i hl
    cases ez
    obtain ⟨w1, ew1, p1, vs1, e21, sp1, hp1, ha1⟩ := F1.sl.get i (hi _)
    subst e21
    rw [ew] at ew1
    cases ew1
    refine ⟨p, vs1, u, rfl, rfl, hp1, by rw [All2.length ha1, sizeLine_eq]; omega, xs ++ [v], S1, _, P, ?_, pv, fun o g9 po => (q o g9 po).mono x1⟩
    exact F1.write (hi _) ew (ha1.snoc hu)
/-- a list of the def's own changes no more -/
theorem xs_frz (i : Nat) {xs : List α} {m : W (Fl ρ β γ)} (hA : C.A0 = []) (hr : PSs X A (tF C (fun g => (env g).set i (.im (qL re) xs)) m pn pl kp r)) (hi : ∀ g, (env g)[i]? = some (.ow re xs) := by intro _; rfl) : PSs X A (tF C env m pn pl kp r) :=
  pss_imp hr fun D σ H _ ⟨S, g0, P, F, em, q⟩ => by
    obtain ⟨S', x1, F1⟩ := F.freeze (hi _) fun p _ => by rw [hA]; simp
    exact ⟨S', g0, P, F1, em, fun o g9 po => (q o g9 po).mono x1⟩
end

/-! ### defs -/
section
variable {α ρ : Type} {ra : Ra α} {r : Rp ρ}
/-- a frame at the entry -/
theorem Fr.entry {S H : Hp} {σ : St} {env : List Sl} (e : Ex S H) (t : Tc S H) (h : SlAll S H σ env) (ho : owns σ env = []) : Fr ⟨[], S, H⟩ S H σ env :=
  ⟨Ex.refl S, e, fun _ _ h _ => h, fun _ h _ => h, fun _ h => h, h, fun p hp => (by rw [ho] at hp; cases hp), by rw [ho]; exact List.nodup_nil, t⟩
theorem Fr.post {S H S' H' : Hp} {σ : St} {env : List Sl} {Q : VK} {o : ρ} (h : Post S H r o Q) (F : Fr ⟨[], S, H⟩ S' H' σ env) {v : V} (hv : r.p S' v o) : Q v H' :=
  h v S' H' F.e0 F.e1 (fun b u e => F.e2 b u e (by simp)) F.nw F.tc hv
theorem body_of {X : Cx} {body : List Stmt} {N : List Str} {β γ : Type} {f : α → Option ρ} {env : α → List Sl} {m : α → W (Fl ρ β γ)} {pn : β → Gh → List Sl} {pl : γ → Gh → List Sl} {kp : Gh → List Sl} {vs : List V} {H : Hp} {Q : VK} {E : XK} (h : SpF ra r f vs H Q E) (hg : ∀ a, ofO (f a) = rtOf (m a))
    (hs : ∀ S H a, ra.p S vs a → SlAll S H (start N vs) (env a) ∧ owns (start N vs) (env a) = []) (hb : ∀ (C : Cs) (a : α), C.A0 = [] → PSs X body (tF C (fun _ => env a) (m a) pn pl kp r)) :
    ∃ t, PSs X body t ∧ t { nx := fun _ H' => Q .non H', rt := Q } (start N vs) H := by
  obtain ⟨S, a, o, e, t, hv, eo, k⟩ := h
  obtain ⟨s1, s2⟩ := hs S H a hv
  have hm : rtOf (m a) [] (fun x _ => x = o) := by
    rw [← hg a]
    exact ⟨o, eo, rfl⟩
  refine ⟨_, hb ⟨[], S, H⟩ a rfl, S, [], _, Fr.entry e t s1 s2, hm, fun w g' pw => ?_⟩
  cases w with
  | rt x =>
    have pw : x = o := pw
    subst pw
    exact fun v S' H' σ' F _ hv => F.post k hv
  | nx _ => exact pw.elim
  | br _ => exact pw.elim
  | ct _ => exact pw.elim
theorem body_ofN {X : Cx} {body : List Stmt} {N : List Str} {β γ : Type} {f : α → Option Unit} {env : α → List Sl} {m : α → W (Fl Unit β γ)} {pn : β → Gh → List Sl} {pl : γ → Gh → List Sl} {kp : Gh → List Sl} {vs : List V} {H : Hp} {Q : VK} {E : XK} (h : SpF ra qN f vs H Q E) (hg : ∀ a, ofO (f a) = rtN (m a))
    (hs : ∀ S H a, ra.p S vs a → SlAll S H (start N vs) (env a) ∧ owns (start N vs) (env a) = []) (hb : ∀ (C : Cs) (a : α), C.A0 = [] → PSs X body (tF C (fun _ => env a) (m a) pn pl kp qN)) :
    ∃ t, PSs X body t ∧ t { nx := fun _ H' => Q .non H', rt := Q } (start N vs) H := by
  obtain ⟨S, a, o, e, t, hv, eo, k⟩ := h
  obtain ⟨s1, s2⟩ := hs S H a hv
  have hm : rtN (m a) [] (fun x _ => x = o) := by
    rw [← hg a]
    exact ⟨o, eo, rfl⟩
  refine ⟨_, hb ⟨[], S, H⟩ a rfl, S, [], _, Fr.entry e t s1 s2, hm, fun w g' pw => ?_⟩
  cases w with
  | rt x => exact fun v S' H' σ' F _ hv => F.post k hv
  | nx _ => exact fun S' H' σ' F _ => F.post k (show qN.p S' .non () from rfl)
  | br _ => exact pw.elim
  | ct _ => exact pw.elim
/-- behind a call that changes the shared object -/
def PostD {ρ : Type} (d : Addr) (S H : Hp) (r : Rp ρ) (o : ρ) (g : Gh) (Q : VK) : Prop := ∀ v S' H', Ex S S' → Ex S' H' → (∀ b u, H b = some u → b ≠ d → H' b = some u) → H' d = some (oD g) → S' d = none → (∀ b, S b = none → H b ≠ none → S' b = none) → Tc S' H' → r.p S' v o → Q v H'
/-- f(object, ..) gives what f gives, and changes the object alone -/
def SpD {α ρ : Type} (ra : Ra α) (r : Rp ρ) (f : α → W ρ) : Sp := fun vs H Q _ => ∃ S a d ws g P, vs = .ref d :: ws ∧ Ex S H ∧ Tc S H ∧ S d = none ∧ H d = some (oD g) ∧ ra.p S ws a ∧ f a g P ∧ ∀ o g', P o g' → PostD d S H r o g' Q
theorem Fr.entryD {S H : Hp} {σ : St} {env : List Sl} {d : Addr} {g : Gh} (e : Ex S H) (t : Tc S H) (sd : S d = none) (hd : H d = some (oD g)) (h : SlAll S H σ env) (ho : owns σ env = []) : Fr ⟨[d], S, H⟩ S H (some (.ref d) :: σ) (.iv d (oD g) :: env) := by
  have eo : owns (some (.ref d) :: σ) (.iv d (oD g) :: env) = [d] := by
    show ownOf (some (.ref d)) (Sl.iv d (oD g)) ++ owns σ env = [d]
    rw [ho]
    rfl
  exact ⟨Ex.refl S, e, fun _ _ h _ => h, fun _ h _ => h, fun _ h => h, ⟨⟨d, _, rfl, sd, hd, rfl, rfl⟩, h⟩, fun p hp => .inr (by rw [eo] at hp; exact hp), by rw [eo]; simp, t⟩
theorem Fr.postD {S H S' H' : Hp} {σ : St} {Q : VK} {o : ρ} {d : Addr} {g : Gh} (h : PostD d S H r o g Q) (F : Fr ⟨[d], S, H⟩ S' H' σ [.iv d (oD g)]) {v : V} (hv : r.p S' v o) : Q v H' := by
  obtain ⟨x, e, p, u, e1, sp, hp, e2, e3⟩ := F.sl.get 0 (s := .iv d (oD g)) rfl
  subst e2 e3
  exact h v S' H' F.e0 F.e1 (fun b u e n => F.e2 b u e (by simpa using n)) hp sp F.nw F.tc hv
theorem body_ofD {X : Cx} {body : List Stmt} {N : List Str} {x0 : Str} {β γ : Type} {f : α → W ρ} {env : α → List Sl} {m : α → W (Fl ρ β γ)} {pn : β → Gh → List Sl} {pl : γ → Gh → List Sl} {vs : List V} {H : Hp} {Q : VK} {E : XK} (h : SpD ra r f vs H Q E) (hg : ∀ a, f a = rtOf (m a))
    (hs : ∀ S H ws a, ra.p S ws a → SlAll S H (start N ws) (env a) ∧ owns (start N ws) (env a) = []) (hb : ∀ (C : Cs) (d : Addr) (a : α), C.A0 = [d] → PSs X body (tF C (fun g => .iv d (oD g) :: env a) (m a) pn pl (fun g => [.iv d (oD g)]) r)) :
    ∃ t, PSs X body t ∧ t { nx := fun _ H' => Q .non H', rt := Q } (start (x0 :: N) vs) H := by
  obtain ⟨S, a, d, ws, g, P, ev, e, t, sd, hd, hv, eo, k⟩ := h
  subst ev
  obtain ⟨s1, s2⟩ := hs S H ws a hv
  rw [hg a] at eo
  have es : start (x0 :: N) (.ref d :: ws) = some (.ref d) :: start N ws := by
    unfold L2.start
    simp
  rw [es]
  refine ⟨_, hb ⟨[d], S, H⟩ d a rfl, S, g, _, Fr.entryD e t sd hd s1 s2, eo, fun w g' pw => ?_⟩
  cases w with
  | rt x => exact fun v S' H' σ' F _ hv => Fr.postD (k x g' pw) F hv
  | nx _ => exact pw.elim
  | br _ => exact pw.elim
  | ct _ => exact pw.elim
/-- parameters: what they stand for, their slots -/
structure Pr (α : Type) where
  ra : Ra α
  n : Nat
  sl : α → List Sl
  ok : ∀ {S H : Hp} {vs : List V} {a : α}, ra.p S vs a → SlAll S H (vs.map some) (sl a) ∧ owns (vs.map some) (sl a) = [] ∧ vs.length = n
def p0 : Pr Unit := ⟨q0, 0, fun _ => [], fun {S H vs a} h => by
  rw [show vs = [] from h]
  exact ⟨True.intro, rfl, rfl⟩⟩
def pC {β : Type} (r : Rp α) (p : Pr β) : Pr (α × β) := ⟨qC r p.ra, p.n + 1, fun a => .im r a.1 :: p.sl a.2, fun {S H vs a} ⟨v, ws, e, h1, h2⟩ => by
  obtain ⟨q1, q2, q3⟩ := p.ok (H := H) h2
  rw [e]
  refine ⟨⟨⟨v, rfl, h1⟩, q1⟩, ?_, by rw [List.length_cons, q3]⟩
  show ownOf (some v) (Sl.im r a.1) ++ owns (ws.map some) (p.sl a.2) = []
  rw [q2]
  cases v <;> rfl⟩
theorem SlAll.unN {S H : Hp} : ∀ n : Nat, SlAll S H (List.replicate n none) (List.replicate n .un) ∧ owns (List.replicate n none) (List.replicate n Sl.un) = []
  | 0 => ⟨True.intro, rfl⟩
  | n + 1 => by
    obtain ⟨a, b⟩ := SlAll.unN (S := S) (H := H) n
    refine ⟨⟨True.intro, a⟩, ?_⟩
    show ownOf none Sl.un ++ owns (List.replicate n none) (List.replicate n Sl.un) = []
    rw [b]
    rfl
theorem SlAll.cat {S H : Hp} : ∀ {σ τ : St} {a b : List Sl}, SlAll S H σ a → SlAll S H τ b → SlAll S H (σ ++ τ) (a ++ b)
  | [], _, [], _, _, h => h
  | _ :: _, _, _ :: _, _, h1, h2 => ⟨h1.1, SlAll.cat h1.2 h2⟩
  | [], _, _ :: _, _, h, _ => h.elim
  | _ :: _, _, [], _, h, _ => h.elim
theorem owns_cat {S H : Hp} : ∀ {σ τ : St} {a b : List Sl}, SlAll S H σ a → owns (σ ++ τ) (a ++ b) = owns σ a ++ owns τ b
  | [], _, [], _, _ => rfl
  | v :: σ, τ, s :: a, b, h => by
    show ownOf v s ++ owns (σ ++ τ) (a ++ b) = (ownOf v s ++ owns σ a) ++ owns τ b
    rw [owns_cat h.2, List.append_assoc]
  | [], _, _ :: _, _, h => h.elim
  | _ :: _, _, [], _, h => h.elim
theorem Pr.start {p : Pr α} {N : List Str} {j : Nat} (hN : N.length = p.n + j) {S H : Hp} {vs : List V} {a : α} (h : p.ra.p S vs a) : SlAll S H (L2.start N vs) (p.sl a ++ List.replicate j .un) ∧ owns (L2.start N vs) (p.sl a ++ List.replicate j .un) = [] := by
  obtain ⟨q1, q2, q3⟩ := p.ok (H := H) h
  obtain ⟨u1, u2⟩ := SlAll.unN (S := S) (H := H) j
  have e : N.length - vs.length = j := by omega
  unfold L2.start
  rw [e]
  refine ⟨q1.cat u1, ?_⟩
  rw [owns_cat q1, q2, u2]
  rfl
section
variable {P : Program} {w : World} {K : PySem.W.Frag} {mg : Str → Option Value} {base : Heap} {p : Pr α} {N ps : List Str} {k : Nat} {st : Stmt} {x qual : Str} {f : Addr} {fd : FuncData} {β γ : Type}
/-- a def, by what its body gives -/
theorem fn_okF {π : Around → Prop} {g : α → Option ρ} {env : α → List Sl} {m : α → W (Fl ρ β γ)} {pn : β → Gh → List Sl} {pl : γ → Gh → List Sl} (j : Nat) (sπ : Stb π) (F : Fun K x qual st f fd) (S : FnScope N ps (defScope st)) (hn : p.n = ps.length) (hN : N.length = ps.length + j) (he : ∀ a, env a = p.sl a ++ List.replicate j .un)
    (hb : ∀ (cdv : Value) (A : Around) (outer : List Env) (s : Shared) (H : Hp) (E : XK), π (A.deeper (PyProof.Rows.envOfC qual (defScope st) s.heap.objs.size f cdv)) → Room k (A.deeper (PyProof.Rows.envOfC qual (defScope st) s.heap.objs.size f cdv)) → ∀ (C : Cs) (a : α), C.A0 = [] → PSs (cxOf CX0 P w K mg base N qual (defScope st) f cdv A outer s H E).nox (defBody st) (tF C (fun _ => env a) (m a) pn pl (fun _ => []) r))
    (hg : ∀ a, ofO (g a) = rtOf (m a)) : FnP π P w K mg base CX0 (k + 1) f fd ps (SpF p.ra r g) := by
  refine funP_ok sπ F S (fun vs H Q E h => ?_) (fun cdv A outer s H vs Q E hp hr h => ?_)
  · obtain ⟨_, _, _, _, _, hv, _⟩ := h
    rw [(p.ok (H := H) hv).2.2, hn]
  · exact body_of (E := E) h hg (fun S H a hv => by rw [he a]; exact p.start (by rw [hN, hn]) hv) (hb cdv A outer s H E hp hr)
theorem fn_okN {π : Around → Prop} {g : α → Option Unit} {env : α → List Sl} {m : α → W (Fl Unit β γ)} {pn : β → Gh → List Sl} {pl : γ → Gh → List Sl} (j : Nat) (sπ : Stb π) (F : Fun K x qual st f fd) (S : FnScope N ps (defScope st)) (hn : p.n = ps.length) (hN : N.length = ps.length + j) (he : ∀ a, env a = p.sl a ++ List.replicate j .un)
    (hb : ∀ (cdv : Value) (A : Around) (outer : List Env) (s : Shared) (H : Hp) (E : XK), π (A.deeper (PyProof.Rows.envOfC qual (defScope st) s.heap.objs.size f cdv)) → Room k (A.deeper (PyProof.Rows.envOfC qual (defScope st) s.heap.objs.size f cdv)) → ∀ (C : Cs) (a : α), C.A0 = [] → PSs (cxOf CX0 P w K mg base N qual (defScope st) f cdv A outer s H E).nox (defBody st) (tF C (fun _ => env a) (m a) pn pl (fun _ => []) qN))
    (hg : ∀ a, ofO (g a) = rtN (m a)) : FnP π P w K mg base CX0 (k + 1) f fd ps (SpF p.ra qN g) := by
  refine funP_ok sπ F S (fun vs H Q E h => ?_) (fun cdv A outer s H vs Q E hp hr h => ?_)
  · obtain ⟨_, _, _, _, _, hv, _⟩ := h
    rw [(p.ok (H := H) hv).2.2, hn]
  · exact body_ofN (E := E) h hg (fun S H a hv => by rw [he a]; exact p.start (by rw [hN, hn]) hv) (hb cdv A outer s H E hp hr)
/-- .. whose first parameter is the shared object -/
theorem fn_okD {π : Around → Prop} {x0 : Str} {g : α → W ρ} {env : α → List Sl} {m : α → W (Fl ρ β γ)} {pn : β → Gh → List Sl} {pl : γ → Gh → List Sl} (j : Nat) (sπ : Stb π) (F : Fun K x qual st f fd) (S : FnScope (x0 :: N) (x0 :: ps) (defScope st)) (hn : p.n = ps.length) (hN : N.length = ps.length + j) (he : ∀ a, env a = p.sl a ++ List.replicate j .un)
    (hb : ∀ (cdv : Value) (A : Around) (outer : List Env) (s : Shared) (H : Hp) (E : XK), π (A.deeper (PyProof.Rows.envOfC qual (defScope st) s.heap.objs.size f cdv)) → Room k (A.deeper (PyProof.Rows.envOfC qual (defScope st) s.heap.objs.size f cdv)) → ∀ (C : Cs) (d : Addr) (a : α), C.A0 = [d] → PSs (cxOf CX0 P w K mg base (x0 :: N) qual (defScope st) f cdv A outer s H E).nox (defBody st) (tF C (fun g => .iv d (oD g) :: env a) (m a) pn pl (fun g => [.iv d (oD g)]) r))
    (hg : ∀ a, g a = rtOf (m a)) : FnP π P w K mg base CX0 (k + 1) f fd (x0 :: ps) (SpD p.ra r g) := by
  refine funP_ok sπ F S (fun vs H Q E h => ?_) (fun cdv A outer s H vs Q E hp hr h => ?_)
  · obtain ⟨_, _, _, ws, _, _, ev, _, _, _, _, hv, _⟩ := h
    rw [ev, List.length_cons, List.length_cons, (p.ok (H := H) hv).2.2, hn]
  · exact body_ofD (E := E) h hg (fun S H ws a hv => by rw [he a]; exact p.start (by rw [hN, hn]) hv) (hb cdv A outer s H E hp hr)
end
end
end Rt

set_option maxRecDepth 100000
set_option maxHeartbeats 4000000
/-! Rt7: the shared object, more of lists, the end. -/
namespace Rt
open PySem L2

/-! ### the end of a proof -/
/-- as walk_of, where what the written part says of loose names is known -/
theorem walk_ofX {π : Around → Prop} {l : PySem.W.OpenLaw} {n k : Nat} {q : Program} {loose : List Str} {XP : (Str → Option Value) → Heap → Prop} {YP : World → Heap → Prop} {d : DefRec} {K : Params → PySem.W.Frag} {CX : World → CXT} {sp : World → Sp} {x : Str}
    (hpi : π callerA) (hn : l.most = some n) (hn2 : n ≤ sizeLine) (hdf : d.params.defaults = []) (hr : Room k callerA)
    (hY : ∀ (w : World) (h : Heap), YP w h → (K w.params).In h)
    (F : ∀ (w : World) (mg : Str → Option Value) (fa : Addr) (h : Heap), (K w.params).In h → h.Ns mainGlobals mg → mg d.name = some (.ref fa) → XP mg h →
      ∃ fd : FuncData, (∀ (s : Shared) (u : Value), BindsTo s fd ⟨[u], []⟩ [(x, u)]) ∧
        ∀ base : Heap, (K w.params).In base → base.Ns mainGlobals mg → FnP π l.prog w (K w.params) mg base (CX w) k fa fd [x] (sp w))
    (hsp : ∀ (w : World) (H : Hp) (a : Addr) (ns : List Int), ns.length ≤ n → Only H → SqL (K w.params) H a (ns.map V.int) → sp w [.ref a] H (fun v _ => v = .bl true) fun _ _ _ => False)
    (hCX : ∀ (w : World) (H : Hp) (s : Shared) (e : Value) (s' : Shared), CX w [] H s (fun _ _ _ => False) e s' → False) :
    PySem.W.WalkO q loose XP YP l.row.toRowW d [] (fun f vs => PySem.call f vs) := by
  refine Att.attach_call hn hdf fun w s₀ s₁ mg mb fa o pm cd doc a vs ns G Y ho hd hcd hmg hobj hints hlen hg => ?_
  have KX := hY w _ Y
  obtain ⟨fd, hb, hF⟩ := F w mg fa _ KX G.T.g hmg G.X
  exact law_callP hpi KX G.T.g G.T.b G.T.builtins G.T.nolimit hg hobj hints (Nat.le_trans hlen hn2) hr hF hb (fun H hO hS => hsp w H a ns hlen hO hS) fun H e s' => hCX w H s₁ e s'
theorem gint_of {p : Program} {lv : List (Str × PySem.W.WData)} {mg : Str → Option Value} {h : Heap} {x : Str} {n : Int} (X : PySem.W.XL p lv mg h) (hm : (x, PySem.W.WData.int n) ∈ lv) : ∃ t, mg x = some (.int n t) := by
  obtain ⟨v, e, r⟩ := X.2.val _ hm
  cases r
  exact ⟨_, e⟩

/-! ### the object that more than one def changes -/
theorem Fr.writeIv {C : Cs} {S H : Hp} {σ : St} {env : List Sl} (F : Fr C S H σ env) {i : Nat} {d : Addr} {o o' : HO} (hi : env[i]? = some (.iv d o)) (nt : ∀ vs, o' ≠ .tup vs := by intro _ z; cases z) : Fr C S (upd H d o') σ (env.set i (.iv d o')) := by
  obtain ⟨v, hp, p, u, e1, sp, ho, e2, e3⟩ := F.sl.get i hi
  subst e1 e2 e3
  have m : p ∈ owns σ env := owns_mem_get i hi hp rfl
  have eo : owns σ (env.set i (.iv p o')) = owns σ env := owns_same hi hp rfl rfl
  refine ⟨F.e0, F.e1.mut sp, fun b u' e n => ?_, F.nw, fun b h0 => ?_, F.sl.mutOne F.nd hi hp rfl ⟨p, o', rfl, sp, upd_same, rfl, rfl⟩, by rw [eo]; exact F.ow, by rw [eo]; exact F.nd, F.tc.up nt⟩
  · have nb : b ≠ p := fun z => by
      subst z
      rcases F.ow b m with q | q
      · rw [q] at e
        cases e
      · exact n q
    rw [upd_ne nb]
    exact F.e2 b u' e n
  · by_cases z : b = p
    · rw [z, upd_same]
      exact fun z => nomatch z
    · rw [upd_ne z]
      exact F.al b h0
theorem Fr.iv {C : Cs} {S H : Hp} {σ : St} {env : List Sl} (F : Fr C S H σ env) {i : Nat} {d : Addr} {o : HO} (hi : env[i]? = some (.iv d o)) : σ[i]? = some (some (.ref d)) ∧ S d = none ∧ H d = some o := by
  obtain ⟨v, hp, p, u, e1, sp, ho, e2, e3⟩ := F.sl.get i hi
  subst e1 e2 e3
  exact ⟨hp, sp, ho⟩
section
variable {X : Cx} {C : Cs} {env kp : Gh → List Sl} {e a b c tg iter : Expr} {es : List Expr} {A B rest : List Stmt} {pos p px : Pos} {α β γ ρ τ : Type} {r : Rp ρ} {ra re : Rp α} {rb : Rp β} {ma : W α} {mb : W β} {k : Bool} {pn : β → Gh → List Sl} {pl : γ → Gh → List Sl} {d : Addr} {i : Nat}
/-- a call that hands the object on -/
theorem xe_callD {π : Around → Prop} {ra : Ra α} {f : α → W ρ} {m : W α} {k : Nat} {fa : Addr} {fd : FuncData} {ps : List Str} {x xd : Str} (F : FnP π X.prog X.w X.K X.mg X.base CX0 k fa fd ps (SpD ra r f)) (hpi : π X.A) (hr : Room k X.A) (hg : Gl X x) (hm : X.mg x = some (.ref fa)) (hk : PySem.W.keepIn X.K (.ref fa) = true) (hb : Binds X.K fd ps [])
    (hd : PE X (.Name xd px) (tVar i)) (ha : PA X es (tA C env ra m)) (hi : ∀ g, (env g)[i]? = some (.iv d (oD g)) := by intro _; rfl) (hE : ∀ g g', env g' = (env g).set i (.iv d (oD g')) := by intro _ _; rfl)
    (hdb : (x == ("__debug__" : Str)) = false := by decide) (he : starEach (.Name xd px :: es) X.env = (false, eval (.Name xd px) X.env) :: starEach es X.env := by rfl) (hpl : (backTo pos (starEach es X.env)).any (·.1) = false := by rfl) :
    PE X (.Call (.Name x p) (.Name xd px :: es) [] pos) (tE C env r (m.bind f)) :=
  pe_imp (pe_callP F hpi hr hg hm hk hb .nil pass0 (pa_cons hd ha he) hdb he hpl) fun σ H Q _ ⟨S, g0, P, Fr1, em, q⟩ => by
    obtain ⟨s0, _, _⟩ := Fr1.iv (hi g0)
    refine ⟨.ref d, s0, S, g0, _, Fr1, em, fun a g1 pa vs S1 H1 F1 x1 hv => ?_⟩
    show SpD ra r f ((.ref d :: vs) ++ []) H1 _ E0
    rw [List.append_nil]
    obtain ⟨_, sp, hp⟩ := F1.iv (hi g1)
    refine ⟨S1, a, d, vs, g1, P, rfl, F1.e1, F1.tc, sp, hp, hv, pa, fun o g' po v S' H' eS eH eHH hd' sd' n t hr' _ => ?_⟩
    have F2 := F1.writeIv (hi g1) (o' := oD g')
    rw [← hE g1 g'] at F2
    refine q o g' po v S' H' (F2.call eS eH (fun b u hb => ?_) (fun b s0 h0 => ?_) t) (x1.trans eS) hr'
    · by_cases z : b = d
      · subst z
        rw [upd_same] at hb
        cases hb
        exact hd'
      · rw [upd_ne z] at hb
        exact eHH b u hb z
    · by_cases z : b = d
      · rw [z]
        exact sd'
      · rw [upd_ne z] at h0
        exact n b s0 h0
/-- the object's item -/
theorem xe_gix {xd : Str} {mi : W Int} (hd : PE X (.Name xd px) (tVar i)) (hb : PE X b (tE C env qI mi)) (hi : ∀ g, (env g)[i]? = some (.iv d (oD g)) := by intro _; rfl) (hs : PlainIx b := by intro _ _; rfl) :
    PE X (.Subscript (.Name xd px) b pos) (tE C env qI (mi.bind fun j => W.get.bind fun g => ofO (L2.atI g j))) :=
  pe_imp (pe_ix ix_list hd hb hs) fun σ H Q _ ⟨S, g0, P, F, em, q⟩ => by
    obtain ⟨s0, _, _⟩ := F.iv (hi g0)
    refine ⟨.ref d, s0, S, g0, _, F, em, fun j g1 ⟨z, ez, pz⟩ y S1 H1 F1 x1 hy => ?_⟩
    obtain ⟨_, _, hp⟩ := F1.iv (hi g1)
    have hy : y = .int j := hy
    subst hy
    obtain ⟨v, ev, hv⟩ := (All2.of_map (f := V.int) g1).atI ez
    exact ⟨d, _, j, v, rfl, rfl, SqL.of hp, ev, fun _ => q _ _ pz v S1 H1 F1 x1 hv⟩
/-- object[j] = e -/
def W.gset (j v : Int) : W Unit := fun g P => ∃ n, ixN g.length j = some n ∧ P () (g.set n v)
theorem xs_gset {xd : Str} {ps : Pos} {mv mi : W Int} {K : W (Fl ρ β γ)} (hv : PE X e (tE C env qI mv)) (hd : PE X (.Name xd px) (tVar i)) (hb : PE X b (tE C env qI mi)) (hr : PSs X rest (tF C env K pn pl kp r)) (hi : ∀ g, (env g)[i]? = some (.iv d (oD g)) := by intro _; rfl) (hE : ∀ g g', env g' = (env g).set i (.iv d (oD g')) := by intro _ _; rfl)
    (ha : ∀ v, assign (.Subscript (.Name xd px) b ps) X.env v = (do
      let ov ← holding [v] (eval (.Name xd px) X.env)
      let iv ← holding [v, ov] (eval b X.env)
      standAt ps
      holding [v, ov, iv] (setItem ov iv v)
      release [v, ov, iv] []) := by intro _; rfl)
    (hs : swapsWithSole [.Subscript (.Name xd px) b ps] e pos.line X.env = pure false := by rfl) (hw : swappedStores [.Subscript (.Name xd px) b ps] e X.env = pure none := by rfl) (h1 : (assignEach [.Subscript (.Name xd px) b ps] X.env).map (·.2) = [assign (.Subscript (.Name xd px) b ps) X.env] := by rfl) :
    PSs X (.Assign [.Subscript (.Name xd px) b ps] e pos :: rest) (tF C env (mv.bind fun v => mi.bind fun j => (W.gset j v).bind fun _ => K) pn pl kp r) :=
  pss_imp (pss_cons (ps_asg hv (pg_sub hd hb set_list ha) hs hw h1) hr) fun D σ H _ ⟨S, g0, P, F, em, q⟩ => ⟨S, g0, _, F, em, fun v g1 pv u S1 H1 F1 x1 hu => by
    obtain ⟨s1, _, _⟩ := F1.iv (hi g1)
    refine ⟨.ref d, s1, S1, g1, _, F1, pv, fun j g2 ⟨n, en, pn⟩ y S2 H2 F2 x2 hy => ?_⟩
    obtain ⟨_, _, hp⟩ := F2.iv (hi g2)
    have hy : y = .int j := hy
    have hu : u = .int v := hu
    subst hy hu
    refine ⟨d, _, j, n, rfl, rfl, hp, by rw [List.length_map]; exact en, ?_⟩
    have F3 := F2.writeIv (hi g2) (o' := oD (g2.set n v))
    rw [← hE g2 (g2.set n v)] at F3
    have eo : oD (g2.set n v) = .lst ((g2.map V.int).set n (.int v)) := by
      unfold oD
      rw [List.map_set]
    rw [eo] at F3
    exact ⟨S2, g2.set n v, P, F3, pn, fun o g9 po => (q o g9 po).mono (x1.trans x2)⟩⟩
/-- a list of ints of the def's own becomes the object -/
theorem xs_gh (i : Nat) {xs : List Int} {m : W (Fl ρ β γ)} (hr : ∀ d, PSs X A (tF C (fun g => (env g).set i (.iv d (oD g))) m pn pl kp r)) (hi : ∀ g, (env g)[i]? = some (.ow qI xs) := by intro _; rfl) (hE : ∀ g g', env g = env g' := by intro _ _; rfl) :
    PSs X A (tF C env ((W.put xs).bind fun _ => m) pn pl kp r) :=
  pss_imp (pss_ex hr) fun D σ H _ ⟨S, g0, P, F, em, q⟩ => by
    obtain ⟨v, ev, p, vs, e1, sp, hp, ha⟩ := F.sl.get i (hi g0)
    subst e1
    have hvs : vs = xs.map V.int := flat_ints ha
    subst hvs
    have eo : owns σ ((env g0).set i (.iv p (oD xs))) = owns σ (env g0) := owns_same (hi g0) ev rfl rfl
    refine ⟨p, S, xs, P, ?_, em, q⟩
    show Fr C S H σ ((env xs).set i (.iv p (oD xs)))
    rw [hE xs g0]
    exact ⟨F.e0, F.e1, F.e2, F.nw, F.al, F.sl.setEnv i ev ⟨p, _, rfl, sp, hp, rfl, rfl⟩, by rw [eo]; exact F.ow, by rw [eo]; exact F.nd, F.tc⟩

/-! ### in another dress, where it can be worn -/
theorem xe_asO {f : α → Option β} {m : W α} (hf : ∀ H v a b, ra.p H v a → f a = some b → rb.p H v b) (h : PE X e (tE C env ra m)) : PE X e (tE C env rb (m.bind fun x => ofO (f x))) := pe_imp h fun σ H Q _ ⟨S, g0, P, F, em, k⟩ =>
  ⟨S, g0, _, F, em, fun x g1 ⟨z, ez, pz⟩ v S1 H1 F1 x1 hv _ => k _ _ pz v S1 H1 F1 x1 (hf S1 v x z hv ez)⟩
def two {α : Type} : List α → Option (α × α)
  | [x, y] => some (x, y)
  | _ => none
def three {α : Type} : List α → Option (α × α × α)
  | [x, y, z] => some (x, y, z)
  | _ => none
theorem as_two (H : Hp) (v : V) (a : List α) (b : α × α) (h : (qT ra).p H v a) (e : two a = some b) : (qP ra ra).p H v b := by
  obtain ⟨p, vs, ev, hp, h2⟩ := h
  match a, e with
  | [x, y], e =>
    cases e
    match vs, h2 with
    | [v1, v2], ⟨a1, a2, _⟩ => exact ⟨p, v1, v2, ev, hp, a1, a2⟩
theorem as_three (H : Hp) (v : V) (a : List α) (b : α × α × α) (h : (qT ra).p H v a) (e : three a = some b) : (qP3 ra ra ra).p H v b := by
  obtain ⟨p, vs, ev, hp, h2⟩ := h
  match a, e with
  | [x, y, z], e =>
    cases e
    match vs, h2 with
    | [v1, v2, v3], ⟨a1, a2, a3, _⟩ => exact ⟨p, v1, v2, v3, ev, hp, a1, a2, a3⟩
theorem xe_unT2 {m : W (List α)} (h : PE X e (tE C env (qT ra) m)) : PE X e (tE C env (qP ra ra) (m.bind fun x => ofO (two x))) := xe_asO as_two h
theorem xe_unT3 {m : W (List α)} (h : PE X e (tE C env (qT ra) m)) : PE X e (tE C env (qP3 ra ra ra) (m.bind fun x => ofO (three x))) := xe_asO as_three h
theorem xe_row2 {m : W (α × α)} (h : PE X e (tE C env (qP ra ra) m)) : PE X e (tE C env (qT ra) (m.bind fun x => .ret [x.1, x.2])) :=
  xe_as (r := qP ra ra) (rb := qT ra) (f := fun x => [x.1, x.2]) (fun H v a ⟨p, x, y, ev, hp, h1, h2⟩ => ⟨p, [x, y], ev, hp, h1, h2, True.intro⟩) h
theorem xe_row3 {m : W (α × α × α)} (h : PE X e (tE C env (qP3 ra ra ra) m)) : PE X e (tE C env (qT ra) (m.bind fun x => .ret [x.1, x.2.1, x.2.2])) :=
  xe_as (r := qP3 ra ra ra) (rb := qT ra) (f := fun x => [x.1, x.2.1, x.2.2]) (fun H v a ⟨p, x, y, z, ev, hp, h1, h2, h3⟩ => ⟨p, [x, y, z], ev, hp, h1, h2, h3, True.intro⟩) h

/-! ### lists of the def's own, further -/
/-- xs.extend(a new list) -/
theorem xs_ext {x : Str} {pa pe : Pos} {xs : List α} {m : W (List α)} {K : List α → W (Fl ρ β γ)} (hr : ∀ ys, PSs X rest (tF C (fun g => (env g).set i (.ow re ys)) (K ys) pn pl kp r))
    (hb : PE X (.Call (.Attribute (.Name x px) "extend" pa) [e] [] pe) (tBM X.K "list" rExtend (tVar i) (tCons (tN C env re m) tNil))) (hi : ∀ g, (env g)[i]? = some (.ow re xs) := by intro _; rfl)
    (hs : swapsWith (.Call (.Attribute (.Name x px) "extend" pa) [e] [] pe) none pos.line X.env = pure false := by rfl) :
    PSs X (.Expr (.Call (.Attribute (.Name x px) "extend" pa) [e] [] pe) pos :: rest) (tF C env (m.bind fun zs => (ofO (catC xs zs)).bind K) pn pl kp r) :=
  pss_imp (pss_cons (ps_expr hb hs) (pss_ex hr)) fun D σ H _ ⟨S, g0, P, F, em, q⟩ => by
    obtain ⟨w, ew, p, vs, e2, sp, hp, ha⟩ := F.sl.get i (hi _)
    subst e2
    refine ⟨.ref p, ew, .inl ⟨rfl, vs, SqL.of hp⟩, S, g0, _, F, em, fun zs g1 ⟨out, eo, po⟩ b ws S1 H1 F1 x1 hb hw => ?_⟩
    obtain ⟨w1, ew1, p1, vs1, e21, sp1, hp1, ha1⟩ := F1.sl.get i (hi _)
    subst e21
    rw [ew] at ew1
    cases ew1
    unfold catC at eo
    split at eo
    · rename_i hl
      cases eo
      have npb : p ≠ b := fun z => by
        rw [z, hb] at hp1
        cases hp1
      refine ⟨p, b, vs1, ws, rfl, rfl, by rw [upd_ne npb]; exact hp1, upd_same, by rw [All2.length ha1, All2.length hw, sizeLine_eq]; omega, xs ++ zs, S1, g1, P, ?_, po, fun o g9 po => (q o g9 po).mono x1⟩
      exact (F1.add hb).write (hi _) ew (ha1.append hw)
    · cases eo

/-! ### the greatest, the least one of a list, a tuple of ints -/
def maxL : List Int → Option Int
  | [] => none
  | x :: xs => some (xs.foldl max x)
def minL : List Int → Option Int
  | [] => none
  | x :: xs => some (xs.foldl min x)
def rExt (K : PySem.W.Frag) (f : Int → Int → Int) : List V → Hp → VK → Prop := fun vs H Q => ∃ (a : Addr) (n : Int) (ns : List Int), vs = [V.ref a] ∧ (SqL K H a ((n :: ns).map V.int) ∨ SqT K H a ((n :: ns).map V.int)) ∧ Q (.int (ns.foldl f n)) H
theorem alike_all (ns : List Int) : PySem.W.AlikeAll (ns.map PyData.int) := by
  refine ⟨fun x hx y hy => ?_, fun x hx => ?_⟩
  · obtain ⟨i, _, rfl⟩ := List.mem_map.mp hx
    obtain ⟨j, _, rfl⟩ := List.mem_map.mp hy
    simp only [PySem.W.alike]
  · obtain ⟨i, _, rfl⟩ := List.mem_map.mp hx
    exact fun z => nomatch z
theorem dep_ints (ns : List Int) : PyData.depthAll (ns.map PyData.int) ≤ 0 := depthAll_map (fun a => by simp [PyData.depth]) ns
theorem cr_maxQ (hc : X.calm = true) (hu : X.A.units + 64 < cLine) : CallR X (.builtin "max") (rExt X.K max) := by
  intro pins s σ H vs us Q I r h
  obtain ⟨a, n, ns, rfl, hs, q⟩ := h
  rw [Vals.ref1 r]
  have hd : DpAll X.K H ((n :: ns).map V.int) ((n :: ns).map PyData.int) := dpAll (r := qI) (f := PyData.int) (fun h => dI.rep h) (All2.of_map (f := V.int) (n :: ns))
  have h0 := dep_ints (n :: ns)
  rcases hs with hs | hs
  · obtain ⟨its, rv, hl, _⟩ := I.list hs
    obtain ⟨as, rd⟩ := Dp.readsAll I _ _ _ hd rv
    refine PySem.W.max_list_data (I.ok.hd hc) hl.isList rd (alike_all (n :: ns)) (by
      show X.A.units + 1 + PyData.depthAll ((n :: ns).map PyData.int) < cLine
      omega) fun i v h' tk bs hv hr hk => ?_
    rw [PySem.W.maxD_ints] at hr
    cases hr
    exact ⟨.int _, H, I.kept hk, ⟨_, rfl⟩, q⟩
  · obtain ⟨its, rv, hl, _⟩ := I.tuple hs
    obtain ⟨as, rd⟩ := Dp.readsAll I _ _ _ hd rv
    refine PySem.W.max_tuple_data (I.ok.hd hc) (show s.heap.IsTuple a its.toArray from hl) rd (alike_all (n :: ns)) (by
      show X.A.units + 1 + PyData.depthAll ((n :: ns).map PyData.int) < cLine
      omega) fun i v h' tk bs hv hr hk => ?_
    rw [PySem.W.maxD_ints] at hr
    cases hr
    exact ⟨.int _, H, I.kept hk, ⟨_, rfl⟩, q⟩
theorem cr_minQ (hc : X.calm = true) (hu : X.A.units + 64 < cLine) : CallR X (.builtin "min") (rExt X.K min) := by
  intro pins s σ H vs us Q I r h
  obtain ⟨a, n, ns, rfl, hs, q⟩ := h
  rw [Vals.ref1 r]
  have hd : DpAll X.K H ((n :: ns).map V.int) ((n :: ns).map PyData.int) := dpAll (r := qI) (f := PyData.int) (fun h => dI.rep h) (All2.of_map (f := V.int) (n :: ns))
  have h0 := dep_ints (n :: ns)
  rcases hs with hs | hs
  · obtain ⟨its, rv, hl, _⟩ := I.list hs
    obtain ⟨as, rd⟩ := Dp.readsAll I _ _ _ hd rv
    refine PySem.W.min_list_data (I.ok.hd hc) hl.isList rd (alike_all (n :: ns)) (by
      show X.A.units + 1 + PyData.depthAll ((n :: ns).map PyData.int) < cLine
      omega) fun i v h' tk bs hv hr hk => ?_
    rw [PySem.W.minD_ints] at hr
    cases hr
    exact ⟨.int _, H, I.kept hk, ⟨_, rfl⟩, q⟩
  · obtain ⟨its, rv, hl, _⟩ := I.tuple hs
    obtain ⟨as, rd⟩ := Dp.readsAll I _ _ _ hd rv
    refine PySem.W.min_tuple_data (I.ok.hd hc) (show s.heap.IsTuple a its.toArray from hl) rd (alike_all (n :: ns)) (by
      show X.A.units + 1 + PyData.depthAll ((n :: ns).map PyData.int) < cLine
      omega) fun i v h' tk bs hv hr hk => ?_
    rw [PySem.W.minD_ints] at hr
    cases hr
    exact ⟨.int _, H, I.kept hk, ⟨_, rfl⟩, q⟩
theorem xe_max1 {mx : W (List Int)} (hc : X.calm = true) (hu : X.A.units + 64 < cLine) (hg : Gl X "max") (hm : X.mg "max" = none) (ha : PE X a (tQ C env k qI mx)) (hs : starEach [a] X.env = (false, eval a X.env) :: starEach [] X.env := by rfl) :
    PE X (.Call (.Name "max" p) [a] [] pos) (tE C env qI (mx.bind fun xs => ofO (maxL xs))) :=
  xe_b1 (f := maxL) (cr_maxQ hc hu) (by decide +kernel) hg hm ha (fun _ S H σ p vs xs z Q F _ hp h2 ez kk => by
    cases xs with
    | nil => cases ez
    | cons n ns =>
      cases ez
      exact ⟨p, n, ns, rfl, by rw [← flat_ints h2]; exact sq_seq hp, kk _ S H F (Ex.refl S) rfl⟩) hs
theorem xe_min1 {mx : W (List Int)} (hc : X.calm = true) (hu : X.A.units + 64 < cLine) (hg : Gl X "min") (hm : X.mg "min" = none) (ha : PE X a (tQ C env k qI mx)) (hs : starEach [a] X.env = (false, eval a X.env) :: starEach [] X.env := by rfl) :
    PE X (.Call (.Name "min" p) [a] [] pos) (tE C env qI (mx.bind fun xs => ofO (minL xs))) :=
  xe_b1 (f := minL) (cr_minQ hc hu) (by decide +kernel) hg hm ha (fun _ S H σ p vs xs z Q F _ hp h2 ez kk => by
    cases xs with
    | nil => cases ez
    | cons n ns =>
      cases ez
      exact ⟨p, n, ns, rfl, by rw [← flat_ints h2]; exact sq_seq hp, kk _ S H F (Ex.refl S) rfl⟩) hs

/-! ### name = [..], the name a local -/
section
variable {δ : Type} {rd : Rp δ} {y : Str} {py spos : Pos} {elt : Expr} {ifs : List Expr} {scope : Scope} {own : List (Str × Nat)} {mx : W (List α)} {up : Up α} {cf : α → W Bool} {ef : α → W δ}
theorem xs_setLcN {K : List δ → W (Fl ρ β γ)} (hc : X.calm = true) (hN : X.N.Nodup) (hy : X.N[i]? = some y) (hyl : X.env.scope.names.lookup y = some .local) (hsw : swapsWith (.ListComp elt [⟨tg, iter, ifs, 0⟩] scope pos) (some (.Name y py)) spos.line X.env = pure true)
    (hi : PI X tg iter (tS C env re mx)) (ok : BlkOk X.N X.env.scope scope own) (hjs : (up.js.all fun j => (own.map (·.2)).contains j) = true) (hw : ∀ g, wipeOk (env g) (own.map (·.2)) = true)
    (hg : ∀ (s : Shared) (H : Hp) (C0 : Addr) (cl : List (Str × Addr)) (fp : List Addr), PG (X.blk s H scope (compEnvC scope cl C0 X.env) fp) tg (tG re up))
    (ht : ∀ (s : Shared) (H : Hp) (C0 : Addr) (cl : List (Str × Addr)) (fp : List Addr) (C' : Cs) (a : α), PTs (X.blk s H scope (compEnvC scope cl C0 X.env) fp) ifs (tT C' (fun g => up.f a (wipeE (env g) (own.map (·.2)))) (cf a)))
    (he : ∀ (s : Shared) (H : Hp) (C0 : Addr) (cl : List (Str × Addr)) (fp : List Addr) (C' : Cs) (a : α), PE (X.blk s H scope (compEnvC scope cl C0 X.env) fp) elt (tE C' (fun g => up.f a (wipeE (env g) (own.map (·.2)))) rd (ef a)))
    (hr : ∀ a, PSs X rest (tF C (fun g => (env g).set i (.ow rd a)) (K a) pn pl kp r))
    (hs : ∀ x, foldedSetIterable iter X.env x = pure x := by intro _; rfl) (hE : ∀ g g', Gs (env g) (env g') := by intro _ _; repeat (first | exact Gs.nil | apply Gs.keep | apply Gs.gh)) :
    PSs X (.Assign [.Name y py] (.ListComp elt [⟨tg, iter, ifs, 0⟩] scope pos) spos :: rest) (tF C env ((mx.bind fun xs => lcW cf ef xs).bind K) pn pl kp r) :=
  pss_imp (pss_cons (ps_setLc (tt := fun σ H Q => ∃ p : Cs × α, tT p.1 (fun g => up.f p.2 (wipeE (env g) (own.map (·.2)))) (cf p.2) σ H Q) (te := fun σ H Q => ∃ p : Cs × α, tE p.1 (fun g => up.f p.2 (wipeE (env g) (own.map (·.2)))) rd (ef p.2) σ H Q) hc hN hy hyl hsw hi ok hg
    (fun s H C0 cl fp => ⟨fun pins s' σ H' Q I ⟨p, q⟩ => (ht s H C0 cl fp p.1 p.2).run pins s' σ H' Q I q⟩) (fun s H C0 cl fp => pe_ex fun p => he s H C0 cl fp p.1 p.2) hs) (pss_ex hr)) fun D σ H _ ⟨S, g0, P, F, em, q⟩ =>
    lc_use (re := re) (rb := rd) (mx := mx) (up := up) (cf := cf) (ef := ef) (Q := fun x H1 => ∃ a, tF C (fun g => (env g).set i (.ow rd a)) (K a) pn pl kp r D (σ.set i (some x)) H1) hjs hw hE ⟨S, g0, _, F, em, fun xs g1 px p vs S' H' F' eS hp ha => ⟨xs, _, g1, P, F'.setOw i hp ha, px, fun o g9 po => (q o g9 po).mono eS⟩⟩
theorem xs_setLc {K : List δ → W (Fl ρ β γ)} (hc : X.calm = true) (hN : X.N.Nodup) (hy : X.N[i]? = some y) (hyl : X.env.scope.names.lookup y = some .local) (hsw : swapsWith (.ListComp elt [⟨tg, iter, ifs, 0⟩] scope pos) (some (.Name y py)) spos.line X.env = pure true)
    (hi : PI X tg iter (tS C env re mx)) (ok : BlkOk X.N X.env.scope scope own) (hjs : (up.js.all fun j => (own.map (·.2)).contains j) = true) (hw : ∀ g, wipeOk (env g) (own.map (·.2)) = true)
    (hg : ∀ (s : Shared) (H : Hp) (C0 : Addr) (cl : List (Str × Addr)) (fp : List Addr), PG (X.blk s H scope (compEnvC scope cl C0 X.env) fp) tg (tG re up))
    (ht : ∀ (s : Shared) (H : Hp) (C0 : Addr) (cl : List (Str × Addr)) (fp : List Addr) (C' : Cs) (a : α), PTs (X.blk s H scope (compEnvC scope cl C0 X.env) fp) ifs (tT C' (fun g => up.f a (wipeE (env g) (own.map (·.2)))) (cf a)))
    (he : ∀ (s : Shared) (H : Hp) (C0 : Addr) (cl : List (Str × Addr)) (fp : List Addr) (C' : Cs) (a : α), PE (X.blk s H scope (compEnvC scope cl C0 X.env) fp) elt (tE C' (fun g => up.f a (wipeE (env g) (own.map (·.2)))) rd (ef a)))
    (hr : ∀ a, PSs X rest (tF C (fun g => (env g).set i (.im (qL rd) a)) (K a) pn pl kp r))
    (hs : ∀ x, foldedSetIterable iter X.env x = pure x := by intro _; rfl) (hE : ∀ g g', Gs (env g) (env g') := by intro _ _; repeat (first | exact Gs.nil | apply Gs.keep | apply Gs.gh)) :
    PSs X (.Assign [.Name y py] (.ListComp elt [⟨tg, iter, ifs, 0⟩] scope pos) spos :: rest) (tF C env ((mx.bind fun xs => lcW cf ef xs).bind K) pn pl kp r) :=
  pss_imp (pss_cons (ps_setLc (tt := fun σ H Q => ∃ p : Cs × α, tT p.1 (fun g => up.f p.2 (wipeE (env g) (own.map (·.2)))) (cf p.2) σ H Q) (te := fun σ H Q => ∃ p : Cs × α, tE p.1 (fun g => up.f p.2 (wipeE (env g) (own.map (·.2)))) rd (ef p.2) σ H Q) hc hN hy hyl hsw hi ok hg
    (fun s H C0 cl fp => ⟨fun pins s' σ H' Q I ⟨p, q⟩ => (ht s H C0 cl fp p.1 p.2).run pins s' σ H' Q I q⟩) (fun s H C0 cl fp => pe_ex fun p => he s H C0 cl fp p.1 p.2) hs) (pss_ex hr)) fun D σ H _ ⟨S, g0, P, F, em, q⟩ =>
    lc_use (re := re) (rb := rd) (mx := mx) (up := up) (cf := cf) (ef := ef) (Q := fun x H1 => ∃ a, tF C (fun g => (env g).set i (.im (qL rd) a)) (K a) pn pl kp r D (σ.set i (some x)) H1) hjs hw hE (tN_of_E ⟨S, g0, _, F, em, fun xs g1 px v S' H' F' eS hv => ⟨xs, S', g1, P, F'.setIm i hv, px, fun o g9 po => (q o g9 po).mono eS⟩⟩)
end
end

/-! ### defs by their names -/
section
variable (P : Program) (w : World) (K : PySem.W.Frag) (mg : Str → Option Value) (base : Heap)
def Has (π : Around → Prop) (x : Str) (k : Nat) (ps : List Str) (sp : Sp) : Prop := ∃ fa fd, FnP π P w K mg base CX0 k fa fd ps sp ∧ mg x = some (.ref fa) ∧ PySem.W.keepIn K (.ref fa) = true ∧ Binds K fd ps []
end
section
variable {X : Cx} {C : Cs} {env kp : Gh → List Sl} {e a b : Expr} {es : List Expr} {A B rest : List Stmt} {pos p px : Pos} {α β γ ρ : Type} {r : Rp ρ} {pn : β → Gh → List Sl} {pl : γ → Gh → List Sl} {d : Addr} {i : Nat} {ra : Ra α}
theorem xe_callH {π : Around → Prop} {f : α → Option ρ} {m : W α} {j k : Nat} {ps : List Str} {x : Str} (h : Has X.prog X.w X.K X.mg X.base π x j ps (SpF ra r f)) (hpi : π X.A) (hr : Room k X.A) (hj : j ≤ k) (hg : Gl X x)
    (ha : PA X (e :: es) (tA C env ra m)) (hdb : (x == ("__debug__" : Str)) = false := by decide) (he : starEach (e :: es) X.env = (false, eval e X.env) :: starEach es X.env := by rfl) (hpl : (backTo pos (starEach es X.env)).any (·.1) = false := by rfl) :
    PE X (.Call (.Name x p) (e :: es) [] pos) (tE C env r (m.bind fun a => ofO (f a))) :=
  let ⟨_, _, F, hm, hk, hb⟩ := h
  xe_call F hpi (hr.mono hj) hg hm hk hb ha hdb he hpl
theorem xe_callDH {π : Around → Prop} {f : α → W ρ} {m : W α} {j k : Nat} {ps : List Str} {x xd : Str} (h : Has X.prog X.w X.K X.mg X.base π x j ps (SpD ra r f)) (hpi : π X.A) (hr : Room k X.A) (hj : j ≤ k) (hg : Gl X x)
    (hd : PE X (.Name xd px) (tVar i)) (ha : PA X es (tA C env ra m)) (hi : ∀ g, (env g)[i]? = some (.iv d (oD g)) := by intro _; rfl) (hE : ∀ g g', env g' = (env g).set i (.iv d (oD g')) := by intro _ _; rfl)
    (hdb : (x == ("__debug__" : Str)) = false := by decide) (he : starEach (.Name xd px :: es) X.env = (false, eval (.Name xd px) X.env) :: starEach es X.env := by rfl) (hpl : (backTo pos (starEach es X.env)).any (·.1) = false := by rfl) :
    PE X (.Call (.Name x p) (.Name xd px :: es) [] pos) (tE C env r (m.bind f)) :=
  let ⟨_, _, F, hm, hk, hb⟩ := h
  xe_callD F hpi (hr.mono hj) hg hm hk hb hd ha hi hE hdb he hpl
theorem xs_parN1 {i j : Nat} {x y : Str} {px py pt0 : Pos} {kt k2 : Nat} {pt2 : Pos} {α1 α2 : Type} {r1 : Rp α1} {r2 : Rp α2} {m1 : W (List α1)} {m2 : W α2} {K : List α1 → α2 → W (Fl ρ β γ)} (ha : PE X a (tN C env r1 m1)) (hb : ∀ C', PE X b (tE C' env r2 m2)) (hr : ∀ a b, PSs X rest (tF C (fun g => ((env g).set i (.ow r1 a)).set j (.im r2 b)) (K a b) pn pl kp r))
    (hc : X.calm = true) (hN : X.N.Nodup) (hi : X.N[i]? = some x) (hj : X.N[j]? = some y) (hij : i ≠ j) (hx : X.env.scope.names.lookup x = some .local) (hy : X.env.scope.names.lookup y = some .local)
    (hw : swappedStores [.Tuple [.Name x px, .Name y py] kt pt0] (.Tuple [a, b] k2 pt2) X.env = pure (some [x, y])) (hs : swapsWithSole [.Tuple [.Name x px, .Name y py] kt pt0] (.Tuple [a, b] k2 pt2) pos.line X.env = pure false := by rfl)
    (h1 : starEach [a, b] X.env = (false, eval a X.env) :: starEach [b] X.env := by rfl) (h2 : starEach [b] X.env = (false, eval b X.env) :: starEach [] X.env := by rfl) (hE : ∀ g g', Gs (env g) (env g') := by intro _ _; repeat (first | exact Gs.nil | apply Gs.keep | apply Gs.gh)) :
    PSs X (.Assign [.Tuple [.Name x px, .Name y py] kt pt0] (.Tuple [a, b] k2 pt2) pos :: rest) (tF C env (m1.bind fun a => m2.bind fun b => K a b) pn pl kp r) :=
  pss_imp (pss_cons (ps_par hc hN hi hj hij hx hy (pa_cons ha (pa_cons (pe_ex hb) pa_nil h2) h1) hw hs) (pss_ex fun p : List α1 × α2 => hr p.1 p.2)) fun D σ H _ ⟨S, g0, P, F, em, q⟩ => ⟨S, g0, _, F, em, fun xs g1 px p vs S1 H1 F1 x1 hp hv => by
    have G0 := F1.add hp (o := .lst vs)
    have np : ∀ g, p ∉ owns σ (env g) := fun g z => by
      obtain ⟨_, o, e⟩ := F1.sl.own ((hE g g1).owns σ ▸ z)
      rw [hp] at e
      cases e
    refine ⟨_, S1, g1, _, G0.here, px, fun w g2 pw v2 S2 H2 F2 x2 hv2 => ⟨.ref p, v2, rfl, (xs, w), S2, g2, P, ?_, pw, fun o g9 po => (q o g9 po).mono (x1.trans x2)⟩⟩
    have hp2 : H2 p = some (.lst vs) := F2.e2 p _ upd_same (np g1)
    have sp2 : S2 p = none := F2.nw p (F1.e1.back hp) (by show upd H1 p (.lst vs) p ≠ none; rw [upd_same]; exact fun z => nomatch z)
    have G2 : Fr C S2 H2 σ (env g2) := G0.backG ((hE g2 g1).owns σ) F2
    have G3 := (G2.del sp2 (F1.H0none hp) (np g2)).setOw i (r := r1) (p := p) (vs := vs) (xs := xs) (by unfold Rt.del; simp) (hv.mono fun _ _ z => r1.mono x2 z)
    rw [upd_del hp2] at G3
    exact G3.setIm j hv2⟩
theorem xe_gintE {x : Str} {i : Int} (hg : Gl X x) (hm : ∃ t, X.mg x = some (.int i t)) (hd : (x == ("__debug__" : Str)) = false := by decide) : PE X (.Name x pos) (tE C env qI (.ret i)) :=
  let ⟨_, h⟩ := hm
  xe_gint hg h hd
end
/-! ### defs that give a new list -/
theorem del_ne {H : Hp} {p b : Addr} (h : b ≠ p) : del H p b = H b := by
  unfold del
  rw [if_neg h]
theorem del_same {H : Hp} {p : Addr} : del H p p = none := by
  unfold del
  simp
theorem Ex.del {S S' : Hp} (p : Addr) (e : Ex S S') : Ex (Rt.del S p) (Rt.del S' p) := fun b u h => by
  by_cases z : b = p
  · rw [z, del_same] at h
    cases h
  · rw [del_ne z] at h ⊢
    exact e b u h
theorem Ex.toDel {S S' : Hp} {p : Addr} (e : Ex S S') (h : S p = none) : Ex S (Rt.del S' p) := fun b u hb => by
  have z : b ≠ p := fun z => by
    rw [z, h] at hb
    cases hb
  rw [del_ne z]
  exact e b u hb
theorem del_upd {S : Hp} {p : Addr} {o : HO} (h : S p = none) : del (upd S p o) p = S := by
  funext b
  by_cases z : b = p
  · rw [z, del_same, h]
  · rw [del_ne z, upd_ne z]
/-- a list that is new behind C -/
def qNew (C : Cs) {α : Type} (r : Rp α) : Rp (List α) := ⟨fun S v xs => ∃ p vs, v = .ref p ∧ S p = some (.lst vs) ∧ C.S0 p = none ∧ C.H0 p = none ∧ All2 (r.p (Rt.del S p)) vs xs, fun e ⟨p, vs, h1, h2, h3, h4, h5⟩ => ⟨p, vs, h1, e _ _ h2, h3, h4, h5.mono fun _ _ z => r.mono (e.del p) z⟩⟩
def SpN {α β : Type} (ra : Ra α) (r : Rp β) (f : α → Option (List β)) : Sp := fun vs H Q _ => ∃ S a o, Ex S H ∧ Tc S H ∧ ra.p S vs a ∧ f a = some o ∧
  ∀ p us S' H', Ex S S' → Ex S' H' → Ex H H' → (∀ b, S b = none → H b ≠ none → S' b = none) → Tc S' H' → H' p = none → All2 (r.p S') us o → Q (.ref p) (upd H' p (.lst us))
section
variable {X : Cx} {C : Cs} {env kp : Gh → List Sl} {e a b : Expr} {es : List Expr} {A B rest : List Stmt} {pos p : Pos} {α β γ δ : Type} {re : Rp δ} {pn : β → Gh → List Sl} {pl : γ → Gh → List Sl} {ra : Ra α}
theorem xs_retN {m : W (List δ)} (h : PE X e (tN C env re m)) (hk : Kp env kp := by first | exact ⟨0, fun _ => rfl⟩ | exact ⟨1, fun _ => rfl⟩) : PSs X (.Return (some e) pos :: rest) (tF C env (m.bind fun x => .ret (.rt x)) pn pl kp (qNew C re)) := pss_imp (pss_cons (ps_ret h) pss_never) fun D σ H _ ⟨S, g0, P, F, em, q⟩ =>
  ⟨S, g0, _, F, em, fun x g1 px p vs S1 H1 F1 x1 hp ha => by
    obtain ⟨σ', F'⟩ := (F1.new (o := .lst vs) hp).kp hk
    have sp : S1 p = none := F1.e1.back hp
    exact q _ _ px (.ref p) _ _ σ' F' (x1.trans (Ex.new sp)) ⟨p, vs, rfl, upd_same, F1.e0.back sp, F1.H0none hp, by rw [del_upd sp]; exact ha⟩⟩
theorem body_ofL {body : List Stmt} {N : List Str} {f : α → Option (List δ)} {env : α → List Sl} {m : α → W (Fl (List δ) β γ)} {vs : List V} {H : Hp} {Q : VK} {E : XK} (h : SpN ra re f vs H Q E) (hg : ∀ a, ofO (f a) = rtOf (m a))
    (hs : ∀ S H a, ra.p S vs a → SlAll S H (start N vs) (env a) ∧ owns (start N vs) (env a) = []) (hb : ∀ (C : Cs) (a : α), C.A0 = [] → PSs X body (tF C (fun _ => env a) (m a) pn pl kp (qNew C re))) :
    ∃ t, PSs X body t ∧ t { nx := fun _ H' => Q .non H', rt := Q } (start N vs) H := by
  obtain ⟨S, a, o, e, t, hv, eo, k⟩ := h
  obtain ⟨s1, s2⟩ := hs S H a hv
  have hm : rtOf (m a) [] (fun x _ => x = o) := by
    rw [← hg a]
    exact ⟨o, eo, rfl⟩
  refine ⟨_, hb ⟨[], S, H⟩ a rfl, S, [], _, Fr.entry e t s1 s2, hm, fun w g' pw => ?_⟩
  cases w with
  | rt x =>
    have pw : x = o := pw
    subst pw
    rintro v S' H' σ' F _ ⟨p, us, ev, sp, s0, h0, ha⟩
    subst ev
    have := k p us (Rt.del S' p) (Rt.del H' p) (F.e0.toDel s0) (F.e1.del p) (Ex.toDel (fun b u e => F.e2 b u e (by simp)) h0) (fun b z1 z2 => by
      by_cases z : b = p
      · rw [z]
        exact del_same
      · rw [del_ne z]
        exact F.nw b z1 z2) (F.tc.del2 p) del_same ha
    rw [upd_del (F.e1 _ _ sp)] at this
    exact this
  | nx _ => exact pw.elim
  | br _ => exact pw.elim
  | ct _ => exact pw.elim
theorem xe_callL {π : Around → Prop} {f : α → Option (List δ)} {m : W α} {j k : Nat} {ps : List Str} {x : Str} (h : Has X.prog X.w X.K X.mg X.base π x j ps (SpN ra re f)) (hpi : π X.A) (hr : Room k X.A) (hj : j ≤ k) (hg : Gl X x)
    (ha : PA X (e :: es) (tA C env ra m)) (hdb : (x == ("__debug__" : Str)) = false := by decide) (he : starEach (e :: es) X.env = (false, eval e X.env) :: starEach es X.env := by rfl) (hpl : (backTo pos (starEach es X.env)).any (·.1) = false := by rfl) :
    PE X (.Call (.Name x p) (e :: es) [] pos) (tN C env re (m.bind fun a => ofO (f a))) := by
  obtain ⟨fa, fd, F, hm, hk, hb⟩ := h
  exact pe_imp (pe_callP F hpi (hr.mono hj) hg hm hk hb .nil pass0 ha hdb he hpl) fun σ H Q _ ⟨S, g0, P, Fr1, em, q⟩ => ⟨S, g0, _, Fr1, em, fun a g1 ⟨o, eo, po⟩ vs S1 H1 F1 x1 hv => by
    show SpN ra re f (vs ++ []) H1 _ E0
    rw [List.append_nil]
    exact ⟨S1, a, o, F1.e1, F1.tc, hv, eo, fun p us S' H' eS eH eHH n t hp ha _ => q o g1 po p us S' H' (F1.call eS eH eHH n t) (x1.trans eS) hp ha⟩⟩
end
section
variable {P : Program} {w : World} {K : PySem.W.Frag} {mg : Str → Option Value} {base : Heap} {α β γ δ : Type} {re : Rp δ} {p : Pr α} {N ps : List Str} {k : Nat} {st : Stmt} {x qual : Str} {f : Addr} {fd : FuncData}
theorem fn_okL {π : Around → Prop} {g : α → Option (List δ)} {env : α → List Sl} {m : α → W (Fl (List δ) β γ)} {pn : β → Gh → List Sl} {pl : γ → Gh → List Sl} (j : Nat) (sπ : Stb π) (F : Fun K x qual st f fd) (S : FnScope N ps (defScope st)) (hn : p.n = ps.length) (hN : N.length = ps.length + j) (he : ∀ a, env a = p.sl a ++ List.replicate j .un)
    (hb : ∀ (cdv : Value) (A : Around) (outer : List Env) (s : Shared) (H : Hp) (E : XK), π (A.deeper (PyProof.Rows.envOfC qual (defScope st) s.heap.objs.size f cdv)) → Room k (A.deeper (PyProof.Rows.envOfC qual (defScope st) s.heap.objs.size f cdv)) → ∀ (C : Cs) (a : α), C.A0 = [] → PSs (cxOf CX0 P w K mg base N qual (defScope st) f cdv A outer s H E).nox (defBody st) (tF C (fun _ => env a) (m a) pn pl (fun _ => []) (qNew C re)))
    (hg : ∀ a, ofO (g a) = rtOf (m a)) : FnP π P w K mg base CX0 (k + 1) f fd ps (SpN p.ra re g) := by
  refine funP_ok sπ F S (fun vs H Q E h => ?_) (fun cdv A outer s H vs Q E hp hr h => ?_)
  · obtain ⟨_, _, _, _, _, hv, _⟩ := h
    rw [(p.ok (H := H) hv).2.2, hn]
  · exact body_ofL (E := E) h hg (fun S H a hv => by rw [he a]; exact p.start (by rw [hN, hn]) hv) (hb cdv A outer s H E hp hr)
end

/-! ### defs within which a shared object is made -/
def SpW {α ρ : Type} (ra : Ra α) (r : Rp ρ) (f : α → W ρ) : Sp := fun vs H Q _ => ∃ S a P, Ex S H ∧ Tc S H ∧ ra.p S vs a ∧ f a [] P ∧ ∀ o g, P o g → Post S H r o Q
section
variable {P : Program} {w : World} {K : PySem.W.Frag} {mg : Str → Option Value} {base : Heap} {α β γ ρ : Type} {r : Rp ρ} {p : Pr α} {N ps : List Str} {k : Nat} {st : Stmt} {x qual : Str} {f : Addr} {fd : FuncData}
theorem fn_okW {π : Around → Prop} {g : α → W ρ} {env : α → List Sl} {m : α → W (Fl ρ β γ)} {pn : β → Gh → List Sl} {pl : γ → Gh → List Sl} (j : Nat) (sπ : Stb π) (F : Fun K x qual st f fd) (S : FnScope N ps (defScope st)) (hn : p.n = ps.length) (hN : N.length = ps.length + j) (he : ∀ a, env a = p.sl a ++ List.replicate j .un)
    (hb : ∀ (cdv : Value) (A : Around) (outer : List Env) (s : Shared) (H : Hp) (E : XK), π (A.deeper (PyProof.Rows.envOfC qual (defScope st) s.heap.objs.size f cdv)) → Room k (A.deeper (PyProof.Rows.envOfC qual (defScope st) s.heap.objs.size f cdv)) → ∀ (C : Cs) (a : α), C.A0 = [] → PSs (cxOf CX0 P w K mg base N qual (defScope st) f cdv A outer s H E).nox (defBody st) (tF C (fun _ => env a) (m a) pn pl (fun _ => []) r))
    (hg : ∀ a, g a = rtOf (m a)) : FnP π P w K mg base CX0 (k + 1) f fd ps (SpW p.ra r g) := by
  refine funP_ok sπ F S (fun vs H Q E h => ?_) (fun cdv A outer s H vs Q E hp hr h => ?_)
  · obtain ⟨_, _, _, _, _, hv, _⟩ := h
    rw [(p.ok (H := H) hv).2.2, hn]
  · obtain ⟨S, a, P', e, t, hv, eo, kk⟩ := h
    obtain ⟨s1, s2⟩ := p.start (N := N) (j := j) (by rw [hN, hn]) (H := H) hv
    rw [hg a] at eo
    refine ⟨_, hb cdv A outer s H E hp hr ⟨[], S, H⟩ a rfl, S, [], _, Fr.entry e t (by rw [he a]; exact s1) (by rw [he a]; exact s2), eo, fun w g' pw => ?_⟩
    cases w with
    | rt x => exact fun v S' H' σ' F _ hv => F.post (kk _ _ pw) hv
    | nx _ => exact pw.elim
    | br _ => exact pw.elim
    | ct _ => exact pw.elim
end

section
variable {X : Cx} {C : Cs} {env kp : Gh → List Sl} {A : List Stmt} {α β γ ρ : Type} {r : Rp ρ} {re : Rp α} {pn : β → Gh → List Sl} {pl : γ → Gh → List Sl}
/-- a list of the def's own changes no more, the shared object stands by -/
theorem xs_frzD (i : Nat) {d : Addr} {xs : List α} {m : W (Fl ρ β γ)} (hA : C.A0 = [d]) (hr : PSs X A (tF C (fun g => (env g).set i (.im (qL re) xs)) m pn pl kp r)) (hi : ∀ g, (env g)[i]? = some (.ow re xs) := by intro _; rfl) (h0 : ∀ g, (env g)[0]? = some (.iv d (oD g)) := by intro _; rfl) (hne : i ≠ 0 := by decide) : PSs X A (tF C env m pn pl kp r) :=
  pss_imp hr fun D σ H _ ⟨S, g0, P, F, em, q⟩ => by
    obtain ⟨s0, _, _⟩ := F.iv (h0 g0)
    obtain ⟨S', x1, F1⟩ := F.freeze (hi _) fun p hp z => by
      rw [hA] at z
      have z : p = d := by simpa using z
      subst z
      exact hne (owns_inj F.nd (hi g0) hp rfl (h0 g0) s0 rfl)
    exact ⟨S', g0, P, F1, em, fun o g9 po => (q o g9 po).mono x1⟩
end

/-! ### lists of data as data -/
theorem dpAllD {K : PySem.W.Frag} {H : Hp} : ∀ {vs : List V} {xs : List PyData}, All2 ((qD K).p H) vs xs → DpAll K H vs xs
  | [], [], _ => .nil
  | v :: vs, x :: xs, ⟨a, b⟩ => .cons a (dpAllD b)
  | [], _ :: _, z => z.elim
  | _ :: _, [], z => z.elim
section
variable {X : Cx} {C : Cs} {env : Gh → List Sl} {e : Expr} {m : W (List PyData)}
theorem xe_dataL (h : PE X e (tE C env (qL (qD X.K)) m)) : PE X e (tE C env (qD X.K) (m.bind fun xs => .ret (PyData.list xs))) :=
  xe_as (r := qL (qD X.K)) (rb := qD X.K) (f := PyData.list) (fun H v a ⟨p, vs, ev, hp, ha⟩ => by rw [ev]; exact .lst (SqL.of hp) (dpAllD ha)) h
theorem xe_dataT (h : PE X e (tE C env (qT (qD X.K)) m)) : PE X e (tE C env (qD X.K) (m.bind fun xs => .ret (PyData.tuple xs))) :=
  xe_as (r := qT (qD X.K)) (rb := qD X.K) (f := PyData.tuple) (fun H v a ⟨p, vs, ev, hp, ha⟩ => by rw [ev]; exact .tup (TupAt.sq hp) (dpAllD ha)) h
end
theorem units65 {k : Nat} {A : Around} (r : Room k A) : A.units + 65 < cLine := by
  have := r.un
  omega
end Rt

set_option maxRecDepth 100000
set_option maxHeartbeats 4000000
/-! Rt8: sorted(a tuple of ints). -/
namespace Rt
open PySem L2 PyProof.Rows
section
variable {prog : Program} {w : World} {A : Around} {E : Value → Shared → Prop} {s : Shared}
/-- the heap behind which a tuple's items stand in a list of their own -/
def gath (h : Heap) (its : List Value) : Heap := (h.push (seqObj "list" #[] 0)).update h.objs.size (Obj.mapSeq (· ++ its.toArray))
theorem gather {t : Addr} {its : List Value} {R : List Value → Shared → Prop} (ht : s.heap.IsTuple t its.toArray) (hn : its.length ≤ sizeLine) (k : R its { s with heap := gath s.heap its }) : wpAny (model prog w) A (collect (.ref t)) R E s := by
  obtain ⟨u, hu, cu, m, du⟩ := id ht
  unfold collect
  apply wpAny_bind
  apply wpAny_runValue
  apply codeAny_builtin entry_proto_collect'
  show wpAny _ _ (do
    again (.builtin "list.__iadd__" ⟨[← newList [], .ref t], []⟩)) _ _ s
  apply wpAny_bind
  refine wpAny_newList ?_
  apply wpAny_pure
  refine ⟨Code.quiet_builtin _ (by decide +kernel), codeAny_builtin entry_list_iadd' ?_⟩
  have hu1 : (s.heap.push (seqObj "list" #[] 0)).get? t = some u := Heap.get?_push_of_some _ hu
  have hL : (s.heap.push (seqObj "list" #[] 0)).get? s.heap.objs.size = some (seqObj "list" #[] 0) := Heap.get?_push_size _ rfl
  show wpAny _ _ (Builtin.List.listExtendWith (.ref s.heap.objs.size) (.ref t) (.ref s.heap.objs.size)) _ _ { s with
    heap := s.heap.push (seqObj "list" #[] 0) }
  unfold Builtin.List.listExtendWith
  apply wpAny_bind
  refine wpAny_typeOf (T := "tuple") ?_ ?_
  · exact ⟨u, hu1, cu⟩
  have e1 : (Value.type "tuple" == Value.type "tuple") = true := rfl
  rw [if_pos (by rw [e1, Bool.or_true])]
  apply wpAny_bind
  apply listItems_at hu1 du
  apply wpAny_bind
  apply listItems_at (xs := #[]) (n := 0) hL rfl
  rw [if_neg (by simp)]
  apply wpAny_bind
  refine listUpdate_at (xs := #[]) (n := 0) hL rfl ?_ (Nat.zero_le _) (by
    show (#[] ++ its.toArray).size ≤ sizeLine + 1
    rw [Array.size_append, List.size_toArray]
    show 0 + its.length ≤ sizeLine + 1
    omega)
  apply wpAny_pure
  show wpAny (model prog w) A (do
    let x ← load s.heap.objs.size
    match x.data with
    | .seq ys _ => pure ys.toList
    | _ => unsupported "internal:collect") R E { s with heap := gath s.heap its }
  apply wpAny_bind
  refine wpAny_load (get?_update_seq hL _) ?_
  show wpAny _ _ (pure ((#[] : Array Value) ++ its.toArray).toList) R E _
  rw [Array.toList_append, List.toList_toArray]
  exact wpAny_pure k
theorem sortedT_ord {t : Addr} {its : List Value} {lt : Value → Value → Bool} {R : Value → Shared → Prop} (O : SrtO.Swo lt) (ht : s.heap.IsTuple t its.toArray) (hn : its.length ≤ sizeLine)
    (hS : 2 ≤ its.length → ∀ (h1 : Heap) (a : Addr), SrtO.SortableO prog w A.in1.in1 { s with heap := h1 } a its lt)
    (k : ∀ out : List Value, SrtO.Srtd lt out → SrtO.Stb lt out its → R (.ref (s.heap.objs.size + 1)) { s with heap := sortedAll s.heap its out.toArray }) :
    wpAny (model prog w) A (call (.builtin "sorted") [.ref t]) R E s := by
  apply Calls.call_function_entry kind_sorted plain_sorted entry_sorted (args_sorted1 _)
  unfold Builtin.«sorted»
  refine wpAny_bind (m := checkCount "sorted" 1 1 _) (wpAny_pure ?_)
  apply wpAny_bind
  refine gather ht hn ?_
  apply wpAny_bind
  refine wpAny_newList ?_ hn
  have z : (gath s.heap its).objs.size = s.heap.objs.size + 1 := by
    unfold gath
    rw [Heap.size_update, size_push']
  have hq : ((gath s.heap its).push (seqObj "list" its.toArray 0)).get? (s.heap.objs.size + 1) = some (seqObj "list" its.toArray 0) := by
    rw [← z]
    exact Heap.get?_push_size _ rfl
  show wpAny _ _ _ _ _ { s with heap := (gath s.heap its).push (seqObj "list" its.toArray 0) }
  rw [z]
  apply wpAny_bind
  apply wpAny_holding
  refine wpAny_call_entry slot_list_sort ⟨_, hq, rfl⟩ entry_list_sort ?_ (args_list_sort _)
  refine SrtO.list_sort_ord O hq hn (fun h2 => hS h2 _ _) fun out hs hb => ?_
  exact ⟨_, rfl, wpAny_pure ⟨_, rfl, k out hs hb⟩⟩
end
section
variable {X : Cx} {C : Cs} {env : Gh → List Sl} {a : Expr} {pos p : Pos}
def rSortTI (K : PySem.W.Frag) : List V → Hp → VK → Prop := fun vs H Q => ∃ (a : Addr) (ns : List Int), vs = [V.ref a] ∧ SqT K H a (ns.map V.int) ∧ ∀ (p : Addr), H p = none → Q (.ref p) (upd H p (.lst ((sortI ns).map V.int)))
theorem cr_sortTI : CallR X (.builtin "sorted") (rSortTI X.K) := by
  intro pins s σ H vs us Q I r h
  obtain ⟨a, ns, rfl, hs, q⟩ := h
  obtain ⟨its, rv, hl, hz⟩ := I.tuple hs
  rw [Vals.ref1 r]
  have hi := rv.ints
  have hn : its.length ≤ sizeLine := by
    rw [← rv.length]
    exact hz
  refine sortedT_ord SrtO.swo_int (show s.heap.IsTuple a its.toArray from hl) hn (fun h2 _ _ => SrtO.ints_sortable hi h2) fun out h1 h2 => ?_
  obtain ⟨k1, k2, k3⟩ := SrtO.ints_out hi h1 h2
  have e : out.map SrtO.iv = sortI ns := sorted_unique (k2.trans (sortI_perm ns).symm) k3 (sortI_sorted ns)
  rw [e] at k1
  obtain ⟨ep, he⟩ := sortedAll_at s.heap its out.toArray
  have hlen : ((sortI ns).map V.int).length ≤ sizeLine := by
    rw [List.length_map, (sortI_perm ns).length_eq]
    rw [List.length_map] at hz
    exact hz
  refine ⟨.ref _, upd H (s.heap.objs.size + 1) (.lst ((sortI ns).map V.int)), ?_, rfl, q _ (I.hok.fresh (Nat.le_succ _))⟩
  exact I.laid (t' := s.toks) (fun _ _ => sortedAll_old) (Nat.le_succ _) ⟨hlen, out, ep, vals_of_ints k1, he⟩
theorem xn_sortedT {mx : W (List Int)} (hg : Gl X "sorted") (hm : X.mg "sorted" = none) (ha : PE X a (tQ C env false qI mx)) (hs : starEach [a] X.env = (false, eval a X.env) :: starEach [] X.env := by rfl) :
    PE X (.Call (.Name "sorted" p) [a] [] pos) (tN C env qI (mx.bind fun xs => .ret (sortI xs))) :=
  pe_imp (pe_callB cr_sortTI hg hm (by decide +kernel) (pa_cons ha pa_nil hs) (by decide) (by decide) hs (by rfl)) fun σ H Q _ ⟨S, g0, P, F, em, kk⟩ => ⟨S, g0, _, F, em, fun xs g1 px p S1 H1 F1 x1 rd => by
    obtain ⟨vs, hp, h2⟩ := rd _ S1 H1 F1 (Ex.refl S1)
    exact ⟨p, xs, rfl, by rw [← flat_ints h2]; exact TupAt.sq hp, fun l hl _ => kk _ _ px l _ S1 H1 F1 x1 hl (All2.of_map _)⟩⟩
end

/-! ### the script: a list of ints that nobody changes, laid before the law begins -/
def qX (K : PySem.W.Frag) : Rp (List Int) := ⟨fun H v xs => ∃ p, v = .ref p ∧ SqL K H p (xs.map V.int), fun e ⟨p, h1, h2⟩ => ⟨p, h1, by
  rcases h2 with (h2 | ⟨o, h2⟩) | h2
  · exact .inl (.inl (e _ _ h2))
  · exact .inl (.inr ⟨o, e _ _ h2⟩)
  · exact .inr h2⟩⟩
section
variable {X : Cx} {C : Cs} {env : Gh → List Sl} {a b : Expr} {pos p : Pos}
theorem xe_lenX {mx : W (List Int)} (hg : Gl X "len") (hm : X.mg "len" = none) (ha : PE X a (tE C env (qX X.K) mx)) (hs : starEach [a] X.env = (false, eval a X.env) :: starEach [] X.env := by rfl) :
    PE X (.Call (.Name "len" p) [a] [] pos) (tE C env qI (mx.bind fun xs => .ret (xs.length : Int))) :=
  pe_imp (pe_callB call_len_seq hg hm PySem.boot_len (pa_cons ha pa_nil hs) (by decide) (by decide) hs (by rfl)) fun σ H Q _ ⟨S, g0, P, F, em, k⟩ => ⟨S, g0, _, F, em, fun xs g1 px v S1 H1 F1 x1 hv => by
    obtain ⟨p, ev, h2⟩ := (qX X.K).mono F1.e1 hv
    exact ⟨p, _, by rw [ev], .inl h2, fun _ => k _ _ px _ S1 H1 F1 x1 (by rw [List.length_map]; rfl)⟩⟩
theorem xe_ixX {mx : W (List Int)} {mi : W Int} (ha : PE X a (tE C env (qX X.K) mx)) (hb : PE X b (tE C env qI mi)) (hs : PlainIx b := by intro _ _; rfl) : PE X (.Subscript a b pos) (tE C env qI (mx.bind fun xs => mi.bind fun i => ofO (L2.atI xs i))) :=
  pe_imp (pe_ix ix_list ha hb hs) fun σ H Q _ ⟨S, g0, P, F, em, k⟩ => ⟨S, g0, _, F, em, fun xs g1 hx v S1 H1 F1 x1 hv => ⟨S1, g1, _, F1, hx, fun i g2 ⟨z, ez, pz⟩ y S2 H2 F2 x2 hy => by
    have hy : y = .int i := hy
    subst hy
    obtain ⟨p, ev, h2⟩ := (qX X.K).mono (x2.trans F2.e1) hv
    obtain ⟨u, eu, hu⟩ := (All2.of_map (f := V.int) xs).atI ez
    exact ⟨p, _, i, u, ev, rfl, h2, eu, fun _ => k _ _ pz u S2 H2 F2 (x1.trans x2) hu⟩⟩⟩
end

/-! ### the law -/
/-- a def that the text has written -/
def Dfn (K : PySem.W.Frag) (x : Str) (st : Stmt) (f : Addr) : Prop := ∃ fd, Fun K x x st f fd
theorem law_end {K : PySem.W.Frag} {m : List Int × Unit → W Bool} (hm : ∀ ns : List Int, ns.length ≤ 63 → m (ns, ()) [] (fun b _ => b = true)) (H : Hp) (a : Addr) (ns : List Int) (hl : ns.length ≤ 63) (hS : SqL K H a (ns.map V.int)) :
    SpW (pC (qX K) p0).ra qB m [.ref a] H (fun v _ => v = .bl true) fun _ _ _ => False :=
  ⟨H, (ns, ()), _, Ex.refl H, (fun b vs e z => by rw [e] at z; cases z), ⟨.ref a, [], rfl, ⟨a, rfl, hS⟩, rfl⟩, hm ns hl, fun o g ho v S' H' _ _ _ _ _ hv => by
    have hv : v = .bl o := hv
    rw [hv, ho]⟩
end Rt

set_option maxRecDepth 100000
set_option maxHeartbeats 4000000
/-! RtS: sorted(a list of tuples of ints), of any length. -/
namespace Rt
open PySem L2 PyProof.Rows
section
variable {prog : Program} {w : World} {A : Around} {s : Shared}
theorem kat_ints : ∀ {vs ws : List Value} {ns ms : List Int} (i : Nat) {fin : Bool}, IntsAre vs ns → IntsAre ws ms → fin = decide (ns.length < ms.length) → PySem.W.KatLex prog w A true fin (fun r s' => s' = s ∧ r = HT.lexLt ns ms) (vs.zip ws) i s
  | _, _, _, _, i, fin, .nil, .nil, hf => by
    rw [List.zip_nil_left]
    refine PySem.W.kat_nil ⟨rfl, ?_⟩
    rw [hf, HT.lexLt_nil_nil]
    rfl
  | _, _, _, _, i, fin, .nil, .cons y u t, hf => by
    rw [List.zip_nil_left]
    refine PySem.W.kat_nil ⟨rfl, ?_⟩
    rw [hf, HT.lexLt_nil_cons]
    simp
  | _, _, _, _, i, fin, .cons x u t, .nil, hf => by
    rw [List.zip_nil_right]
    refine PySem.W.kat_nil ⟨rfl, ?_⟩
    rw [hf, HT.lexLt_cons_nil]
    simp
  | _, _, _, _, i, fin, .cons x u t, .cons y v t', hf => by
    rw [List.zip_cons_cons, HT.lexLt_cons]
    refine PySem.W.kat_cons (SeqAt.EqAt.int_int x u y v prog w _ _ ?_)
    refine PySem.W.kat_go (fun e1 => ?_) (fun e1 => ?_)
    · have ex : x = y := by simpa using e1
      rw [if_pos ex]
      refine PySem.W.kat_yes (kat_ints (i + 1) t t' ?_)
      rw [hf]
      simp
    · have ex : ¬ x = y := by simpa using e1
      rw [if_neg ex]
      refine PySem.W.kat_no ?_
      cases i with
      | zero => exact oneLt_int ⟨rfl, rfl⟩
      | succ i => exact PySem.W.kat_one _ _ (PyProof.Rows.lt_int ⟨rfl, rfl⟩)
theorem tups_cmp {vs : List Value} {k : Value → List Int} (hp : ∀ v ∈ vs, TS.TupInts s.heap v (k v)) : SrtO.Cmp prog w A s (tuples' true) (fun p => p.1 ∈ vs) (SrtO.lt2 fun v u => HT.lexLt (k v) (k u)) := by
  intro p q hm hm'
  have h1 := hp _ hm
  have h2 := hp _ hm'
  show wpAny (model prog w) A (keyLt' (tuples' true) p.1 q.1) (fun r s' => s' = s ∧ r = HT.lexLt (k p.1) (k q.1)) (fun _ _ => False) s
  generalize k p.1 = ns at h1 ⊢
  generalize k q.1 = ms at h2 ⊢
  obtain ⟨a, its, e, ⟨o, ho, hc, n, hd⟩, hi⟩ := h1
  obtain ⟨a', its', e', ⟨o', ho', hc', n', hd'⟩, hi'⟩ := h2
  rw [e, e']
  refine PySem.W.kat_lt ho hd ho' hd' (kat_ints 0 hi hi' ?_)
  rw [← hi.length, ← hi'.length]
  simp
theorem katTups_of : ∀ {vs : List Value} {k : Value → List Int}, (∀ v ∈ vs, TS.TupInts s.heap v (k v) ∧ k v ≠ []) → ∃ fs, PySem.W.KatTups s.heap vs fs ∧ fs.length = vs.length ∧ ∀ f ∈ fs, ∃ (x : Int) (t : Tok), f = Value.int x t
  | [], k, _ => ⟨[], PySem.W.KatTups.nil, rfl, fun f hf => absurd hf (by simp)⟩
  | v :: vs, k, h => by
    obtain ⟨fs, h1, h2, h3⟩ := katTups_of (vs := vs) fun u hu => h u (List.mem_cons_of_mem _ hu)
    obtain ⟨⟨a, its, e, ⟨o, ho, hc, n, hd⟩, hi⟩, hne⟩ := h v List.mem_cons_self
    subst e
    obtain ⟨x, t, hx⟩ : ∃ x t, its[0]? = some (Value.int x t) := by
      generalize hl : its.toList = l at hi
      generalize k (.ref a) = ns at hi hne
      cases hi with
      | nil => exact absurd rfl hne
      | cons x t _ =>
        refine ⟨x, t, ?_⟩
        rw [← Array.getElem?_toList, hl]
        rfl
    refine ⟨_ :: fs, PySem.W.KatTups.cons ho hc hd hx h1, by simp [h2], fun f hf => ?_⟩
    rcases List.mem_cons.mp hf with e | hf
    · exact ⟨x, t, e⟩
    · exact h3 f hf
theorem tups_sortableO {a : Addr} {vs : List Value} {k : Value → List Int} (h0 : 0 < vs.length) (hp : ∀ v ∈ vs, TS.TupInts s.heap v (k v) ∧ k v ≠ []) (ha : ∀ o, s.heap.get? a = some o → o.cls ≠ .type "tuple") : SrtO.SortableO prog w A s a vs fun v u => HT.lexLt (k v) (k u) := by
  intro h' keep
  have hp' : ∀ v ∈ vs, TS.TupInts h' v (k v) ∧ k v ≠ [] := fun v hm => ⟨(hp v hm).1.keeps fun b o e c => keep b o (fun z => by subst z; exact ha o e c) e, (hp v hm).2⟩
  obtain ⟨fs, h1, h2, h3⟩ := katTups_of (s := { s with heap := h' }) hp'
  refine ⟨tuples' true, fun Q E hq => ?_, tups_cmp (s := { s with heap := h' }) fun v hm => (hp' v hm).1⟩
  refine PySem.W.kat_kind (T := .type "int") h1 (by omega) (fun f hm => ?_) (by rfl) ?_
  · obtain ⟨x, t, rfl⟩ := h3 f hm
    exact PySem.W.Looks.now
  · have e : (Value.type "int" != Value.type "tuple") = true := by first | decide +kernel | rfl | decide
    rw [e]
    exact hq
theorem sorted_tupsO {l : Addr} {vs : List Value} {k : Value → List Int} {E : Value → Shared → Prop} {Q : Value → Shared → Prop} (hl : s.heap.IsList l vs.toArray) (hz : vs.length ≤ sizeLine) (hp : 2 ≤ vs.length → ∀ v ∈ vs, TS.TupInts s.heap v (k v) ∧ k v ≠ [])
    (h : ∀ out : List Value, SrtO.Srtd (fun v u => HT.lexLt (k v) (k u)) out → SrtO.Stb (fun v u => HT.lexLt (k v) (k u)) out vs → Q (.ref (s.heap.objs.size + 1)) { s with heap := sortedAll s.heap vs out.toArray }) :
    wpAny (model prog w) A (call (.builtin "sorted") [.ref l]) Q E s := by
  refine SrtO.sorted_ord (NtL.swo_lexL k) hl hz (fun h2 h₁ a ha kk => ?_) h
  refine tups_sortableO (s := { s with heap := h₁ }) (by omega) (fun v hm => ⟨(hp h2 v hm).1.keeps fun b o e _ => (kk b o e).2, (hp h2 v hm).2⟩) fun o e => ?_
  have e' : some o = some (seqObj "list" vs.toArray 0) := e.symm.trans ha
  cases e'
  intro c
  exact absurd (Value.type.inj c) (by decide)
end
/-! ### the data -/
def insX (x : List Int) : List (List Int) → List (List Int)
  | [] => [x]
  | y :: ys => if HT.lexLt y x = true then y :: insX x ys else x :: y :: ys
def sortX : List (List Int) → List (List Int)
  | [] => []
  | x :: xs => insX x (sortX xs)
theorem insX_perm (x : List Int) : ∀ ys, (insX x ys).Perm (x :: ys)
  | [] => .refl _
  | y :: ys => by
    unfold insX
    split
    · exact ((insX_perm x ys).cons y).trans (.swap x y ys)
    · exact .refl _
theorem sortX_perm : ∀ xs, (sortX xs).Perm xs
  | [] => .refl _
  | x :: xs => (insX_perm x (sortX xs)).trans ((sortX_perm xs).cons x)
def LeX (x y : List Int) : Prop := HT.lexLt y x = false
theorem LeX.trans {x y z : List Int} (a : LeX x y) (b : LeX y z) : LeX x z := NtL.lex_tr x y z a b
theorem lex_anti : ∀ {x y : List Int}, LeX x y → LeX y x → x = y
  | [], [], _, _ => rfl
  | [], y :: ys, h, h2 => by
    unfold LeX at h2
    rw [HT.lexLt_nil_cons] at h2
    cases h2
  | x :: xs, [], h, h2 => by
    unfold LeX at h
    rw [HT.lexLt_nil_cons] at h
    cases h
  | x :: xs, y :: ys, h, h2 => by
    unfold LeX at h h2
    rw [HT.lexLt_cons] at h h2
    by_cases e : x = y
    · subst e
      rw [if_pos rfl] at h h2
      rw [lex_anti (x := xs) (y := ys) h h2]
    · rw [if_neg e] at h2
      rw [if_neg (Ne.symm e)] at h
      have a := of_decide_eq_false h
      have b := of_decide_eq_false h2
      omega
theorem insX_sorted (x : List Int) : ∀ ys : List (List Int), ys.Pairwise LeX → (insX x ys).Pairwise LeX
  | [], _ => by simp [insX]
  | y :: ys, h => by
    unfold insX
    have h' := List.pairwise_cons.mp h
    split
    · rename_i hxy
      refine List.pairwise_cons.mpr ⟨fun z hz => ?_, insX_sorted x ys h'.2⟩
      rcases List.mem_cons.mp ((insX_perm x ys).mem_iff.mp hz) with e | hz
      · rw [e]
        exact NtL.lex_asym _ _ hxy
      · exact h'.1 z hz
    · rename_i hxy
      have hxy : LeX x y := by
        unfold LeX
        simpa using hxy
      refine List.pairwise_cons.mpr ⟨fun z hz => ?_, h⟩
      rcases List.mem_cons.mp hz with e | hz
      · rw [e]; exact hxy
      · exact hxy.trans (h'.1 z hz)
theorem sortX_sorted : ∀ xs : List (List Int), (sortX xs).Pairwise LeX
  | [] => .nil
  | x :: xs => insX_sorted x _ (sortX_sorted xs)
theorem sortedX_unique : ∀ {xs ys : List (List Int)}, xs.Perm ys → xs.Pairwise LeX → ys.Pairwise LeX → xs = ys
  | [], ys, h, _, _ => (List.Perm.nil_eq h)
  | x :: xs, [], h, _, _ => absurd h.length_eq (by simp)
  | x :: xs, y :: ys, h, h1, h2 => by
    have a1 := List.pairwise_cons.mp h1
    have a2 := List.pairwise_cons.mp h2
    have rf : ∀ z : List Int, LeX z z := fun z => by
      have := (NtL.swo_lexL (α := List Int) id).refl z
      exact this
    have e : x = y := by
      have m1 : x ∈ y :: ys := h.mem_iff.mp List.mem_cons_self
      have m2 : y ∈ x :: xs := h.mem_iff.mpr List.mem_cons_self
      have l1 : LeX y x := by
        rcases List.mem_cons.mp m1 with e | m
        · rw [e]; exact rf y
        · exact a2.1 x m
      have l2 : LeX x y := by
        rcases List.mem_cons.mp m2 with e | m
        · rw [e]; exact rf x
        · exact a1.1 y m
      exact lex_anti l2 l1
    subst e
    rw [sortedX_unique (List.Perm.cons_inv h) a1.2 a2.2]
theorem All2.memL {α β : Type} {R : α → β → Prop} : ∀ {as : List α} {bs : List β} {a : α}, All2 R as bs → a ∈ as → ∃ b, b ∈ bs ∧ R a b
  | a :: as, b :: bs, x, ⟨h, t⟩, m => by
    rcases List.mem_cons.mp m with e | m
    · exact ⟨b, List.mem_cons_self, e ▸ h⟩
    · obtain ⟨c, h1, h2⟩ := All2.memL t m
      exact ⟨c, List.mem_cons_of_mem _ h1, h2⟩
  | [], _, _, _, m => absurd m (by simp)
  | _ :: _, [], _, z, _ => z.elim
theorem All2.of_fn {α β : Type} {R : α → β → Prop} {f : α → β} : ∀ {as : List α}, (∀ a ∈ as, R a (f a)) → All2 R as (as.map f)
  | [], _ => True.intro
  | a :: as, h => ⟨h a List.mem_cons_self, All2.of_fn fun b hb => h b (List.mem_cons_of_mem _ hb)⟩
theorem All2.fn {α β : Type} {R : α → β → Prop} {f : α → β} (hf : ∀ a b, R a b → f a = b) : ∀ {as : List α} {bs : List β}, All2 R as bs → as.map f = bs
  | [], [], _ => rfl
  | a :: as, b :: bs, ⟨h, t⟩ => by rw [List.map_cons, hf a b h, All2.fn hf t]
  | [], _ :: _, z => z.elim
  | _ :: _, [], z => z.elim
def rSortTT (K : PySem.W.Frag) : List V → Hp → VK → Prop := fun vs H Q => ∃ (a : Addr) (xs : List V) (nss : List (List Int)) (R : V → List Int → Prop), vs = [V.ref a] ∧ SqL K H a xs ∧ All2 R xs nss ∧ (∀ x n, R x n → TupI K H x n) ∧ (2 ≤ nss.length → ∀ n ∈ nss, n ≠ []) ∧
  ∀ (ys : List V) (p : Addr), H p = none → All2 R ys (sortX nss) → Q (.ref p) (upd H p (.lst ys))
section
variable {X : Cx} {pins : List (Addr × Obj)} {σ : L2.St} {H : Hp} {s : Shared}
theorem bkv_back {t : Addr} : bkV (.ref t) = V.ref t := rfl
theorem cr_sortTT : CallR X (.builtin "sorted") (rSortTT X.K) := by
  intro pins s σ H vs us Q I r h
  obtain ⟨a, xs, nss, R, rfl, hs, hR, hT, hne, q⟩ := h
  obtain ⟨its, rv, hl, hz⟩ := I.list hs
  rw [Vals.ref1 r]
  obtain ⟨e1, e2⟩ := bkV_refs rv fun x m => by
    obtain ⟨n, _, h⟩ := hR.memL m
    obtain ⟨t, e, _⟩ := hT x n h
    exact ⟨t, e⟩
  -- what stands at an item
  have at_ : ∀ v ∈ its, ∃ n, n ∈ nss ∧ R (bkV v) n ∧ TS.TupInts s.heap v n := fun v hv => by
    obtain ⟨t, rfl⟩ := e2 v hv
    have hm : V.ref t ∈ xs := by
      rw [e1]
      exact List.mem_map.mpr ⟨_, hv, rfl⟩
    obtain ⟨n, hn, h⟩ := hR.memL hm
    obtain ⟨t', e, ht⟩ := hT _ n h
    cases e
    exact ⟨n, hn, h, tupI_raw I ht⟩
  have lens : its.length = nss.length := by rw [← rv.length, hR.length]
  have eN : its.map (TS.intsOf s.heap) = nss := by
    have e : xs.map (fun x => TS.intsOf s.heap (match x with | .ref t => .ref t | _ => .none)) = nss := All2.fn (fun x n h => by
      obtain ⟨t, rfl, ht⟩ := hT x n h
      exact (tupI_raw I ht).ints) hR
    rw [e1, List.map_map] at e
    rw [← e]
    refine List.map_congr_left fun v hv => ?_
    obtain ⟨t, rfl⟩ := e2 v hv
    rfl
  refine sorted_tupsO (k := TS.intsOf s.heap) hl.isList (by rw [← rv.length]; exact hz) (fun h2 v hv => ?_) fun out h1 h2 => ?_
  · obtain ⟨n, hn, _, ht⟩ := at_ v hv
    rw [ht.ints]
    exact ⟨ht, hne (by omega) n hn⟩
  · have hp := h2.perm
    have h3 : ∀ u ∈ out, ∃ a, u = Value.ref a := fun u hu => e2 u (hp.mem_iff.mp hu)
    obtain ⟨ep, he'⟩ := PyProof.Rows.sortedAll_at s.heap its out.toArray
    have eo : out.map (TS.intsOf s.heap) = sortX nss := by
      refine sortedX_unique ?_ (List.pairwise_map.mpr h1) (sortX_sorted _)
      have p1 := hp.map (TS.intsOf s.heap)
      rw [eN] at p1
      exact p1.trans (sortX_perm nss).symm
    have hlen : (out.map bkV).length ≤ sizeLine := by
      rw [List.length_map, hp.length_eq, ← rv.length]
      exact hz
    refine ⟨.ref _, upd H (s.heap.objs.size + 1) (.lst (out.map bkV)), I.laid (t' := s.toks) (fun _ _ => PyProof.Rows.sortedAll_old) (Nat.le_succ _) ⟨hlen, out, ep, bkV_vals h3, by simpa using he'⟩, rfl, q _ _ (I.hok.fresh (Nat.le_succ _)) ?_⟩
    rw [← eo]
    have key : ∀ l : List Value, (∀ u ∈ l, u ∈ its) → All2 R (l.map bkV) (l.map (TS.intsOf s.heap)) := by
      intro l
      induction l with
      | nil => intro _; exact True.intro
      | cons u l ih =>
        intro hu
        obtain ⟨n, _, hr, ht⟩ := at_ u (hu u List.mem_cons_self)
        refine ⟨?_, ih fun w hw => hu w (List.mem_cons_of_mem _ hw)⟩
        rw [ht.ints]
        exact hr
    exact key out fun u hu => hp.mem_iff.mp hu
end
def sortTT (xs : List (List Int)) : Option (List (List Int)) := if (xs.length < 2 || xs.all fun n => !n.isEmpty) = true then some (sortX xs) else none
section
variable {X : Cx} {C : Cs} {env : Gh → List Sl} {a : Expr} {pos p : Pos}
theorem tupI_of {K : PySem.W.Frag} {S H : Hp} {v : V} {n : List Int} (e : Ex S H) (h : (qT qI).p S v n) : TupI K H v n := by
  obtain ⟨t, vs, ev, hp, ha⟩ := h
  have : vs = n.map V.int := flat_ints ha
  subst this
  exact ⟨t, ev, TupAt.sq (TupAt.mono e hp)⟩
theorem xn_sortedTT {mx : W (List (List Int))} (hg : Gl X "sorted") (hm : X.mg "sorted" = none) (ha : PE X a (tQ C env true (qT qI) mx)) (hs : starEach [a] X.env = (false, eval a X.env) :: starEach [] X.env := by rfl) :
    PE X (.Call (.Name "sorted" p) [a] [] pos) (tN C env (qT qI) (mx.bind fun xs => ofO (sortTT xs))) :=
  pe_imp (pe_callB cr_sortTT hg hm (by decide +kernel) (pa_cons ha pa_nil hs) (by decide) (by decide) hs (by rfl)) fun σ H Q _ ⟨S, g0, P, F, em, kk⟩ => ⟨S, g0, _, F, em, fun xs g1 ⟨z, ez, pz⟩ p S1 H1 F1 x1 rd => by
    obtain ⟨vs, hp, h2⟩ := rd _ S1 H1 F1 (Ex.refl S1)
    unfold sortTT at ez
    split at ez
    · rename_i hc
      cases ez
      refine ⟨p, vs, xs, fun x n => (qT qI).p S1 x n, rfl, SqL.of hp, h2, fun x n h => tupI_of F1.e1 h, fun h n hn e => ?_, fun ys l hl hy _ => kk _ _ pz l ys S1 H1 F1 x1 hl hy⟩
      rw [Bool.or_eq_true] at hc
      rcases hc with hc | hc
      · have := of_decide_eq_true hc
        omega
      · have := List.all_eq_true.mp hc n hn
        rw [e] at this
        simp at this
    · cases ez⟩
end
end Rt

set_option maxRecDepth 100000
set_option maxHeartbeats 4000000
/-! RtM: lists by their places, ranges as lists, [x] * n, pop, t[::-1], sorted with reverse. -/
namespace HT
open PySem PyProof.Rows
section
variable {prog : Program} {w : World} {A : Around} {E : Value → Shared → Prop} {s : Shared}
theorem sliceApplied_rev {sl : Addr} {vl vu vs : Value} {n : Nat} {Q : Int × Int × Nat → Shared → Prop} (hs : s.heap.IsSliceOf sl vl vu vs) (pl : IsPart vl none) (pu : IsPart vu none) (ps : IsPart vs (some (-1)))
    (h : Q ((n : Int) - 1, -1, n) s) : wpAny (model prog w) A (Builtin.Slice.sliceApplied (.ref sl) (pure (n : Int))) Q E s := by
  obtain ⟨os, hos, hcs, hds⟩ := id hs
  unfold Builtin.Slice.sliceApplied Builtin.Slice.sliceFields
  refine wpAny_bind (wpAny_bind (wpAny_field hos hds (x := vl) rfl (wpAny_bind (wpAny_field hos hds (x := vu) rfl (wpAny_bind (wpAny_field hos hds (x := vs) rfl (wpAny_pure ?_)))))))
  refine wpAny_bind (slicePart_ ps ?_)
  show wpAny _ _ (if ((-1 : Int) == 0) = true then _ else _) _ _ s
  rw [if_neg (by decide)]
  refine wpAny_bind (slicePart_ pl (wpAny_bind (slicePart_ pu (wpAny_bind (wpAny_pure ?_)))))
  show wpAny _ _ (match Builtin.Slice.sliceAdjust none none (-1) (n : Int) with | (lo, hi) => pure (lo, (-1 : Int), Builtin.Slice.slicePlaces lo hi (-1))) _ _ s
  have e : Builtin.Slice.sliceAdjust none none (-1) (n : Int) = ((n : Int) - 1, -1) := by
    simp [Builtin.Slice.sliceAdjust]
  rw [e]
  show wpAny _ _ (pure ((n : Int) - 1, (-1 : Int), Builtin.Slice.slicePlaces ((n : Int) - 1) (-1) (-1))) _ _ s
  have e2 : Builtin.Slice.slicePlaces ((n : Int) - 1) (-1) (-1) = n := by
    unfold Builtin.Slice.slicePlaces
    simp
    try omega
  rw [e2]
  exact wpAny_pure h
end
end HT
namespace HT
open PySem PyProof.Rows
section
variable {prog : Program} {w : World} {A : Around} {E : Value → Shared → Prop} {s : Shared}
theorem filterMap_some {α β : Type} {f : α → Option β} {g : α → β} : ∀ {l : List α}, (∀ x ∈ l, f x = some (g x)) → l.filterMap f = l.map g
  | [], _ => rfl
  | x :: l, h => by
    rw [List.filterMap_cons, h x List.mem_cons_self, List.map_cons]
    exact congrArg _ (filterMap_some fun y hy => h y (List.mem_cons_of_mem _ hy))
theorem pick_rev (xs : Array Value) : ((List.range xs.size).filterMap fun (m : Nat) => xs[(((xs.size : Int) - 1) + (m : Int) * (-1)).toNat]?).toArray = xs.toList.reverse.toArray := by
  congr 1
  refine List.ext_getElem? fun i => ?_
  have e : (List.range xs.size).filterMap (fun (m : Nat) => xs[(((xs.size : Int) - 1) + (m : Int) * (-1)).toNat]?) = (List.range xs.size).map fun m => xs.toList.reverse.getD m .none := by
    refine filterMap_some fun m hm => ?_
    have hm := List.mem_range.mp hm
    have h1 : (((xs.size : Int) - 1) + (m : Int) * (-1)).toNat = xs.size - 1 - m := by omega
    have h2 : xs.size - 1 - m < xs.size := by omega
    rw [h1, Array.getElem?_eq_getElem h2]
    simp [List.getElem?_reverse, hm, h2]
  rw [e, List.getElem?_map]
  by_cases hi : i < xs.size
  · rw [List.getElem?_range hi]
    simp [hi]
  · have h1 : (List.range xs.size)[i]? = none := by simp; omega
    have h2 : xs.toList.reverse[i]? = none := by simp; omega
    rw [h1, h2]
    rfl
theorem getItem_tuple_rev {t sl : Addr} {items : Array Value} {vl vu vs : Value} {Q : Value → Shared → Prop} (ht : IsTup s.heap t items) (hs : s.heap.IsSliceOf sl vl vu vs) (pl : IsPart vl none) (pu : IsPart vu none) (ps : IsPart vs (some (-1)))
    (h : Q (.ref s.heap.objs.size) { s with heap := s.heap.push { cls := .type "tuple", data := .seq items.toList.reverse.toArray } })
    (hsz : items.size ≤ sizeLine) : wpAny (model prog w) A (getItem (.ref t) (.ref sl)) Q E s := by
  have htake : sizeOk (.seq items.toList.reverse.toArray) := by
    show items.toList.reverse.toArray.size ≤ sizeLine
    simpa using hsz
  obtain ⟨os, hos, hcs, hds⟩ := id hs
  have hTs : s.TypeIs (.ref sl) "slice" := ⟨os, hos, hcs⟩
  unfold getItem
  try with_reducible refine wpAny_holding ?_
  first | refine wpAny_bind (wpAny_pure ?_) | skip
  refine wpAny_bind (wpAny_sequenceKey ht.typeIs (by decide) ?_)
  refine wpAny_bind (wpAny_callSpecial?_slot (name := Str.ofString "__getitem__") ht.typeIs PyProof.Rows.slot_tuple_getitem
    (wpAny_call_entry PyProof.Rows.slot_tuple_getitem ht.typeIs entry_tuple_getitem ?_ (args_tuple_getitem _ _)))
  show wpAny _ _ (Builtin.Tuple.tupleItemsOf (.ref t) >>= _) _ _ s
  refine wpAny_bind (tupleItemsOf_ ht ?_)
  refine wpAny_bind (wpAny_typeOf hTs ?_)
  rw [if_pos (by decide)]
  refine wpAny_bind (sliceApplied_rev hs pl pu ps ?_)
  have hno : ¬ (((((items.size : Int) - 1) == 0) && (-1 : Int) == 1 && items.size == items.size) = true) := by simp
  show wpAny _ _ (if ((((items.size : Int) - 1) == 0) && (-1 : Int) == 1 && items.size == items.size) = true then _ else _) _ _ s
  rw [if_neg hno, pick_rev]
  first
    | exact wpAny_bind (m := Builtin.Tuple.tupleExact _) (wpAny_newObj_type (wpAny_pure ⟨_, rfl, wpAny_pure h⟩) htake)
    | exact wpAny_bind (m := Builtin.Tuple.tupleExact _) (wpAny_newObj_type (wpAny_bind (wpAny_pure (wpAny_pure ⟨_, rfl, wpAny_pure h⟩))) htake)
    | exact wpAny_bind (wpAny_bind (m := Builtin.Tuple.tupleExact _) (wpAny_newObj_type (wpAny_pure (wpAny_pure ⟨_, rfl, wpAny_pure h⟩)) htake))
    | exact wpAny_bind (wpAny_bind (m := Builtin.Tuple.tupleExact _) (wpAny_newObj_type (wpAny_pure ⟨_, rfl, wpAny_pure h⟩) htake))
end
end HT
namespace L2
open PySem PySem.Spec PyProof.Rows
section
variable {X : Cx}
def tRevT (K : PySem.W.Frag) (te : TE) : TE := fun σ H Q => te σ H fun x H1 => ∃ a xs, x = .ref a ∧ SqT K H1 a xs ∧ RtU.NewT Q H1 xs.reverse
theorem pe_revT {e : Expr} {te : TE} {k : Nat} {p1 p2 p3 pos : Pos} (he : PE X e te) : PE X (.Subscript e (.Slice none none (some (.UnaryOp .USub (.Constant (.int 1) k p1) p2)) p3) pos) (tRevT X.K te) := by
  refine ⟨fun pins s σ H Q I h => ?_⟩
  refine Subscript_ (thn (he.run pins s σ H _ I h) fun v s1 ⟨x, H1, I1, r1, q1⟩ => ?_)
  obtain ⟨a, xs, ex, hx, q⟩ := q1
  subst ex
  cases r1
  have hst : PO X (some (.UnaryOp .USub (.Constant (.int 1) k p1) p2)) (tPart (tUn (rU fun i => .int (-i)) (tC (.int 1)))) := po_some (pe_un un_neg pe_int)
  refine wpAny_Slice (thn (po_none.run pins s1 σ H1 (fun o H2 => o = none ∧ H2 = H1) I1 ⟨rfl, rfl⟩) fun vl s2 ⟨l, H2, I2, pl, el, e2⟩ => ?_)
  subst el e2
  refine thn (po_none.run pins s2 σ H2 (fun o H3 => o = none ∧ H3 = H2) I2 ⟨rfl, rfl⟩) fun vu s3 ⟨u, H3, I3, pu, eu, e3⟩ => ?_
  subst eu e3
  refine thn (hst.run pins s3 σ H3 (fun o H4 => o = some (-1) ∧ H4 = H3) I3 ⟨1, rfl, -1, rfl, rfl, rfl⟩) fun vs s4 ⟨o, H4, I4, ps, eo, e4⟩ => ?_
  subst eo e4
  have I5 : Inv X pins σ H4 { s4 with heap := s4.heap.push { cls := .type "slice", data := .fields #[vl, vu, vs] } } := I4.kept (t' := s4.toks) fun b ob q => Heap.get?_push_of_some _ q
  obtain ⟨its, r, ht, hz⟩ := I5.tuple hx
  have hlen := r.length
  show wpAny (model X.prog X.w) X.A (subscriptTail e (.Slice none none (some (.UnaryOp .USub (.Constant (.int 1) k p1) p2)) p3) (.ref a) (.ref s4.heap.objs.size)) (EP X pins σ Q) X.xe { s4 with heap := s4.heap.push { cls := .type "slice", data := .fields #[vl, vu, vs] } }
  refine tail_any (ops := [.ref a, .ref s4.heap.objs.size]) ht.typeIs (PyProof.Rows.slot_tuple_getitem.lookup) ?_ (by with_unfolding_all rfl)
  refine HT.getItem_tuple_rev ht (Heap.IsSliceOf.new _ vl vu vs) pl pu ps ?_ (by rw [List.size_toArray]; omega)
  have key : ∀ {xs : List V} {us : List Value}, Vals xs us → Vals xs.reverse us.reverse := by
    intro xs
    induction xs with
    | nil => intro us h; cases h; exact .nil
    | cons x xs ih => intro us h; cases h with | cons a b => rw [List.reverse_cons, List.reverse_cons]; exact (ih b).append (.cons a .nil)
  obtain ⟨I6, hf⟩ := RtU.laidU (s := s4) (n := 0) (h' := s4.heap.push { cls := .type "slice", data := .fields #[vl, vu, vs] }) (tk := s4.toks) I5 (key r) (by rw [List.length_reverse]; exact hz)
  exact ⟨.ref _, _, I6, rfl, q _ _ rfl hf⟩
end
end L2

set_option maxRecDepth 100000
set_option maxHeartbeats 4000000
/-! RtN: the same, as data. -/
namespace Rt
open PySem L2
section
variable {X : Cx} {C : Cs} {env kp : Gh → List Sl} {e a b c a2 b2 : Expr} {es : List Expr} {A B rest : List Stmt} {pos p px : Pos} {α β γ δ ρ : Type} {r : Rp ρ} {ra re : Rp α} {rb : Rp δ} {mi mj : W Int} {pn : β → Gh → List Sl} {pl : γ → Gh → List Sl} {i j : Nat}
/-- t[::-1] -/
theorem xe_revT {k : Nat} {p1 p2 p3 : Pos} {mx : W (List α)} (ha : PE X a (tE C env (qT ra) mx)) : PE X (.Subscript a (.Slice none none (some (.UnaryOp .USub (.Constant (.int 1) k p1) p2)) p3) pos) (tE C env (qT ra) (mx.bind fun xs => .ret xs.reverse)) :=
  pe_imp (pe_revT ha) fun σ H Q _ ⟨S, g0, P, F, em, kk⟩ => ⟨S, g0, _, F, em, fun xs g1 px v S1 H1 F1 x1 ⟨p, vs, ev, hp, h2⟩ => ⟨p, vs, ev, TupAt.sq (TupAt.mono F1.e1 hp), fun t o ho ht _ => by
    have ex := Ex.new (o := .frz o (.tup vs.reverse)) (F1.e1.back ht)
    exact kk _ _ px _ _ _ (F1.new ht) (x1.trans ex) ⟨t, _, rfl, TupAt.new ho, (h2.mono fun _ _ z => ra.mono ex z).reverse⟩⟩⟩
/-- list(range(..)), tuple(range(..)) -/
theorem rgV_ints (a b : Int) : rgV a b = (irange a b).map V.int := by
  unfold rgV irange
  rw [List.map_map]
  rfl
theorem rgOk_of {i j : Int} {xs : List Int} (h : rngC i j = some xs) : RgOk i j ∧ rgV i j = xs.map V.int := by
  obtain ⟨rfl, h1, h2, h3, h4⟩ := rngC_some h
  exact ⟨⟨by omega, by omega, by omega, by omega, by omega⟩, rgV_ints i j⟩
theorem xn_listRg1 {p1 p2 : Pos} (hc : X.calm = true) (hg : Gl X "list") (hm : X.mg "list" = none) (hg2 : Gl X "range") (hm2 : X.mg "range" = none) (ha : PE X a (tE C env qI mi)) (na : starEach [a] X.env = (false, eval a X.env) :: starEach [] X.env := by rfl)
    (nb : starEach [.Call (.Name "range" p2) [a] [] p1] X.env = (false, eval (.Call (.Name "range" p2) [a] [] p1) X.env) :: starEach [] X.env := by rfl) : PE X (.Call (.Name "list" p) [.Call (.Name "range" p2) [a] [] p1] [] pos) (tN C env qI (mi.bind fun i => ofO (rngC 0 i))) :=
  pe_imp (pe_listRg hc hg hm (prg_1 hg2 hm2 ha na) nb) fun σ H Q _ ⟨S, g0, P, F, em, kk⟩ => ⟨S, g0, _, F, em, fun i g1 ⟨z, ez, pz⟩ v S1 H1 F1 x1 hv => by
    obtain ⟨h1, h2⟩ := rgOk_of ez
    exact ⟨i, hv, h1, fun q hq _ => kk _ _ pz q _ S1 H1 F1 x1 hq (by rw [h2]; exact All2.of_map _)⟩⟩
theorem xn_listRg2 {p1 p2 : Pos} (hc : X.calm = true) (hg : Gl X "list") (hm : X.mg "list" = none) (hg2 : Gl X "range") (hm2 : X.mg "range" = none) (ha : PE X a (tE C env qI mi)) (hb : PE X b (tE C env qI mj)) (na : starEach [a, b] X.env = (false, eval a X.env) :: starEach [b] X.env := by rfl) (nb0 : starEach [b] X.env = (false, eval b X.env) :: starEach [] X.env := by rfl) (nbp : (backTo p1 (starEach [b] X.env)).any (fun x => x.1) = false := by rfl)
    (nb : starEach [.Call (.Name "range" p2) [a, b] [] p1] X.env = (false, eval (.Call (.Name "range" p2) [a, b] [] p1) X.env) :: starEach [] X.env := by rfl) : PE X (.Call (.Name "list" p) [.Call (.Name "range" p2) [a, b] [] p1] [] pos) (tN C env qI (mi.bind fun i => mj.bind fun j => ofO (rngC i j))) :=
  pe_imp (pe_listRg hc hg hm (prg_2 hg2 hm2 ha hb na nb0 nbp) nb) fun σ H Q _ ⟨S, g0, P, F, em, kk⟩ => ⟨S, g0, _, F, em, fun i g1 hi v S1 H1 F1 x1 hv => ⟨S1, g1, _, F1, hi, fun j g2 ⟨z, ez, pz⟩ w S2 H2 F2 x2 hw => by
    obtain ⟨h1, h2⟩ := rgOk_of ez
    exact ⟨i, j, hv, hw, h1, fun q hq _ => kk _ _ pz q _ S2 H2 F2 (x1.trans x2) hq (by rw [h2]; exact All2.of_map _)⟩⟩⟩
theorem xe_tupRg1 {p1 p2 : Pos} (hc : X.calm = true) (hg : Gl X "tuple") (hm : X.mg "tuple" = none) (hg2 : Gl X "range") (hm2 : X.mg "range" = none) (ha : PE X a (tE C env qI mi)) (na : starEach [a] X.env = (false, eval a X.env) :: starEach [] X.env := by rfl)
    (nb : starEach [.Call (.Name "range" p2) [a] [] p1] X.env = (false, eval (.Call (.Name "range" p2) [a] [] p1) X.env) :: starEach [] X.env := by rfl) : PE X (.Call (.Name "tuple" p) [.Call (.Name "range" p2) [a] [] p1] [] pos) (tE C env (qT qI) (mi.bind fun i => ofO (rngC 0 i))) :=
  pe_imp (RtU.pe_tupRgU hc hg hm (prg_1 hg2 hm2 ha na) nb) fun σ H Q _ ⟨S, g0, P, F, em, kk⟩ => ⟨S, g0, _, F, em, fun i g1 ⟨z, ez, pz⟩ v S1 H1 F1 x1 hv => by
    obtain ⟨h1, h2⟩ := rgOk_of ez
    exact ⟨i, hv, h1, fun q o ho hq _ => kk _ _ pz _ _ _ (F1.new (o := .frz o (.tup (rgV 0 i))) hq) (x1.trans (Ex.new (F1.e1.back hq))) ⟨q, _, rfl, TupAt.new ho, by rw [h2]; exact All2.of_map _⟩⟩⟩
/-- [x] * n -/
def repC {α : Type} (xs : List α) (k : Int) : Option (List α) := if k ≤ 1000000 ∧ xs.length ≤ 1 ∧ -1000000 ≤ k then some (List.replicate k.toNat xs).flatten else none
theorem All2.rep {R : V → α → Prop} {vs : List V} {xs : List α} (h : All2 R vs xs) : ∀ n : Nat, All2 R (List.replicate n vs).flatten (List.replicate n xs).flatten
  | 0 => True.intro
  | n + 1 => by
    rw [List.replicate_succ, List.replicate_succ, List.flatten_cons, List.flatten_cons]
    exact h.append (All2.rep h n)
theorem xn_rep {mx : W (List α)} (ha : PE X a (tN C env ra mx)) (hb : ∀ C', PE X b (tE C' env qI mi)) (hE : ∀ g g', Gs (env g) (env g') := by intro _ _; repeat (first | exact Gs.nil | apply Gs.keep | apply Gs.gh)) :
    PE X (.BinOp a .Mult b pos) (tN C env ra (mx.bind fun xs => mi.bind fun k => ofO (repC xs k))) :=
  pe_imp (pe_op op_rep ha (pe_ex hb)) fun σ H Q _ ⟨S, g0, P, F, em, kk⟩ => ⟨S, g0, _, F, em, fun xs g1 px p vs S1 H1 F1 x1 hp hv => by
    have G0 := F1.add hp (o := .lst vs)
    have np : ∀ g, p ∉ owns σ (env g) := fun g z => by
      obtain ⟨_, o, e⟩ := F1.sl.own ((hE g g1).owns σ ▸ z)
      rw [hp] at e
      cases e
    refine ⟨_, S1, g1, _, G0.here, px, fun k g2 ⟨z, ez, pz⟩ y S2 H2 F2 x2 hy => ?_⟩
    have hp2 : H2 p = some (.lst vs) := F2.e2 p _ upd_same (np g1)
    have G2 : Fr C S2 H2 σ (env g2) := G0.backG ((hE g2 g1).owns σ) F2
    unfold repC at ez
    split at ez
    · rename_i h
      cases ez
      have hl := All2.length hv
      have hk : k.toNat ≤ 1000000 := by omega
      have hlen : vs.length * k.toNat ≤ 1 * 1000000 := Nat.mul_le_mul (by omega) hk
      refine ⟨p, k, vs, rfl, hy, hp2, by omega, by omega, by rw [sizeLine_eq]; omega, fun q hq _ => ?_⟩
      exact kk _ _ pz q _ S2 H2 G2 (x1.trans x2) hq ((hv.mono fun _ _ z => ra.mono x2 z).rep _)
    · cases ez⟩
/-- xs[j] = e, xs a list of the def's own -/
def setC {α : Type} (xs : List α) (j : Int) (v : α) : Option (List α) := (ixN xs.length j).map fun n => xs.set n v
theorem xs_oset {x : Str} {ps : Pos} {xs : List α} {mv : W α} {K : List α → W (Fl ρ β γ)} (hv : PE X e (tE C env re mv)) (hd : PE X (.Name x px) (tVar i)) (hb : PE X b (tE C env qI mi)) (hr : ∀ ys, PSs X rest (tF C (fun g => (env g).set i (.ow re ys)) (K ys) pn pl kp r)) (hi : ∀ g, (env g)[i]? = some (.ow re xs) := by intro _; rfl)
    (ha : ∀ v, assign (.Subscript (.Name x px) b ps) X.env v = (do
      let ov ← holding [v] (eval (.Name x px) X.env)
      let iv ← holding [v, ov] (eval b X.env)
      standAt ps
      holding [v, ov, iv] (setItem ov iv v)
      release [v, ov, iv] []) := by intro _; rfl)
    (hs : swapsWithSole [.Subscript (.Name x px) b ps] e pos.line X.env = pure false := by rfl) (hw : swappedStores [.Subscript (.Name x px) b ps] e X.env = pure none := by rfl) (h1 : (assignEach [.Subscript (.Name x px) b ps] X.env).map (·.2) = [assign (.Subscript (.Name x px) b ps) X.env] := by rfl) :
    PSs X (.Assign [.Subscript (.Name x px) b ps] e pos :: rest) (tF C env (mv.bind fun v => mi.bind fun j => (ofO (setC xs j v)).bind K) pn pl kp r) :=
  pss_imp (pss_cons (ps_asg hv (pg_sub hd hb set_list ha) hs hw h1) (pss_ex hr)) fun D σ H _ ⟨S, g0, P, F, em, q⟩ => ⟨S, g0, _, F, em, fun v g1 pv u S1 H1 F1 x1 hu => by
    obtain ⟨w1, ew1, p1, vs1, e1, sp1, hp1, ha1⟩ := F1.sl.get i (hi _)
    subst e1
    refine ⟨.ref p1, ew1, S1, g1, _, F1, pv, fun j g2 ⟨ys, ey, py⟩ y S2 H2 F2 x2 hy => ?_⟩
    obtain ⟨w2, ew2, p2, vs2, e2, sp2, hp2, ha2⟩ := F2.sl.get i (hi _)
    subst e2
    rw [ew1] at ew2
    cases ew2
    unfold setC at ey
    obtain ⟨n, en, rfl⟩ := Option.map_eq_some_iff.mp ey
    refine ⟨p1, vs2, j, n, rfl, hy, hp2, by rw [All2.length ha2]; exact en, xs.set n v, S2, g2, P, ?_, py, fun o g9 po => (q o g9 po).mono (x1.trans x2)⟩
    exact F2.write (hi _) ew1 (ha2.set n (re.mono x2 hu))⟩
/-- xs[a], xs[b] = e -/
theorem xs_set2 {x : Str} {ps ps2 pt : Pos} {px2 : Pos} {kt : Nat} {xs : List α} {mv : W (α × α)} {K : List α → W (Fl ρ β γ)} (hv : PE X e (tE C env (qP re re) mv)) (hc : X.calm = true) (hd : PE X (.Name x px) (tVar i)) (hd2 : PE X (.Name x px2) (tVar i)) (hb : PE X b (tE C env qI mi)) (hb2 : ∀ ys, PE X b2 (tE C (fun g => (env g).set i (.ow re ys)) qI mj))
    (hr : ∀ ys, PSs X rest (tF C (fun g => (env g).set i (.ow re ys)) (K ys) pn pl kp r)) (hi : ∀ g, (env g)[i]? = some (.ow re xs) := by intro _; rfl) (hi2 : ∀ g ys, ((env g).set i (.ow re ys))[i]? = some (.ow re ys) := by intro _ _; rfl)
    (ha : ∀ v, assign (.Subscript (.Name x px) b ps) X.env v = (do
      let ov ← holding [v] (eval (.Name x px) X.env)
      let iv ← holding [v, ov] (eval b X.env)
      standAt ps
      holding [v, ov, iv] (setItem ov iv v)
      release [v, ov, iv] []) := by intro _; rfl)
    (ha2 : ∀ v, assign (.Subscript (.Name x px2) b2 ps2) X.env v = (do
      let ov ← holding [v] (eval (.Name x px2) X.env)
      let iv ← holding [v, ov] (eval b2 X.env)
      standAt ps2
      holding [v, ov, iv] (setItem ov iv v)
      release [v, ov, iv] []) := by intro _; rfl)
    (n1 : (assignEach [.Subscript (.Name x px) b ps, .Subscript (.Name x px2) b2 ps2] X.env).map (·.2) = assign (.Subscript (.Name x px) b ps) X.env :: (assignEach [.Subscript (.Name x px2) b2 ps2] X.env).map (·.2) := by rfl) (n2 : (assignEach [.Subscript (.Name x px2) b2 ps2] X.env).map (·.2) = assign (.Subscript (.Name x px2) b2 ps2) X.env :: (assignEach [] X.env).map (·.2) := by rfl)
    (hn : (assignEach [.Subscript (.Name x px) b ps, .Subscript (.Name x px2) b2 ps2] X.env).length = 2 := by rfl) (hst : (assignEach [.Subscript (.Name x px) b ps, .Subscript (.Name x px2) b2 ps2] X.env).findIdx? (·.1) = none := by rfl)
    (hs : swapsWithSole [.Tuple [.Subscript (.Name x px) b ps, .Subscript (.Name x px2) b2 ps2] kt pt] e pos.line X.env = pure false := by rfl) (hw : swappedStores [.Tuple [.Subscript (.Name x px) b ps, .Subscript (.Name x px2) b2 ps2] kt pt] e X.env = pure none := by rfl)
    (h1 : (assignEach [.Tuple [.Subscript (.Name x px) b ps, .Subscript (.Name x px2) b2 ps2] kt pt] X.env).map (·.2) = [assign (.Tuple [.Subscript (.Name x px) b ps, .Subscript (.Name x px2) b2 ps2] kt pt) X.env] := by rfl) :
    PSs X (.Assign [.Tuple [.Subscript (.Name x px) b ps, .Subscript (.Name x px2) b2 ps2] kt pt] e pos :: rest) (tF C env (mv.bind fun v => mi.bind fun j => (ofO (setC xs j v.1)).bind fun ys => mj.bind fun k => (ofO (setC ys k v.2)).bind K) pn pl kp r) :=
  pss_imp (pss_cons (ps_asg hv (pg_tup hc (pgs_cons (pg_sub hd hb set_list ha) (pgs_cons (pg_sub hd2 (pe_ex hb2) set_list ha2) pgs_nil n2) n1) hn hst) hs hw h1) (pss_ex hr)) fun D σ H _ ⟨S, g0, P, F, em, q⟩ => ⟨S, g0, _, F, em, fun v g1 pv u S1 H1 F1 x1 ⟨pt, y1, y2, eu, hpt, hy1, hy2⟩ => by
    subst eu
    obtain ⟨w1, ew1, p1, vs1, e1, sp1, hp1, ha1⟩ := F1.sl.get i (hi _)
    subst e1
    refine ⟨pt, [y1, y2], rfl, TupAt.sq (TupAt.mono F1.e1 hpt), rfl, y1, [y2], rfl, .ref p1, ew1, S1, g1, _, F1, pv, fun j g2 ⟨ys, ey, py⟩ y S2 H2 F2 x2 hy => ?_⟩
    obtain ⟨w2, ew2, p2, vs2, e2, sp2, hp2, ha2⟩ := F2.sl.get i (hi _)
    subst e2
    rw [ew1] at ew2
    cases ew2
    unfold setC at ey
    obtain ⟨n, en, rfl⟩ := Option.map_eq_some_iff.mp ey
    have F3 := F2.write (ys := xs.set n v.1) (vs := vs2.set n y1) (hi _) ew1 (ha2.set n (re.mono x2 hy1))
    refine ⟨p1, vs2, j, n, rfl, hy, hp2, by rw [All2.length ha2]; exact en, y2, [], rfl, .ref p1, ew1, xs.set n v.1, S2, g2, _, F3, py, fun k g4 ⟨zs, ez, pz⟩ yk S4 H4 F4 x4 hk => ?_⟩
    obtain ⟨w4, ew4, p4, vs4, e4, sp4, hp4, ha4⟩ := F4.sl.get i (hi2 _ _)
    subst e4
    rw [ew1] at ew4
    cases ew4
    unfold setC at ez
    obtain ⟨n4, en4, rfl⟩ := Option.map_eq_some_iff.mp ez
    have F5 := F4.write (ys := (xs.set n v.1).set n4 v.2) (vs := vs4.set n4 y2) (hi2 _ _) ew1 (ha4.set n4 (re.mono (x2.trans x4) hy2))
    rw [List.set_set] at F5
    exact ⟨p1, vs4, k, n4, rfl, hk, hp4, by rw [All2.length ha4]; exact en4, rfl, (xs.set n v.1).set n4 v.2, S4, g4, P, F5, pz, fun o g9 po => (q o g9 po).mono (x1.trans (x2.trans x4))⟩⟩
/-- found.append(left.pop(e)) -/
def popC {α : Type} (xs : List α) (k : Int) : Option (α × List α) := if -1000000 ≤ k ∧ k ≤ 1000000 then (seqIndex? k xs.length).bind fun n => (xs[n]?).map fun v => (v, xs.eraseIdx n) else none
theorem All2.erase {R : V → α → Prop} : ∀ (n : Nat) {vs : List V} {xs : List α}, All2 R vs xs → All2 R (vs.eraseIdx n) (xs.eraseIdx n)
  | _, [], [], _ => True.intro
  | 0, v :: vs, x :: xs, ⟨a, b⟩ => b
  | n + 1, v :: vs, x :: xs, ⟨a, b⟩ => ⟨a, All2.erase n b⟩
  | _, [], _ :: _, z => z.elim
  | _, _ :: _, [], z => z.elim
theorem xs_appPop {x y : Str} {pa pe pa2 pe2 px2 : Pos} {xs ys : List α} {mk : W Int} {K : α × List α → List α → W (Fl ρ β γ)} (he : PE X e (tE C env qI mk)) (hr : ∀ (v : α × List α) (xs : List α), PSs X rest (tF C (fun g => ((env g).set j (.ow re v.2)).set i (.ow re xs)) (K v xs) pn pl kp r)) (hi : ∀ g, (env g)[i]? = some (.ow re xs) := by intro _; rfl) (hj : ∀ g, (env g)[j]? = some (.ow re ys) := by intro _; rfl) (hi2 : ∀ g zs, ((env g).set j (.ow re zs))[i]? = some (.ow re xs) := by intro _ _; rfl) (hij : i ≠ j := by decide)
    (hb : PE X (.Call (.Attribute (.Name x px) "append" pa) [.Call (.Attribute (.Name y px2) "pop" pa2) [e] [] pe2] [] pe) (tBM X.K "list" rAppend (tVar i) (tCons (tBM X.K "list" rPopAt (tVar j) (tCons (tE C env qI mk) tNil)) tNil)))
    (hs : swapsWith (.Call (.Attribute (.Name x px) "append" pa) [.Call (.Attribute (.Name y px2) "pop" pa2) [e] [] pe2] [] pe) none pos.line X.env = pure false := by rfl) :
    PSs X (.Expr (.Call (.Attribute (.Name x px) "append" pa) [.Call (.Attribute (.Name y px2) "pop" pa2) [e] [] pe2] [] pe) pos :: rest) (tF C env (mk.bind fun k => (ofO (popC ys k)).bind fun v => (ofO (addO xs v.1)).bind fun zs => K v zs) pn pl kp r) :=
  pss_imp (pss_cons (ps_expr hb hs) (pss_ex fun q : (α × List α) × List α => hr q.1 q.2)) fun D σ H _ ⟨S, g0, P, F, em, q⟩ => by
    obtain ⟨wx, ewx, p, vs, e2, sp, hp, ha⟩ := F.sl.get i (hi _)
    subst e2
    obtain ⟨wy, ewy, py, us, e3, spy, hpy, hay⟩ := F.sl.get j (hj _)
    subst e3
    refine ⟨.ref p, ewx, .inl ⟨rfl, vs, SqL.of hp⟩, .ref py, ewy, .inl ⟨rfl, us, SqL.of hpy⟩, S, g0, _, F, em, fun k g1 ⟨v, ev, zs, ez, pz⟩ u S1 H1 F1 x1 hu => ?_⟩
    obtain ⟨wx1, ewx1, p1, vs1, e21, sp1, hp1, ha1⟩ := F1.sl.get i (hi _)
    subst e21
    rw [ewx] at ewx1
    cases ewx1
    obtain ⟨wy1, ewy1, py1, us1, e31, spy1, hpy1, hay1⟩ := F1.sl.get j (hj _)
    subst e31
    rw [ewy] at ewy1
    cases ewy1
    unfold popC at ev
    split at ev
    · rename_i hk
      obtain ⟨n, en, ev⟩ := Option.bind_eq_some_iff.mp ev
      obtain ⟨v0, ev0, rfl⟩ := Option.map_eq_some_iff.mp ev
      obtain ⟨w0, ew0, hw0⟩ := hay1.get n ev0
      have F2 := F1.write (ys := ys.eraseIdx n) (vs := us1.eraseIdx n) (hj _) ewy (hay1.erase n)
      have np : p ≠ py := fun z => by
        subst z
        exact hij (owns_inj F1.nd (hi _) ewx rfl (hj _) ewy rfl)
      refine ⟨py, us1, k, n, w0, rfl, by rw [show u = V.int k from hu], hpy1, by omega, by omega, by rw [All2.length hay1]; exact en, ew0, ?_⟩
      have hp2 : upd H1 py (.lst (us1.eraseIdx n)) p = some (.lst vs1) := by
        rw [upd_ne np]
        exact hp1
      unfold addO at ez
      split at ez
      case isFalse => cases ez
      rename_i hl
      cases ez
      refine ⟨p, vs1, w0, rfl, rfl, hp2, by rw [All2.length ha1, sizeLine_eq]; omega, ((v0, ys.eraseIdx n), xs ++ [v0]), S1, _, P, ?_, pz, fun o g9 po => (q o g9 po).mono x1⟩
      exact F2.write (hi2 _ _) ewx (ha1.snoc hw0)
    · cases ev
/-- xs.extend(ys), ys a list that nobody changes -/
theorem xs_extQ {x : Str} {pa pe : Pos} {xs : List α} {m : W (List α)} {K : List α → W (Fl ρ β γ)} (hb : PE X (.Call (.Attribute (.Name x px) "extend" pa) [e] [] pe) (tBM X.K "list" rExtend (tVar i) (tCons (tE C env (qL re) m) tNil))) (hr : ∀ ys, PSs X rest (tF C (fun g => (env g).set i (.ow re ys)) (K ys) pn pl kp r))
    (hi : ∀ g, (env g)[i]? = some (.ow re xs) := by intro _; rfl) (hs : swapsWith (.Call (.Attribute (.Name x px) "extend" pa) [e] [] pe) none pos.line X.env = pure false := by rfl) :
    PSs X (.Expr (.Call (.Attribute (.Name x px) "extend" pa) [e] [] pe) pos :: rest) (tF C env (m.bind fun zs => (ofO (catC xs zs)).bind K) pn pl kp r) :=
  pss_imp (pss_cons (ps_expr hb hs) (pss_ex hr)) fun D σ H _ ⟨S, g0, P, F, em, q⟩ => by
    obtain ⟨w, ew, p, vs, e2, sp, hp, ha⟩ := F.sl.get i (hi _)
    subst e2
    refine ⟨.ref p, ew, .inl ⟨rfl, vs, SqL.of hp⟩, S, g0, _, F, em, fun zs g1 ⟨out, eo, po⟩ y S1 H1 F1 x1 ⟨b, ws, ey, hb, hw⟩ => ?_⟩
    subst ey
    obtain ⟨w1, ew1, p1, vs1, e21, sp1, hp1, ha1⟩ := F1.sl.get i (hi _)
    subst e21
    rw [ew] at ew1
    cases ew1
    unfold catC at eo
    split at eo
    · rename_i hl
      cases eo
      exact ⟨p, b, vs1, ws, rfl, rfl, hp1, F1.e1 _ _ hb, by rw [All2.length ha1, All2.length hw, sizeLine_eq]; omega, xs ++ zs, S1, g1, P, F1.write (hi _) ew (ha1.append hw), po, fun o g9 po => (q o g9 po).mono x1⟩
    · cases eo
/-- sorted(xs, reverse=True) -/
theorem cr_sortRev : CallRK X (.builtin "sorted") [Str.ofString "reverse"] (fun vs zs H Q => ∃ (a : Addr) (ns : List Int), vs = [V.ref a] ∧ zs = [.bl true] ∧ SqL X.K H a (ns.map V.int) ∧ ∀ (p : Addr), H p = none → Q (.ref p) (upd H p (.lst ((sortI ns).reverse.map V.int)))) := by
  intro pins s σ H vs zs us ws Q I r rz h
  obtain ⟨a, ns, rfl, rfl, hs, q⟩ := h
  refine cr_sortedRev (b := true) pins s σ H _ _ us ws Q I r rz ⟨a, ns, rfl, rfl, hs, fun ns' p h1 h2 hp => ?_⟩
  have h2 : ns'.Pairwise (· ≥ ·) := h2
  have e : ns'.reverse = sortI ns := sorted_unique ((List.reverse_perm _).trans (h1.trans (sortI_perm ns).symm)) (List.pairwise_reverse.mpr (h2.imp fun h => h)) (sortI_sorted ns)
  rw [← e, List.reverse_reverse] at q
  exact q p hp
theorem xn_sortRev {mx : W (List Int)} {kws : List Keyword} (hg : Gl X "sorted") (hm : X.mg "sorted" = none) (ha : PE X a (tQ C env true qI mx)) (hk : PK X kws (tCons (tC (.bl true)) tNil)) (hs : starEach [a] X.env = (false, eval a X.env) :: starEach [] X.env := by rfl)
    (he : backTo pos (starEach [a] X.env) = (false, eval a X.env) :: backTo pos (starEach [] X.env) := by rfl) (hpl : (backTo pos (starEach [a] X.env)).any (·.1) = false := by rfl)
    (hall : (backToKw pos (keywordEach kws X.env)).all (·.1.isSome) = true := by rfl) (hnone : (backToKw pos (keywordEach kws X.env)).any (·.1.isNone) = false := by rfl) (hks : (backToKw pos (keywordEach kws X.env)).filterMap (·.1) = [Str.ofString "reverse"] := by rfl) :
    PE X (.Call (.Name "sorted" p) [a] kws pos) (tN C env qI (mx.bind fun xs => .ret (sortI xs).reverse)) :=
  pe_imp (pe_callBK cr_sortRev hg hm (by decide +kernel) (pa_cons ha pa_nil hs) hk (by decide) (by decide) he hpl hall hnone hks) fun σ H Q _ ⟨S, g0, P, F, em, kk⟩ => ⟨S, g0, _, F, em, fun xs g1 px p S1 H1 F1 x1 rd => by
    obtain ⟨vs, hp, h2⟩ := rd _ S1 H1 F1 (Ex.refl S1)
    exact ⟨p, xs, rfl, rfl, by rw [← flat_ints h2]; exact SqL.of hp, fun l hl _ => kk _ _ px l _ S1 H1 F1 x1 hl (All2.of_map _)⟩⟩
/-- a, b = a list of two -/
theorem xg_pairL {up1 : Up α} {up2 : Up α} {kk : Nat} (hc : X.calm = true) (h1 : PG X a (tG ra up1)) (h2 : PG X b (tG ra up2))
    (hs : (assignEach [a, b] X.env).map (·.2) = assign a X.env :: (assignEach [b] X.env).map (·.2) := by rfl) (hs2 : (assignEach [b] X.env).map (·.2) = assign b X.env :: (assignEach [] X.env).map (·.2) := by rfl)
    (hn : (assignEach [a, b] X.env).length = 2 := by rfl) (hst : (assignEach [a, b] X.env).findIdx? (·.1) = none := by rfl) :
    PG X (.Tuple [a, b] kk pos) (tG (⟨fun H v (x : α × α) => (qL ra).p H v [x.1, x.2], fun e h => (qL ra).mono e h⟩ : Rp (α × α)) (uP up1 up2)) :=
  pg_imp (pg_lst hc (pgs_cons h1 (pgs_cons h2 pgs_nil hs2) hs) hn hst) fun v σ H Q ⟨C, S, env, x, F, ⟨p, vs, ev, hp, hall⟩, q⟩ => by
    match vs, hall with
    | [v1, v2], ⟨r1, r2, _⟩ =>
      exact ⟨p, [v1, v2], ev, SqL.of (F.e1 _ _ hp), rfl, v1, [v2], rfl, C, S, env, x.1, F, r1, fun σ1 l1 n1 F1 => ⟨v2, [], rfl, C, S, _, x.2, F1, r2, fun σ2 l2 n2 F2 => ⟨rfl, q σ2 (l2.trans l1) (fun i hi => by
        have hi : i ∉ up1.js ++ up2.js := hi
        simp at hi
        rw [n2 i hi.2, n1 i hi.1]) F2⟩⟩⟩
theorem xe_unL2 {m : W (List α)} (h : PE X e (tE C env (qL ra) m)) : PE X e (tE C env (⟨fun H v (x : α × α) => (qL ra).p H v [x.1, x.2], fun e h => (qL ra).mono e h⟩ : Rp (α × α)) (m.bind fun x => ofO (two x))) :=
  xe_asO (ra := qL ra) (rb := (⟨fun H v (x : α × α) => (qL ra).p H v [x.1, x.2], fun e h => (qL ra).mono e h⟩ : Rp (α × α))) (fun H v a b h e => by
    match a, e with
    | [x, y], e =>
      cases e
      exact h) h
/-- a, b = two new lists -/
theorem xs_parNN {i j : Nat} {x y : Str} {px py pt0 : Pos} {kt k2 : Nat} {pt2 : Pos} {α1 α2 : Type} {r1 : Rp α1} {r2 : Rp α2} {m1 : W (List α1)} {m2 : W (List α2)} {K : List α1 → List α2 → W (Fl ρ β γ)} (ha : PE X a (tN C env r1 m1)) (hb : ∀ C', PE X b (tN C' env r2 m2)) (hr : ∀ a b, PSs X rest (tF C (fun g => ((env g).set i (.ow r1 a)).set j (.ow r2 b)) (K a b) pn pl kp r))
    (hc : X.calm = true) (hN : X.N.Nodup) (hi : X.N[i]? = some x) (hj : X.N[j]? = some y) (hij : i ≠ j) (hx : X.env.scope.names.lookup x = some .local) (hy : X.env.scope.names.lookup y = some .local)
    (hw : swappedStores [.Tuple [.Name x px, .Name y py] kt pt0] (.Tuple [a, b] k2 pt2) X.env = pure (some [x, y])) (hs : swapsWithSole [.Tuple [.Name x px, .Name y py] kt pt0] (.Tuple [a, b] k2 pt2) pos.line X.env = pure false := by rfl)
    (h1 : starEach [a, b] X.env = (false, eval a X.env) :: starEach [b] X.env := by rfl) (h2 : starEach [b] X.env = (false, eval b X.env) :: starEach [] X.env := by rfl) (hE : ∀ g g', Gs (env g) (env g') := by intro _ _; repeat (first | exact Gs.nil | apply Gs.keep | apply Gs.gh)) :
    PSs X (.Assign [.Tuple [.Name x px, .Name y py] kt pt0] (.Tuple [a, b] k2 pt2) pos :: rest) (tF C env (m1.bind fun a => m2.bind fun b => K a b) pn pl kp r) :=
  pss_imp (pss_cons (ps_par hc hN hi hj hij hx hy (pa_cons ha (pa_cons (pe_ex hb) pa_nil h2) h1) hw hs) (pss_ex fun p : List α1 × List α2 => hr p.1 p.2)) fun D σ H _ ⟨S, g0, P, F, em, q⟩ => ⟨S, g0, _, F, em, fun xs g1 px p vs S1 H1 F1 x1 hp hv => by
    have G0 := F1.add hp (o := .lst vs)
    have np : ∀ g, p ∉ owns σ (env g) := fun g z => by
      obtain ⟨_, o, e⟩ := F1.sl.own ((hE g g1).owns σ ▸ z)
      rw [hp] at e
      cases e
    refine ⟨_, S1, g1, _, G0.here, px, fun zs g2 pw p2 us S2 H2 F2 x2 hq hu => ⟨.ref p, .ref p2, rfl, (xs, zs), S2, g2, P, ?_, pw, fun o g9 po => (q o g9 po).mono (x1.trans x2)⟩⟩
    have hp2 : H2 p = some (.lst vs) := F2.e2 p _ upd_same (np g1)
    have sp2 : S2 p = none := F2.nw p (F1.e1.back hp) (by show upd H1 p (.lst vs) p ≠ none; rw [upd_same]; exact fun z => nomatch z)
    have G2 : Fr C S2 H2 σ (env g2) := G0.backG ((hE g2 g1).owns σ) F2
    have G3 := (G2.del sp2 (F1.H0none hp) (np g2)).setOw i (r := r1) (p := p) (vs := vs) (xs := xs) (by unfold Rt.del; simp) (hv.mono fun _ _ z => r1.mono x2 z)
    rw [upd_del hp2] at G3
    exact G3.setOw j hq hu⟩
/-- comparisons as tests -/
theorem ct_in {k : Bool} {op : CmpOp} {neg : Bool} {mx : W (List Int)} (ho : OpR X (compareOp op) (rIn X.K neg)) (ha : PE X a (tE C env qI mi)) (hb : PE X b (tQ C env k qI mx)) (hm : behindInMarks op b = false) :
    PT X (.Compare a [op] [b] pos) (tT C env (mi.bind fun i => mx.bind fun xs => .ret (if neg then !(xs.any fun y => decide (y = i)) else xs.any fun y => decide (y = i)))) :=
  pt_imp (pt_cmpR ho ha hb hm) fun σ H Q _ ⟨S, g0, P, F, em, kk⟩ => ⟨S, g0, _, F, em, fun i g1 hi v S1 H1 F1 x1 hv => ⟨S1, g1, _, F1, hi, fun xs g2 px p S2 H2 F2 x2 rd => by
    obtain ⟨vs, hp, h2⟩ := rd _ S2 H2 F2 (Ex.refl S2)
    have ev : vs = xs.map V.int := flat_ints h2
    have hv : v = .int i := hv
    subst ev hv
    exact ⟨p, _, rfl, sq_seq hp, rfl, all_flat xs, _, rfl, fun _ => by
      rw [inV_int]
      exact kk _ _ px S2 H2 F2 (x1.trans x2)⟩⟩⟩
theorem xt_in {k : Bool} {mx : W (List Int)} (ha : PE X a (tE C env qI mi)) (hb : PE X b (tQ C env k qI mx)) (hm : behindInMarks .In b = false := by with_unfolding_all rfl) : PT X (.Compare a [.In] [b] pos) (tT C env (mi.bind fun i => mx.bind fun xs => .ret (xs.any fun y => decide (y = i)))) := ct_in op_in_seq ha hb hm
theorem xt_nin {k : Bool} {mx : W (List Int)} (ha : PE X a (tE C env qI mi)) (hb : PE X b (tQ C env k qI mx)) (hm : behindInMarks .NotIn b = false := by with_unfolding_all rfl) : PT X (.Compare a [.NotIn] [b] pos) (tT C env (mi.bind fun i => mx.bind fun xs => .ret !(xs.any fun y => decide (y = i)))) := ct_in op_notIn_seq ha hb hm
theorem ct_inD {k : Bool} {ma : W α} {op : CmpOp} {neg : Bool} {mx : W (List δ)} (D : Dt ra) (E : Dt rb) (ho : OpR X (compareOp op) (rInT X.K neg)) (ha : PE X a (tE C env ra ma)) (hb : PE X b (tQ C env k rb mx)) (hm : behindInMarks op b = false) (h1 : D.dep ≤ 64 := by decide) (h2 : E.dep < 64 := by decide) :
    PT X (.Compare a [op] [b] pos) (tT C env (ma.bind fun i => mx.bind fun xs => .ret (if neg then !(xs.any fun y => PyData.eqv (E.d y) (D.d i)) else xs.any fun y => PyData.eqv (E.d y) (D.d i)))) :=
  pt_imp (pt_cmpR ho ha hb hm) fun σ H Q _ ⟨S, g0, P, F, em, kk⟩ => ⟨S, g0, _, F, em, fun i g1 hi v S1 H1 F1 x1 hv => ⟨S1, g1, _, F1, hi, fun xs g2 px p S2 H2 F2 x2 rd => by
    obtain ⟨vs, hp, h3⟩ := rd _ S2 H2 F2 (Ex.refl S2)
    refine ⟨D.d i, xs.map E.d, Dp.up (x2.trans F2.e1) (D.rep hv), ?_, D.shaped h1 i, _, rfl, fun _ => by
      rw [List.any_map]
      exact kk _ _ px S2 H2 F2 (x1.trans x2)⟩
    have hall : DpAll X.K H2 vs (xs.map E.d) := dpAll (r := rb) (f := E.d) (fun h => E.rep h) (h3.mono fun _ _ z => rb.mono F2.e1 z)
    cases k with
    | true => exact .inl ⟨.lst (SqL.of hp) hall, (dL E).shaped (by show E.dep + 1 ≤ 64; omega) xs⟩
    | false => exact .inr ⟨.tup (TupAt.sq hp) hall, (dT E).shaped (by show E.dep + 1 ≤ 64; omega) xs⟩⟩⟩
theorem xt_inD {k : Bool} {ma : W α} {mx : W (List δ)} (D : Dt ra) (E : Dt rb) (hu : X.A.units + 65 < cLine) (ha : PE X a (tE C env ra ma)) (hb : PE X b (tQ C env k rb mx)) (hm : behindInMarks .In b = false := by with_unfolding_all rfl) (h1 : D.dep ≤ 64 := by decide) (h2 : E.dep < 64 := by decide) :
    PT X (.Compare a [.In] [b] pos) (tT C env (ma.bind fun i => mx.bind fun xs => .ret (xs.any fun y => PyData.eqv (E.d y) (D.d i)))) := ct_inD D E (op_inT hu) ha hb hm h1 h2
theorem xt_ninD {k : Bool} {ma : W α} {mx : W (List δ)} (D : Dt ra) (E : Dt rb) (hu : X.A.units + 65 < cLine) (ha : PE X a (tE C env ra ma)) (hb : PE X b (tQ C env k rb mx)) (hm : behindInMarks .NotIn b = false := by with_unfolding_all rfl) (h1 : D.dep ≤ 64 := by decide) (h2 : E.dep < 64 := by decide) :
    PT X (.Compare a [.NotIn] [b] pos) (tT C env (ma.bind fun i => mx.bind fun xs => .ret !(xs.any fun y => PyData.eqv (E.d y) (D.d i)))) := ct_inD D E (op_ninT hu) ha hb hm h1 h2
theorem xt_chainD {c : Expr} {rc : Rp γ} {rb : Rp β} {ma : W α} {mb : W β} {op op' : CmpOp} {f : α → β → Option Bool} {g : β → γ → Option Bool} {mc : W γ} (d1 : CmpD X C op ra rb f) (d2 : CmpD X C op' rb rc g) (ha : PE X a (tE C env ra ma)) (hb : PE X b (tE C env rb mb)) (hc : PE X c (tE C env rc mc))
    (hm : lastMarks [op, op'] [b, c] = false := by with_unfolding_all rfl) : PT X (.Compare a [op, op'] [b, c] pos) (tT C env (ma.bind fun p => mb.bind fun q => (ofO (f p q)).bind fun t => if t = true then mc.bind fun w => ofO (g q w) else .ret false)) := by
  obtain ⟨R, h1, hr⟩ := d1
  obtain ⟨R', h2, hr'⟩ := d2
  refine pt_imp (pt_chain h1 h2 ha (tE_len hb) (tE_len hc) hm) fun σ H Q _ ⟨S, g0, P, F, em, q⟩ => ?_
  refine ⟨S, g0, _, F, em, fun p g1 hp x S1 H1 F1 e1 hx => ⟨S1, g1, _, F1, hp, fun w g2 ⟨t, et, ht⟩ y S2 H2 F2 e2 hy l2 => ?_⟩⟩
  refine hr _ S2 H2 σ x y p w t _ F2 l2 (ra.mono e2 hx) hy et fun S3 H3 F3 e3 => ⟨t, rfl, ?_⟩
  cases t with
  | false => exact ⟨_, rfl, fun _ => q _ _ ht S3 H3 F3 (e1.trans (e2.trans e3))⟩
  | true =>
    refine ⟨S3, _, _, F3, ht, fun u g4 ⟨z, ez, pz⟩ y' S4 H4 F4 e4 hy' l4 => ?_⟩
    exact hr' _ S4 H4 σ y y' w u z _ F4 l4 (rb.mono (e3.trans e4) hy) hy' ez fun S5 H5 F5 e5 => ⟨_, rfl, fun _ => q z _ pz S5 H5 F5 (e1.trans (e2.trans (e3.trans (e4.trans e5))))⟩
end
end Rt

set_option maxRecDepth 100000
set_option maxHeartbeats 4000000
/-! RtF: dicts, further: displays, walks, lengths; zip; texts of truth values; defs that call themselves. -/
namespace Rt
open PySem L2 Rt PyProof.Rows
section
variable {X : Cx} {C : Cs} {env kp : Gh → List Sl} {e a b c : Expr} {A rest : List Stmt} {pos p px : Pos} {α β γ ρ : Type} {r : Rp ρ} {pn : β → Gh → List Sl} {pl : γ → Gh → List Sl} {i j : Nat} {ra re : Rp α} {rb : Rp β}
/-! ### zip -/
theorem zip_get {xs : List α} {ys : List β} {i : Nat} {y : α × β} (h : (xs.zip ys)[i]? = some y) : xs[i]? = some y.1 ∧ ys[i]? = some y.2 := by
  rw [List.getElem?_zip_eq_some] at h
  exact h
theorem xi_zipT {elts : List Expr} {kk : Nat} {tpos p : Pos} {mx : W (List α)} {my : W (List β)} (hg : Gl X "zip") (hm : X.mg "zip" = none) (ha : PE X a (tE C env (qT ra) mx)) (hb : PE X b (tE C env (qT rb) my)) (hs : starEach [a, b] X.env = (false, eval a X.env) :: starEach [b] X.env := by rfl) (hs2 : starEach [b] X.env = (false, eval b X.env) :: starEach [] X.env := by rfl) (hpl : (backTo pos (starEach [b] X.env)).any (·.1) = false := by rfl) :
    PI X (.Tuple elts kk tpos) (.Call (.Name "zip" p) [a, b] [] pos) (tS C env (qW ra rb) (mx.bind fun xs => my.bind fun ys => .ret (xs.zip ys))) := by
  refine pi_imp (RZ.pi_zipA hg hm (pa_cons (tE_len ha) (pa_cons hb pa_nil hs2) hs) (hs := hs) (hpl := hpl)) fun σ H R _ ⟨S, g0, P, F, em, q⟩ => ⟨S, g0, _, F, em, fun xs g1 px v S1 H1 F1 x1 ⟨p1, vs, ev, hp, h2⟩ l => ⟨S1, g1, _, F1, px, fun ys g2 py w S2 H2 F2 x2 ⟨p2, ws, ew, hq, h3⟩ => ?_⟩⟩
  subst ev ew
  have hp2 : TupAt S2 p1 vs := TupAt.mono x2 hp
  have h2' := h2.mono fun _ _ z => ra.mono x2 z
  have lx := All2.length h2
  have ly := All2.length h3
  have hz : (xs.zip ys).length = min xs.length ys.length := List.length_zip
  have lm : vs.length ≤ sizeLine := l p1 false vs (TupAt.mono F1.e1 hp)
  refine ⟨p1, p2, vs, ws, rfl, .inr ⟨TupAt.sq (TupAt.mono F2.e1 hp2), TupAt.sq (TupAt.mono F2.e1 hq), q _ _ py _ S2 H2 F2 (x1.trans x2) (wk_new (by rw [hz]; omega) (fun {C S H σ env} i hi F e => ?_) (fun {C S H σ env} i hi F e => ?_) fun {C S H σ env} i x H' y F e hy ha => ?_)⟩⟩
  · rw [hz] at hi
    have h1 : i < vs.length := by omega
    have h4 : i < ws.length := by omega
    exact ⟨vs, ws, vs[i], ws[i], TupAt.sq (TupAt.mono F.e1 (TupAt.mono e hp2)), TupAt.sq (TupAt.mono F.e1 (TupAt.mono e hq)), by simp [h1], by simp [h4]⟩
  · rw [hz] at hi
    exact ⟨vs, ws, TupAt.sq (TupAt.mono F.e1 (TupAt.mono e hp2)), TupAt.sq (TupAt.mono F.e1 (TupAt.mono e hq)), by omega⟩
  · obtain ⟨T, u, w, ev, hT, eH, hq1, hq2⟩ := hy
    obtain ⟨y1, y2⟩ := zip_get ha
    obtain ⟨u', hu', ru⟩ := All2.get i h2' y1
    obtain ⟨w', hw', rw'⟩ := All2.get i h3 y2
    have z1 := hq1 vs (TupAt.sq (TupAt.mono F.e1 (TupAt.mono e hp2)))
    have z2 := hq2 ws (TupAt.sq (TupAt.mono F.e1 (TupAt.mono e hq)))
    rw [hu'] at z1
    rw [hw'] at z2
    cases z1
    cases z2
    have ex := e.trans (Ex.new (o := .tup [u, w]) (F.e1.back hT))
    exact ⟨T, _, ev, hT, eH, T, u, w, ev, .inl upd_same, ra.mono ex ru, rb.mono ex rw'⟩
/-! ### texts of truth values -/
def reprB (b : Bool) : Str := if b then "True" else "False"
theorem call_repr_bl : CallR X (.builtin "repr") (fun xs H Q => ∃ b, xs = [.bl b] ∧ Q (.str (reprB b)) H) := by
  intro pins s σ H xs us Q I r h
  obtain ⟨b, rfl, q⟩ := h
  obtain ⟨u, rfl, rx⟩ := vals1 r
  obtain rfl : u = .bool b := rx
  exact PySem.P.repr_of_bool ⟨.str _, H, I.tok _, ⟨_, rfl⟩, q⟩
theorem xe_reprB {mb : W Bool} (hg : Gl X "repr") (hm : X.mg "repr" = none) (ha : PE X a (tE C env qB mb)) (hs : starEach [a] X.env = (false, eval a X.env) :: starEach [] X.env := by rfl) :
    PE X (.Call (.Name "repr" p) [a] [] pos) (tE C env qS (mb.bind fun b => .ret (reprB b))) :=
  pe_imp (pe_callB call_repr_bl hg hm (by decide +kernel) (pa_cons ha pa_nil hs) (by decide) (by decide) hs (by rfl)) fun σ H Q _ ⟨S, g0, P, F, em, k⟩ => ⟨S, g0, _, F, em, fun b g1 pb v S1 H1 F1 x1 hv => ⟨b, by rw [show v = .bl b from hv], fun _ => k _ _ pb _ S1 H1 F1 x1 rfl⟩⟩
theorem cd_eqS : CmpD X C .Eq qS qS fun i j => some (decide (i = j)) := ⟨_, op_eq, fun _ S H σ x y p q z Q F _ hx hy ez k => by
  rw [show x = V.str p from hx, show y = V.str q from hy]
  refine ⟨rfl, ?_⟩
  cases ez
  have e : decide (V.str p = V.str q) = decide (p = q) := by
    rw [Bool.eq_iff_iff]
    simp
  rw [e]
  exact k S H F (Ex.refl S)⟩
theorem cd_neS : CmpD X C .NotEq qS qS fun i j => some (!decide (i = j)) := ⟨_, op_ne, fun _ S H σ x y p q z Q F _ hx hy ez k => by
  rw [show x = V.str p from hx, show y = V.str q from hy]
  refine ⟨rfl, ?_⟩
  cases ez
  have e : decide (V.str p = V.str q) = decide (p = q) := by
    rw [Bool.eq_iff_iff]
    simp
  rw [e]
  exact k S H F (Ex.refl S)⟩
/-! ### defs that call themselves -/
theorem has_none {π : Around → Prop} {P : Program} {w : World} {K : PySem.W.Frag} {mg : Str → Option Value} {base : Heap} {x : Str} {k : Nat} {ps : List Str} {rA : Ra α} {fa : Addr} {fd : FuncData} (hm : mg x = some (.ref fa)) (hk : PySem.W.keepIn K (.ref fa) = true) (hb : Binds K fd ps []) : Has P w K mg base π x k ps (SpN rA re fun _ => none) :=
  ⟨fa, fd, ⟨fun vs H Q E ⟨_, _, _, _, _, _, z, _⟩ => (nomatch z), fun A outer s H args us vs Q E _ _ _ _ _ ⟨_, _, _, _, _, _, z, _⟩ => (nomatch z)⟩, hm, hk, hb⟩
theorem has_noneF {π : Around → Prop} {P : Program} {w : World} {K : PySem.W.Frag} {mg : Str → Option Value} {base : Heap} {x : Str} {k : Nat} {ps : List Str} {rA : Ra α} {fa : Addr} {fd : FuncData} (hm : mg x = some (.ref fa)) (hk : PySem.W.keepIn K (.ref fa) = true) (hb : Binds K fd ps []) : Has P w K mg base π x k ps (SpF rA r fun _ => none) :=
  ⟨fa, fd, ⟨fun vs H Q E ⟨_, _, _, _, _, _, z, _⟩ => (nomatch z), fun A outer s H args us vs Q E _ _ _ _ _ ⟨_, _, _, _, _, _, z, _⟩ => (nomatch z)⟩, hm, hk, hb⟩
end
theorem units1 {k : Nat} {A : Around} (r : Room k A) : A.units + 1 < cLine := by
  have := units65 r
  omega
end Rt



set_option maxRecDepth 100000
set_option maxHeartbeats 4000000
/-! RtG: ranges that go down, the place of an int in a list, sums of lists, dicts of pairs, sorted dicts. -/
namespace Rt
open PySem L2 Rt PyProof.Rows
section
variable {X : Cx} {C : Cs} {env kp : Gh → List Sl} {e a b c tg : Expr} {A rest : List Stmt} {pos p px : Pos} {α β γ δ ρ : Type}  {r : Rp ρ}  {rv : Rp δ}  {mv : W δ}  {mi mj : W Int} {pn : β → Gh → List Sl} {pl : γ → Gh → List Sl} {i j : Nat} {ra re : Rp α} {rb : Rp β}
/-! ### range(a, b, -1) -/
def idown (a b : Int) : List Int := (List.range (a - b).toNat).map fun i => a + (i : Nat) * (-1)
def rngD (a b : Int) : Option (List Int) := if -1000000 ≤ a ∧ a ≤ 1000000 ∧ -1000000 ≤ b ∧ b ≤ 1000000 then some (idown a b) else none
theorem wk_rngD {lo hi : Int} {S0 : Hp} (hl : (lo - hi).toNat ≤ sizeLine) : Wk (Itc lo (-1) (lo - hi).toNat) qI (idown lo hi) S0 := by
  have l : (idown lo hi).length = (lo - hi).toNat := by unfold idown; rw [List.length_map, List.length_range]
  refine ⟨by rw [l]; exact hl, fun {C S H σ env} i hi' F e => ?_, fun {C S H σ env} i x H' y F e hy ha => ?_, fun {C S H σ env} i hi' F e => ?_⟩
  · show i < _
    omega
  · obtain ⟨eH, ex⟩ := hy
    subst eH
    refine ⟨S, F, Ex.refl S, Ex.refl _, fun _ z _ => z, ?_⟩
    show x = V.int y
    unfold idown at ha
    rw [List.getElem?_map] at ha
    cases q : (List.range (lo - hi).toNat)[i]? with
    | none => rw [q] at ha; cases ha
    | some j =>
      rw [q] at ha
      have : j = i := by
        obtain ⟨h1, h2⟩ := List.getElem?_eq_some_iff.mp q
        simpa using h2.symm
      subst this
      rw [ex, ← Option.some.inj ha]
  · show _ ≤ i
    omega
theorem xi_rngD {p : Pos} (hg : Gl X "range") (hm : X.mg "range" = none) (ha : PE X a (tE C env qI mi)) (hb : PE X b (tE C env qI mj)) (hc : PE X c (tE C env qI (.ret (-1)))) (hs : starEach [a, b, c] X.env = (false, eval a X.env) :: starEach [b, c] X.env := by rfl) (hsb : starEach [b, c] X.env = (false, eval b X.env) :: starEach [c] X.env := by rfl) (hsc : starEach [c] X.env = (false, eval c X.env) :: starEach [] X.env := by rfl)
    (hpl : (backTo pos (starEach [b, c] X.env)).any (·.1) = false := by rfl) :
    PI X tg (.Call (.Name "range" p) [a, b, c] [] pos) (tS C env qI (mi.bind fun i => mj.bind fun j => ofO (rngD i j))) :=
  pi_imp (pi_range3 hg hm (pa_cons ha (pa_cons hb (pa_cons hc pa_nil hsc) hsb) hs) (hs := hs) (hpl := hpl)) fun σ H R _ ⟨S, g0, P, F, em, q⟩ => ⟨S, g0, _, F, em, fun i g1 hi v S1 H1 F1 x1 hv => ⟨S1, g1, _, F1, hi, fun j g2 ⟨z, ez, pz⟩ w S2 H2 F2 x2 hw => ⟨S2, g2, fun m g3 => m = -1 ∧ P z g3, F2, ⟨rfl, pz⟩, fun m g3 ⟨em, pm⟩ u S3 H3 F3 x3 hu => by
    subst em
    unfold rngD at ez
    split at ez
    case isFalse => cases ez
    rename_i hl
    cases ez
    have hv : v = .int i := hv
    have hw : w = .int j := hw
    have hu : u = .int (-1) := hu
    subst hv hw hu
    exact ⟨i, j, -1, (i - j).toNat, rfl, RgC.neg (by omega) (by omega) (by omega) (by omega), q _ _ pm _ S3 H3 F3 (x1.trans (x2.trans x3)) (wk_rngD (by rw [sizeLine_eq]; omega))⟩⟩⟩⟩
/-! ### xs.index(e), xs a list of the def's own -/
def idxC (xs : List Int) (v : Int) : Option Int := Option.map (fun n : Nat => Int.ofNat n) (xs.findIdx? fun y => decide (y = v))
theorem idx_at {xs : List Int} {v : Int} {n : Nat} (h : (xs.findIdx? fun y => decide (y = v)) = some n) : (xs.map V.int)[n]? = some (.int v) ∧ ∀ (m : Nat) (z' : V), m < n → (xs.map V.int)[m]? = some z' → eqV z' (.int v) = false := by
  obtain ⟨h1, h2, h3⟩ := List.findIdx?_eq_some_iff_getElem.mp h
  refine ⟨by simp [h1, of_decide_eq_true h2], fun m z' hm hz => ?_⟩
  have := h3 m hm
  rw [List.getElem?_map, List.getElem?_eq_getElem (Nat.lt_trans hm h1)] at hz
  cases Option.some.inj hz
  show (xs[m]'_ == v) = false
  simpa using this
theorem xe_index {x : Str} {pa pe : Pos} {xs : List Int} (hb : PE X (.Call (.Attribute (.Name x px) "index" pa) [e] [] pe) (tBM X.K "list" (rIndex X.K) (tVar i) (tCons (tE C env qI mi) tNil))) (hi : ∀ g, (env g)[i]? = some (.ow qI xs) := by intro _; rfl) :
    PE X (.Call (.Attribute (.Name x px) "index" pa) [e] [] pe) (tE C env qI (mi.bind fun v => ofO (idxC xs v))) :=
  pe_imp hb fun σ H Q _ ⟨S, g0, P, F, em, k⟩ => by
    obtain ⟨w, ew, p, vs, e2, sp, hp, ha⟩ := F.sl.get i (hi _)
    subst e2
    refine ⟨.ref p, ew, .inl ⟨rfl, vs, SqL.of hp⟩, S, g0, _, F, em, fun v g1 ⟨z, ez, pz⟩ u S1 H1 F1 x1 hu => ?_⟩
    obtain ⟨w1, ew1, p1, vs1, e21, sp1, hp1, ha1⟩ := F1.sl.get i (hi _)
    subst e21
    rw [ew] at ew1
    cases ew1
    have e3 : vs1 = xs.map V.int := flat_ints ha1
    subst e3
    unfold idxC at ez
    obtain ⟨n, en, rfl⟩ := Option.map_eq_some_iff.mp ez
    obtain ⟨q1, q2⟩ := idx_at en
    rw [show u = V.int v from hu]
    exact ⟨p, _, .int v, n, .int v, rfl, rfl, SqL.of hp1, rfl, all_flat xs, q1, by show (v == v) = true; simp, q2, fun _ => k _ _ pz _ S1 H1 F1 x1 rfl⟩
/-! ### xs + ys of lists -/
theorem xn_catL {mx my : W (List α)} (ha : PE X a (tE C env (qL re) mx)) (hb : PE X b (tE C env (qL re) my)) : PE X (.BinOp a .Add b pos) (tN C env re (mx.bind fun xs => my.bind fun ys => ofO (catC xs ys))) :=
  pe_imp (pe_op op_cat ha hb) fun σ H Q _ ⟨S, g0, P, F, em, k⟩ => ⟨S, g0, _, F, em, fun xs g1 px v S1 H1 F1 x1 ⟨p1, vs, ev, hp, h2⟩ => ⟨S1, g1, _, F1, px, fun ys g2 ⟨z, ez, pz⟩ w S2 H2 F2 x2 ⟨p2, ws, ew, hq, h3⟩ => by
    subst ev ew
    unfold catC at ez
    split at ez
    case isFalse => cases ez
    rename_i hl
    cases ez
    have h2' := h2.mono fun _ _ z => re.mono x2 z
    exact ⟨p1, p2, vs, ws, rfl, rfl, F2.e1 _ _ (x2 _ _ hp), F2.e1 _ _ hq, by rw [All2.length h2, All2.length h3, sizeLine_eq]; omega, fun q hq' _ => k _ _ pz q _ S2 H2 F2 (x1.trans x2) hq' (h2'.append h3)⟩⟩⟩
end
end Rt

set_option maxRecDepth 100000
set_option maxHeartbeats 4000000
/-! RtI: a chain of three comparisons. -/
namespace Rt
open PySem L2 Rt PyProof.Rows
section
variable {X : Cx} {C : Cs} {env kp : Gh → List Sl} {a b c d : Expr} {pos : Pos} {α β γ δ : Type} {ra : Rp α} {rb : Rp β} {rc : Rp γ} {rd : Rp δ} {ma : W α} {mb : W β} {mc : W γ} {md : W δ} {ta tb tc td : TE}
def tChain3 (r r' r2 : R2) (ta tb tc td : TE) : TE := fun σ H Q => ta σ H fun x H1 => tb σ H1 fun y H2 => r x y H2 fun z H3 => ∃ k, z = .bl k ∧
  (if k = true then tc σ H3 fun w' H4 => r' y w' H4 fun z2 H5 => ∃ k2, z2 = .bl k2 ∧ (if k2 = true then td σ H5 fun u' H6 => r2 w' u' H6 Q else Q (.bl false) H5) else Q (.bl false) H3)
theorem pe_chain3 {op op' op2 : CmpOp} {r r' r2 : R2} (ho : OpR X (compareOp op) r) (ho' : OpR X (compareOp op') r') (ho2 : OpR X (compareOp op2) r2) (ha : PE X a ta) (hb : PE X b tb) (hc : PE X c tc) (hd : PE X d td)
    (hm : lastMarks [op, op', op2] [b, c, d] = false := by with_unfolding_all rfl) : PE X (.Compare a [op, op', op2] [b, c, d] pos) (tChain3 r r' r2 ta tb tc td) := by
  refine ⟨fun pins s σ H Q I h => ?_⟩
  refine Compare_chain (thn (ha.run pins s σ H _ I h) fun v s1 ⟨x, H1, I1, r1, q1⟩ => chain_link (thn (hb.run pins s1 σ H1 _ I1 q1) fun u s2 ⟨y, H2, I2, rr2, q2⟩ =>
    thn (ho pins s2 σ H2 x y v u _ I2 r1 rr2 q2) fun e s3 ⟨z, H3, I3, r3, k, ek, q3⟩ => ?_)) hm
  subst ek
  cases r3
  refine wpAny_truthy_bool ?_
  cases k with
  | false => exact ite_ff ⟨.bl false, H3, I3, rfl, q3⟩
  | true =>
    refine ite_tt (chain_link (thn (hc.run pins s3 σ H3 _ I3 q3) fun w' s4 ⟨z', H4, I4, r4, q4⟩ => thn (ho' pins s4 σ H4 y z' u w' _ I4 rr2 r4 q4) fun d' s5 ⟨z2, H5, I5, r5, k2, e2, q5⟩ => ?_))
    subst e2
    cases r5
    refine wpAny_truthy_bool ?_
    cases k2 with
    | false => exact ite_ff ⟨.bl false, H5, I5, rfl, q5⟩
    | true => exact ite_tt (chain_last (thn (hd.run pins s5 σ H5 _ I5 q5) fun u' s6 ⟨z3, H6, I6, r6, q6⟩ => ho2 pins s6 σ H6 z' z3 w' u' Q I6 r4 r6 q6))
theorem pt_chain3 {op op' op2 : CmpOp} {r r' r2 : R2} (ho : OpR X (compareOp op) r) (ho' : OpR X (compareOp op') r') (ho2 : OpR X (compareOp op2) r2) (ha : PE X a ta) (hb : PE X b tb) (hc : PE X c tc) (hd : PE X d td)
    (hm : lastMarks [op, op', op2] [b, c, d] = false := by with_unfolding_all rfl) : PT X (.Compare a [op, op', op2] [b, c, d] pos) (tTest (tChain3 r r' r2 ta tb tc td)) := by
  refine ⟨fun pins s σ H Q I h => ?_⟩
  refine isTrue_chain (thn (ha.run pins s σ H _ I h) fun v s1 ⟨x, H1, I1, r1, q1⟩ => test_link (thn (hb.run pins s1 σ H1 _ I1 q1) fun u s2 ⟨y, H2, I2, rr2, q2⟩ =>
    thn (ho pins s2 σ H2 x y v u _ I2 r1 rr2 q2) fun e s3 ⟨z, H3, I3, r3, k, ek, q3⟩ => ?_)) hm
  subst ek
  cases r3
  refine wpAny_truthy_bool ?_
  cases k with
  | false =>
    obtain ⟨k', e', q'⟩ := q3
    cases e'
    exact ite_ff ⟨H3, I3, q'⟩
  | true =>
    refine ite_tt (test_link (thn (hc.run pins s3 σ H3 _ I3 q3) fun w' s4 ⟨z', H4, I4, r4, q4⟩ => thn (ho' pins s4 σ H4 y z' u w' _ I4 rr2 r4 q4) fun d' s5 ⟨z2, H5, I5, r5, k2, e2, q5⟩ => ?_))
    subst e2
    cases r5
    refine wpAny_truthy_bool ?_
    cases k2 with
    | false =>
      obtain ⟨k', e', q'⟩ := q5
      cases e'
      exact ite_ff ⟨H5, I5, q'⟩
    | true =>
      refine ite_tt (test_last (thn (hd.run pins s5 σ H5 _ I5 q5) fun u' s6 ⟨z3, H6, I6, r6, q6⟩ => thn (ho2 pins s6 σ H6 z' z3 w' u' _ I6 r4 r6 q6) fun d2 s7 ⟨z4, H7, I7, r7, k3, e3, q7⟩ => ?_))
      subst e3
      cases r7
      exact wpAny_truthy_bool ⟨H7, I7, q7⟩
def wChain3 (f : α → β → Option Bool) (g : β → γ → Option Bool) (h : γ → δ → Option Bool) (ma : W α) (mb : W β) (mc : W γ) (md : W δ) : W Bool :=
  ma.bind fun p => mb.bind fun q => (ofO (f p q)).bind fun t => if t = true then mc.bind fun w => (ofO (g q w)).bind fun t2 => if t2 = true then md.bind fun u => ofO (h w u) else .ret false else .ret false
theorem xe_chainD3 {op op' op2 : CmpOp} {f : α → β → Option Bool} {g : β → γ → Option Bool} {h : γ → δ → Option Bool} (d1 : CmpD X C op ra rb f) (d2 : CmpD X C op' rb rc g) (d3 : CmpD X C op2 rc rd h) (ha : PE X a (tE C env ra ma)) (hb : PE X b (tE C env rb mb)) (hc : PE X c (tE C env rc mc)) (hd : PE X d (tE C env rd md))
    (hm : lastMarks [op, op', op2] [b, c, d] = false := by with_unfolding_all rfl) : PE X (.Compare a [op, op', op2] [b, c, d] pos) (tE C env qB (ma.bind fun p => mb.bind fun q => (ofO (f p q)).bind fun t => if t = true then mc.bind fun w => (ofO (g q w)).bind fun t2 => if t2 = true then md.bind fun u => ofO (h w u) else .ret false else .ret false)) := by
  obtain ⟨R, h1, hr⟩ := d1
  obtain ⟨R', h2, hr'⟩ := d2
  obtain ⟨R2, h3, hr2⟩ := d3
  refine pe_imp (pe_chain3 h1 h2 h3 ha (tE_len hb) (tE_len hc) (tE_len hd) hm) fun σ H Q _ ⟨S, g0, P, F, em, q⟩ => ?_
  refine ⟨S, g0, _, F, em, fun p g1 hp x S1 H1 F1 e1 hx => ⟨S1, g1, _, F1, hp, fun w g2 ⟨t, et, ht⟩ y S2 H2 F2 e2 hy l2 => ?_⟩⟩
  refine hr _ S2 H2 σ x y p w t _ F2 l2 (ra.mono e2 hx) hy et fun S3 H3 F3 e3 => ⟨t, rfl, ?_⟩
  cases t with
  | false => exact fun _ => q _ _ ht _ S3 H3 F3 (e1.trans (e2.trans e3)) rfl
  | true =>
    refine ⟨S3, _, _, F3, ht, fun u g4 ⟨z, ez, pz⟩ y' S4 H4 F4 e4 hy' l4 => ?_⟩
    refine hr' _ S4 H4 σ y y' w u z _ F4 l4 (rb.mono (e3.trans e4) hy) hy' ez fun S5 H5 F5 e5 => ⟨z, rfl, ?_⟩
    cases z with
    | false => exact fun _ => q _ _ pz _ S5 H5 F5 (e1.trans (e2.trans (e3.trans (e4.trans e5)))) rfl
    | true =>
      refine ⟨S5, _, _, F5, pz, fun u2 g6 ⟨z2, ez2, pz2⟩ y2 S6 H6 F6 e6 hy2 l6 => ?_⟩
      exact hr2 _ S6 H6 σ y' y2 u u2 z2 _ F6 l6 (rc.mono (e5.trans e6) hy') hy2 ez2 fun S7 H7 F7 e7 _ => q z2 _ pz2 _ S7 H7 F7 (e1.trans (e2.trans (e3.trans (e4.trans (e5.trans (e6.trans e7)))))) rfl
theorem xt_chainD3 {op op' op2 : CmpOp} {f : α → β → Option Bool} {g : β → γ → Option Bool} {h : γ → δ → Option Bool} (d1 : CmpD X C op ra rb f) (d2 : CmpD X C op' rb rc g) (d3 : CmpD X C op2 rc rd h) (ha : PE X a (tE C env ra ma)) (hb : PE X b (tE C env rb mb)) (hc : PE X c (tE C env rc mc)) (hd : PE X d (tE C env rd md))
    (hm : lastMarks [op, op', op2] [b, c, d] = false := by with_unfolding_all rfl) : PT X (.Compare a [op, op', op2] [b, c, d] pos) (tT C env (ma.bind fun p => mb.bind fun q => (ofO (f p q)).bind fun t => if t = true then mc.bind fun w => (ofO (g q w)).bind fun t2 => if t2 = true then md.bind fun u => ofO (h w u) else .ret false else .ret false)) := by
  obtain ⟨R, h1, hr⟩ := d1
  obtain ⟨R', h2, hr'⟩ := d2
  obtain ⟨R2, h3, hr2⟩ := d3
  refine pt_imp (pt_chain3 h1 h2 h3 ha (tE_len hb) (tE_len hc) (tE_len hd) hm) fun σ H Q _ ⟨S, g0, P, F, em, q⟩ => ?_
  refine ⟨S, g0, _, F, em, fun p g1 hp x S1 H1 F1 e1 hx => ⟨S1, g1, _, F1, hp, fun w g2 ⟨t, et, ht⟩ y S2 H2 F2 e2 hy l2 => ?_⟩⟩
  refine hr _ S2 H2 σ x y p w t _ F2 l2 (ra.mono e2 hx) hy et fun S3 H3 F3 e3 => ⟨t, rfl, ?_⟩
  cases t with
  | false => exact ⟨_, rfl, fun _ => q _ _ ht S3 H3 F3 (e1.trans (e2.trans e3))⟩
  | true =>
    refine ⟨S3, _, _, F3, ht, fun u g4 ⟨z, ez, pz⟩ y' S4 H4 F4 e4 hy' l4 => ?_⟩
    refine hr' _ S4 H4 σ y y' w u z _ F4 l4 (rb.mono (e3.trans e4) hy) hy' ez fun S5 H5 F5 e5 => ⟨z, rfl, ?_⟩
    cases z with
    | false => exact ⟨_, rfl, fun _ => q _ _ pz S5 H5 F5 (e1.trans (e2.trans (e3.trans (e4.trans e5))))⟩
    | true =>
      refine ⟨S5, _, _, F5, pz, fun u2 g6 ⟨z2, ez2, pz2⟩ y2 S6 H6 F6 e6 hy2 l6 => ?_⟩
      exact hr2 _ S6 H6 σ y' y2 u u2 z2 _ F6 l6 (rc.mono (e5.trans e6) hy') hy2 ez2 fun S7 H7 F7 e7 => ⟨_, rfl, fun _ => q z2 _ pz2 _ _ F7 (e1.trans (e2.trans (e3.trans (e4.trans (e5.trans (e6.trans e7))))))⟩
end
end Rt

set_option maxRecDepth 100000
set_option maxHeartbeats 4000000
/-! RtV: values of any kind; a tuple, many times. -/
namespace Rt
open PySem L2 Rt PyProof.Rows
/-! ### t * k -/
def repT {α : Type} (xs : List α) (k : Int) : Option (List α) := if xs ≠ [] ∧ (k = 0 ∨ 2 ≤ k) ∧ k ≤ 1000 ∧ xs.length ≤ 1000 then some (List.replicate k.toNat xs).flatten else none
section
variable {X : Cx} {C : Cs} {env kp : Gh → List Sl} {a b c d e : Expr} {pos : Pos} {α β γ δ : Type} {r ra : Rp α} {rb : Rp β} {mi : W Int}
theorem xe_repT {mx : W (List α)} (ha : PE X a (tE C env (qT r) mx)) (hb : PE X b (tE C env qI mi)) : PE X (.BinOp a .Mult b pos) (tE C env (qT r) (mx.bind fun xs => mi.bind fun k => ofO (repT xs k))) :=
  xe_op RtU.op_repU ha hb fun _ S H σ x y xs k z Q F _ ⟨p, vs, e1, h1, h2⟩ hk ez kk => by
    unfold repT at ez
    split at ez
    · rename_i hl
      cases ez
      obtain ⟨n1, n2, n3, n4⟩ := hl
      have lv := All2.length h2
      have nv : vs ≠ [] := fun e => n1 (by
        rw [e] at lv
        exact List.eq_nil_of_length_eq_zero lv.symm)
      refine ⟨p, k, vs, e1, hk, TupAt.sq (TupAt.mono F.e1 h1), nv, n2, n3, by omega, fun u o ho hu => ?_⟩
      have ex := Ex.new (o := .frz o (.tup (List.replicate k.toNat vs).flatten)) (F.e1.back hu)
      exact kk _ _ _ (F.new hu) ex ⟨u, _, rfl, TupAt.new ho, All2.rep (h2.mono fun _ _ z => r.mono ex z) k.toNat⟩
    · cases ez
end
/-! ### values of any kind -/
mutual
def Vp (H : Hp) : PyData → V → Prop
  | .none, v => v = .non
  | .bool b, v => v = .bl b
  | .int i, v => v = .int i
  | .str x, v => v = .str x
  | .list ds, v => ∃ p vs, v = .ref p ∧ H p = some (.lst vs) ∧ VpL H ds vs
  | .tuple ds, v => ∃ p vs, v = .ref p ∧ TupAt H p vs ∧ VpL H ds vs
  | .dict kvs, v => kvs = [] ∧ ∃ p, v = .ref p ∧ H p = some (.dT [])
def VpL (H : Hp) : List PyData → List V → Prop
  | [], vs => vs = []
  | d :: ds, vs => ∃ w ws, vs = w :: ws ∧ Vp H d w ∧ VpL H ds ws
end
mutual
theorem Vp.mono {H H' : Hp} (e : Ex H H') : ∀ (d : PyData) (v : V), Vp H d v → Vp H' d v
  | .none, v, h => by unfold Vp at *; exact h
  | .bool b, v, h => by unfold Vp at *; exact h
  | .int i, v, h => by unfold Vp at *; exact h
  | .str x, v, h => by unfold Vp at *; exact h
  | .list ds, v, h => by
    unfold Vp at *
    obtain ⟨p, vs, h1, h2, h3⟩ := h
    exact ⟨p, vs, h1, e _ _ h2, VpL.mono e ds vs h3⟩
  | .tuple ds, v, h => by
    unfold Vp at *
    obtain ⟨p, vs, h1, h2, h3⟩ := h
    exact ⟨p, vs, h1, h2.mono e, VpL.mono e ds vs h3⟩
  | .dict kvs, v, h => by
    unfold Vp at *
    obtain ⟨h1, p, h2, h3⟩ := h
    exact ⟨h1, p, h2, e _ _ h3⟩
theorem VpL.mono {H H' : Hp} (e : Ex H H') : ∀ (ds : List PyData) (vs : List V), VpL H ds vs → VpL H' ds vs
  | [], vs, h => by unfold VpL at *; exact h
  | d :: ds, vs, h => by
    unfold VpL at *
    obtain ⟨w, ws, h1, h2, h3⟩ := h
    exact ⟨w, ws, h1, Vp.mono e d w h2, VpL.mono e ds ws h3⟩
end
def qV : Rp PyData := ⟨fun H v d => Vp H d v, fun {H H' v d} e h => Vp.mono e d v h⟩
theorem vpl_of {H : Hp} : ∀ {vs : List V} {ds : List PyData}, All2 (qV.p H) vs ds → VpL H ds vs
  | [], [], _ => by unfold VpL; rfl
  | v :: vs, d :: ds, ⟨a, b⟩ => by unfold VpL; exact ⟨v, vs, rfl, a, vpl_of b⟩
  | [], _ :: _, z => z.elim
  | _ :: _, [], z => z.elim
theorem vpl_to {H : Hp} : ∀ {vs : List V} {ds : List PyData}, VpL H ds vs → All2 (qV.p H) vs ds
  | vs, [], h => by unfold VpL at h; subst h; exact True.intro
  | vs, d :: ds, h => by
    unfold VpL at h
    obtain ⟨w, ws, rfl, h2, h3⟩ := h
    exact ⟨h2, vpl_to h3⟩
/-- data of a kind as values of any kind, and back where it can be -/
structure Ve {α : Type} (r : Rp α) where
  enc : α → PyData
  dec : PyData → Option α
  rep : ∀ {H : Hp} {v : V} {a : α}, r.p H v a → Vp H (enc a) v
  und : ∀ {H : Hp} {v : V} {d : PyData} {a : α}, Vp H d v → dec d = some a → r.p H v a
  ret : ∀ a : α, dec (enc a) = some a
def decI : PyData → Option Int
  | .int i => some i
  | _ => none
def decB : PyData → Option Bool
  | .bool i => some i
  | _ => none
def decS : PyData → Option Str
  | .str i => some i
  | _ => none
def decN : PyData → Option Unit
  | .none => some ()
  | _ => none
def decAll {α : Type} (f : PyData → Option α) : List PyData → Option (List α)
  | [] => some []
  | d :: ds => (f d).bind fun a => (decAll f ds).bind fun as => some (a :: as)
def decT {α : Type} (f : PyData → Option α) : PyData → Option (List α)
  | .tuple ds => decAll f ds
  | _ => none
def decL {α : Type} (f : PyData → Option α) : PyData → Option (List α)
  | .list ds => decAll f ds
  | _ => none
def decP {α β : Type} (f : PyData → Option α) (g : PyData → Option β) : PyData → Option (α × β)
  | .tuple [x, y] => (f x).bind fun a => (g y).bind fun b => some (a, b)
  | _ => none
def decP3 {α β γ : Type} (f : PyData → Option α) (g : PyData → Option β) (h : PyData → Option γ) : PyData → Option (α × β × γ)
  | .tuple [x, y, z] => (f x).bind fun a => (g y).bind fun b => (h z).bind fun c => some (a, b, c)
  | _ => none
def eI : Ve qI := ⟨.int, decI, fun {H v a} h => by unfold Vp; exact h, fun {H v d a} h e => by
  cases d <;> cases e
  unfold Vp at h
  exact h, fun _ => rfl⟩
def eB : Ve qB := ⟨.bool, decB, fun {H v a} h => by unfold Vp; exact h, fun {H v d a} h e => by
  cases d <;> cases e
  unfold Vp at h
  exact h, fun _ => rfl⟩
def eS : Ve qS := ⟨.str, decS, fun {H v a} h => by unfold Vp; exact h, fun {H v d a} h e => by
  cases d <;> cases e
  unfold Vp at h
  exact h, fun _ => rfl⟩
def eN : Ve qN := ⟨fun _ => .none, decN, fun {H v a} h => by unfold Vp; exact h, fun {H v d a} h e => by
  cases d <;> cases e
  unfold Vp at h
  exact h, fun _ => rfl⟩
def eV : Ve qV := ⟨id, some, fun h => h, fun h e => by cases e; exact h, fun _ => rfl⟩
theorem vpl_enc {α : Type} {r : Rp α} (E : Ve r) {H : Hp} : ∀ {vs : List V} {xs : List α}, All2 (r.p H) vs xs → VpL H (xs.map E.enc) vs
  | [], [], _ => by unfold List.map VpL; rfl
  | v :: vs, x :: xs, ⟨a, b⟩ => by
    show VpL H (E.enc x :: xs.map E.enc) (v :: vs)
    unfold VpL
    exact ⟨v, vs, rfl, E.rep a, vpl_enc E b⟩
  | [], _ :: _, z => z.elim
  | _ :: _, [], z => z.elim
theorem vpl_dec {α : Type} {r : Rp α} (E : Ve r) {H : Hp} : ∀ {vs : List V} {ds : List PyData} {xs : List α}, VpL H ds vs → decAll E.dec ds = some xs → All2 (r.p H) vs xs
  | vs, [], xs, h, e => by
    unfold VpL at h
    subst h
    cases e
    exact True.intro
  | vs, d :: ds, xs, h, e => by
    unfold VpL at h
    obtain ⟨w, ws, rfl, h2, h3⟩ := h
    unfold decAll at e
    obtain ⟨a, e1, e⟩ := Option.bind_eq_some_iff.mp e
    obtain ⟨as, e2, e⟩ := Option.bind_eq_some_iff.mp e
    cases e
    exact ⟨E.und h2 e1, vpl_dec E h3 e2⟩
theorem dec_enc {α : Type} {r : Rp α} (E : Ve r) : ∀ xs : List α, decAll E.dec (xs.map E.enc) = some xs
  | [] => rfl
  | x :: xs => by
    show (E.dec (E.enc x)).bind (fun a => (decAll E.dec (xs.map E.enc)).bind fun as => some (a :: as)) = _
    rw [E.ret, dec_enc E xs]
    rfl
def eT {α : Type} {r : Rp α} (E : Ve r) : Ve (qT r) := ⟨fun xs => .tuple (xs.map E.enc), decT E.dec, fun {H v a} ⟨p, vs, h1, h2, h3⟩ => by
  unfold Vp
  exact ⟨p, vs, h1, h2, vpl_enc E h3⟩, fun {H v d a} h e => by
  cases d <;> first | cases e | skip
  unfold Vp at h
  obtain ⟨p, vs, h1, h2, h3⟩ := h
  exact ⟨p, vs, h1, h2, vpl_dec E h3 e⟩, fun xs => dec_enc E xs⟩
def eL {α : Type} {r : Rp α} (E : Ve r) : Ve (qL r) := ⟨fun xs => .list (xs.map E.enc), decL E.dec, fun {H v a} ⟨p, vs, h1, h2, h3⟩ => by
  unfold Vp
  exact ⟨p, vs, h1, h2, vpl_enc E h3⟩, fun {H v d a} h e => by
  cases d <;> first | cases e | skip
  unfold Vp at h
  obtain ⟨p, vs, h1, h2, h3⟩ := h
  exact ⟨p, vs, h1, h2, vpl_dec E h3 e⟩, fun xs => dec_enc E xs⟩
theorem eP_rep {α β : Type} {r : Rp α} {q : Rp β} (E : Ve r) (F : Ve q) {H : Hp} {v : V} {a : α × β} (h : (qP r q).p H v a) : Vp H (.tuple [E.enc a.1, F.enc a.2]) v := by
  obtain ⟨p, x, y, h1, h2, h3, h4⟩ := h
  unfold Vp
  refine ⟨p, _, h1, h2, ?_⟩
  unfold VpL
  refine ⟨_, _, rfl, E.rep h3, ?_⟩
  unfold VpL
  refine ⟨_, _, rfl, F.rep h4, ?_⟩
  unfold VpL
  rfl
theorem eP_und {α β : Type} {r : Rp α} {q : Rp β} (E : Ve r) (F : Ve q) {H : Hp} {v : V} {d : PyData} {a : α × β} (h : Vp H d v) (e : decP E.dec F.dec d = some a) : (qP r q).p H v a := by
  unfold decP at e
  split at e
  · obtain ⟨u, e1, e⟩ := Option.bind_eq_some_iff.mp e
    obtain ⟨w, e2, e⟩ := Option.bind_eq_some_iff.mp e
    cases e
    unfold Vp at h
    obtain ⟨p, vs, h1, h2, h3⟩ := h
    unfold VpL at h3
    obtain ⟨_, _, rfl, h4, h3⟩ := h3
    unfold VpL at h3
    obtain ⟨_, _, rfl, h5, h3⟩ := h3
    unfold VpL at h3
    subst h3
    exact ⟨p, _, _, h1, h2, E.und h4 e1, F.und h5 e2⟩
  · cases e
def eP {α β : Type} {r : Rp α} {q : Rp β} (E : Ve r) (F : Ve q) : Ve (qP r q) := ⟨fun x => .tuple [E.enc x.1, F.enc x.2], decP E.dec F.dec, fun h => eP_rep E F h, fun h e => eP_und E F h e, fun x => by
  show ((E.dec (E.enc x.1)).bind fun a => (F.dec (F.enc x.2)).bind fun b => some (a, b)) = some x
  rw [E.ret, F.ret]
  rfl⟩
theorem eP3_rep {α β γ : Type} {r : Rp α} {q : Rp β} {t : Rp γ} (E : Ve r) (F : Ve q) (G : Ve t) {H : Hp} {v : V} {a : α × β × γ} (h : (qP3 r q t).p H v a) : Vp H (.tuple [E.enc a.1, F.enc a.2.1, G.enc a.2.2]) v := by
  obtain ⟨p, x, y, z, h1, h2, h3, h4, h5⟩ := h
  unfold Vp
  refine ⟨p, _, h1, h2, ?_⟩
  unfold VpL
  refine ⟨_, _, rfl, E.rep h3, ?_⟩
  unfold VpL
  refine ⟨_, _, rfl, F.rep h4, ?_⟩
  unfold VpL
  refine ⟨_, _, rfl, G.rep h5, ?_⟩
  unfold VpL
  rfl
theorem eP3_und {α β γ : Type} {r : Rp α} {q : Rp β} {t : Rp γ} (E : Ve r) (F : Ve q) (G : Ve t) {H : Hp} {v : V} {d : PyData} {a : α × β × γ} (h : Vp H d v) (e : decP3 E.dec F.dec G.dec d = some a) : (qP3 r q t).p H v a := by
  unfold decP3 at e
  split at e
  · obtain ⟨u, e1, e⟩ := Option.bind_eq_some_iff.mp e
    obtain ⟨w, e2, e⟩ := Option.bind_eq_some_iff.mp e
    obtain ⟨w3, e3, e⟩ := Option.bind_eq_some_iff.mp e
    cases e
    unfold Vp at h
    obtain ⟨p, vs, h1, h2, h3⟩ := h
    unfold VpL at h3
    obtain ⟨_, _, rfl, h4, h3⟩ := h3
    unfold VpL at h3
    obtain ⟨_, _, rfl, h5, h3⟩ := h3
    unfold VpL at h3
    obtain ⟨_, _, rfl, h6, h3⟩ := h3
    unfold VpL at h3
    subst h3
    exact ⟨p, _, _, _, h1, h2, E.und h4 e1, F.und h5 e2, G.und h6 e3⟩
  · cases e
def eP3 {α β γ : Type} {r : Rp α} {q : Rp β} {t : Rp γ} (E : Ve r) (F : Ve q) (G : Ve t) : Ve (qP3 r q t) := ⟨fun x => .tuple [E.enc x.1, F.enc x.2.1, G.enc x.2.2], decP3 E.dec F.dec G.dec, fun h => eP3_rep E F G h, fun h e => eP3_und E F G h e, fun x => by
  show ((E.dec (E.enc x.1)).bind fun a => (F.dec (F.enc x.2.1)).bind fun b => (G.dec (G.enc x.2.2)).bind fun c => some (a, b, c)) = some x
  rw [E.ret, F.ret, G.ret]
  rfl⟩
def tyV : PyData → String
  | .none => "NoneType"
  | .bool _ => "bool"
  | .int _ => "int"
  | .str _ => "str"
  | .list _ => "list"
  | .tuple _ => "tuple"
  | .dict _ => "dict"
def isTupV : PyData → Bool
  | .tuple _ => true
  | _ => false
def isListV : PyData → Bool
  | .list _ => true
  | _ => false
def isIntV : PyData → Bool
  | .int _ => true
  | .bool _ => true
  | _ => false
def isBoolV : PyData → Bool
  | .bool _ => true
  | _ => false
def isStrV : PyData → Bool
  | .str _ => true
  | _ => false
def isDictV : PyData → Bool
  | .dict _ => true
  | _ => false
def isNonV : PyData → Bool
  | .none => true
  | _ => false
theorem Vp.ty {K : PySem.W.Frag} {H : Hp} {v : V} {d : PyData} (h : Vp H d v) : RtU.TyU K H v (.type (tyV d)) := by
  cases d <;> unfold Vp at h
  case none => rw [h]; exact .inl .non
  case bool b => rw [h]; exact .inl (.bl b)
  case int i => rw [h]; exact .inl (.int i)
  case str i => rw [h]; exact .inl (.str i)
  case list ds => obtain ⟨p, vs, h1, h2, _⟩ := h; rw [h1]; exact .inl (.lst h2)
  case tuple ds => obtain ⟨p, vs, h1, h2, _⟩ := h; rw [h1]; exact .inr ⟨rfl, _, h2.choose, _, rfl, h2.choose_spec.2⟩
  case dict ds => obtain ⟨_, p, h1, h2⟩ := h; rw [h1]; exact .inl (.dT h2)
theorem Vp.isNon {H : Hp} {v : V} {d : PyData} (h : Vp H d v) : decide (v = .non) = isNonV d := by
  cases d <;> unfold Vp at h
  case none => rw [h]; rfl
  case bool b => rw [h]; rfl
  case int i => rw [h]; rfl
  case str i => rw [h]; rfl
  case list ds => obtain ⟨p, vs, h1, h2, _⟩ := h; rw [h1]; rfl
  case tuple ds => obtain ⟨p, vs, h1, h2, _⟩ := h; rw [h1]; rfl
  case dict ds => obtain ⟨_, p, h1, h2⟩ := h; rw [h1]; rfl
mutual
def cleanD : PyData → Bool
  | .list ds => cleanL ds
  | .tuple ds => cleanL ds
  | .dict _ => false
  | _ => true
def cleanL : List PyData → Bool
  | [] => true
  | d :: ds => cleanD d && cleanL ds
end
mutual
theorem Vp.dp {K : PySem.W.Frag} {H : Hp} : ∀ (d : PyData) (v : V), Vp H d v → cleanD d = true → Dp K H v d
  | .none, v, h, _ => by unfold Vp at h; rw [h]; exact .non
  | .bool b, v, h, _ => by unfold Vp at h; rw [h]; exact .bl b
  | .int i, v, h, _ => by unfold Vp at h; rw [h]; exact .int i
  | .str x, v, h, _ => by unfold Vp at h; rw [h]; exact .str x
  | .list ds, v, h, c => by
    unfold Vp at h
    unfold cleanD at c
    obtain ⟨p, vs, h1, h2, h3⟩ := h
    rw [h1]
    exact .lst (SqL.of h2) (VpL.dp ds vs h3 c)
  | .tuple ds, v, h, c => by
    unfold Vp at h
    unfold cleanD at c
    obtain ⟨p, vs, h1, h2, h3⟩ := h
    rw [h1]
    exact .tup (TupAt.sq h2) (VpL.dp ds vs h3 c)
  | .dict kvs, v, h, c => by unfold cleanD at c; cases c
theorem VpL.dp {K : PySem.W.Frag} {H : Hp} : ∀ (ds : List PyData) (vs : List V), VpL H ds vs → cleanL ds = true → DpAll K H vs ds
  | [], vs, h, _ => by unfold VpL at h; rw [h]; exact .nil
  | d :: ds, vs, h, c => by
    unfold VpL at h
    unfold cleanL at c
    obtain ⟨w, ws, h1, h2, h3⟩ := h
    obtain ⟨c1, c2⟩ := Bool.and_eq_true_iff.mp c
    rw [h1]
    exact .cons (Vp.dp d w h2 c1) (VpL.dp ds ws h3 c2)
end
def cleanO (d : PyData) : Option PyData := if cleanD d = true then some d else none
section
variable {X : Cx} {C : Cs} {env kp : Gh → List Sl} {a b c d e : Expr} {pos : Pos} {α β γ δ : Type} {r ra : Rp α} {rb : Rp β} {m : W α}
theorem xe_enc (E : Ve r) (h : PE X e (tE C env r m)) : PE X e (tE C env qV (m.bind fun x => .ret (E.enc x))) := xe_as (rb := qV) (fun H v a h => E.rep h) h
theorem xe_dec {m : W PyData} (E : Ve r) (h : PE X e (tE C env qV m)) : PE X e (tE C env r (m.bind fun x => ofO (E.dec x))) := xe_asO (ra := qV) (fun H v a b h e => E.und h e) h
theorem xe_VD {m : W PyData} (h : PE X e (tE C env qV m)) : PE X e (tE C env (qD X.K) (m.bind fun x => ofO (cleanO x))) := xe_asO (ra := qV) (fun H v a b h e => by
  unfold cleanO at e
  split at e
  · rename_i c
    cases e
    exact Vp.dp a v h c
  · cases e) h
theorem xe_isNV {j : Nat} {p1 : Pos} {m : W PyData} (h : PE X a (tE C env qV m)) : PE X (.Compare a [.Is] [.Constant .none j p1] pos) (tE C env qB (m.bind fun x => .ret (isNonV x))) := xe_isN h fun H v x h => Vp.isNon h
theorem xe_notNV {j : Nat} {p1 : Pos} {m : W PyData} (h : PE X a (tE C env qV m)) : PE X (.Compare a [.IsNot] [.Constant .none j p1] pos) (tE C env qB (m.bind fun x => .ret (!isNonV x))) :=
  pe_imp (pe_cmp (pc_notN h) rfl) fun σ H Q _ ⟨S, g0, P, F, em, k⟩ => ⟨S, g0, _, F, em, fun x g1 px v S1 H1 F1 x1 hv _ => k _ _ px _ S1 H1 F1 x1 (by rw [Vp.isNon hv]; rfl)⟩
theorem xt_notNV {j : Nat} {p1 : Pos} {m : W PyData} (h : PE X a (tE C env qV m)) : PT X (.Compare a [.IsNot] [.Constant .none j p1] pos) (tT C env (m.bind fun x => .ret (!isNonV x))) :=
  pt_imp (pt_cmp (pc_notN h) rfl) fun σ H Q _ ⟨S, g0, P, F, em, k⟩ => ⟨S, g0, _, F, em, fun x g1 px v S1 H1 F1 x1 hv => ⟨!isNonV x, by rw [Vp.isNon hv], fun _ => k _ _ px S1 H1 F1 x1⟩⟩
theorem xt_isNV {j : Nat} {p1 : Pos} {m : W PyData} (h : PE X a (tE C env qV m)) : PT X (.Compare a [.Is] [.Constant .none j p1] pos) (tT C env (m.bind fun x => .ret (isNonV x))) :=
  pt_imp (pt_cmp (pc_isN h) rfl) fun σ H Q _ ⟨S, g0, P, F, em, k⟩ => ⟨S, g0, _, F, em, fun x g1 px v S1 H1 F1 x1 hv => ⟨isNonV x, by rw [Vp.isNon hv], fun _ => k _ _ px S1 H1 F1 x1⟩⟩
theorem xe_isiV {n : String} {f : PyData → Bool} {m : W PyData} {x : Str} {p p2 : Pos} (hg : Gl X "isinstance") (hm : X.mg "isinstance" = none) (ha : PE X a (tE C env qV m)) (hgx : Gl X x) (hmx : X.mg x = none) (hv : bootBuiltins x = some (.type n)) (hk : ∀ d, kitB (tyV d) n = some (f d))
    (hn : x ≠ "__name__" := by decide) (hdb : (x == ("__debug__" : Str)) = false := by decide) (hs : starEach [a, .Name x p2] X.env = (false, eval a X.env) :: starEach [.Name x p2] X.env := by rfl) (hs2 : starEach [.Name x p2] X.env = (false, eval (.Name x p2) X.env) :: starEach [] X.env := by rfl) (hpl : (backTo pos (starEach [.Name x p2] X.env)).any (·.1) = false := by rfl) :
    PE X (.Call (.Name "isinstance" p) [a, .Name x p2] [] pos) (tE C env qB (m.bind fun y => .ret (f y))) :=
  pe_imp (pe_callB RtU.call_isiU hg hm (by decide +kernel) (pa_cons ha (pa_cons (pe_bltn (v := .ty n) hgx hmx hv rfl hn hdb) pa_nil hs2) hs) (by decide) (by decide) hs hpl) fun σ H Q _ ⟨S, g0, P, F, em, kk⟩ =>
    ⟨S, g0, _, F, em, fun y g1 py v S1 H1 F1 x1 hv => ⟨v, n, tyV y, f y, rfl, Vp.ty (qV.mono F1.e1 hv), hk y, fun _ => kk _ _ py _ S1 H1 F1 x1 rfl⟩⟩
theorem kTup (d : PyData) : kitB (tyV d) "tuple" = some (isTupV d) := by cases d <;> (simp only [tyV, isTupV]; decide +kernel)
theorem kInt (d : PyData) : kitB (tyV d) "int" = some (isIntV d) := by cases d <;> (simp only [tyV, isIntV]; decide +kernel)
theorem kBool (d : PyData) : kitB (tyV d) "bool" = some (isBoolV d) := by cases d <;> (simp only [tyV, isBoolV]; decide +kernel)
theorem kList (d : PyData) : kitB (tyV d) "list" = some (isListV d) := by cases d <;> (simp only [tyV, isListV]; decide +kernel)
theorem kStr (d : PyData) : kitB (tyV d) "str" = some (isStrV d) := by cases d <;> (simp only [tyV, isStrV]; decide +kernel)
theorem kDict (d : PyData) : kitB (tyV d) "dict" = some (isDictV d) := by cases d <;> (simp only [tyV, isDictV]; decide +kernel)
theorem xe_dict0 : PE X (.Dict [] [] pos) (tE C env qV (.ret (.dict []))) := pe_imp pe_dnewT fun σ H Q _ ⟨S, g0, P, F, em, k⟩ p hp _ =>
  k _ _ em _ _ _ (F.new hp) (Ex.new (F.e1.back hp)) (by
    show Vp _ (.dict []) (.ref p)
    unfold Vp
    exact ⟨rfl, p, rfl, upd_same⟩)
end
end Rt

set_option maxRecDepth 100000
set_option maxHeartbeats 4000000
/-! RtK: sorted(t, key=max), t a tuple of pairs of ints. -/
namespace Rt
open PySem PySem.W L2 Rt PyProof.Rows
section
variable {prog : Program} {w : World} {A : Around} {E : Value → Shared → Prop} {s : Shared}
theorem sortedT_of_sort {t : Addr} {vs : List Value} {kw : List (Str × Value)} {Q : Value → Shared → Prop} (ht : s.heap.IsTuple t vs.toArray) (hL : vs.length ≤ sizeLine) (ha1 : argsOk "sorted" ⟨[.ref t], kw⟩) (ha2 : ∀ x, argsOk "list.sort" ⟨[.ref x], kw⟩)
    (body : ∀ E' : Value → Shared → Prop, wpAny (model prog w) A.in1.in1 (Builtin.«list.sort» ⟨[.ref (s.heap.objs.size + 1)], kw⟩) (fun f s' => f = .done (.ret .none) ∧ Q (.ref (s.heap.objs.size + 1)) s') E' { s with heap := copyHeap s.heap vs }) :
    wpAny (model prog w) A (call (.builtin "sorted") [.ref t] kw) Q E s := by
  refine call_function_entry_kw kind_sorted plain_sorted entry_sorted ha1 ?_
  unfold Builtin.«sorted»
  refine wpAny_bind (m := checkCount "sorted" 1 1 _) (wpAny_pure ?_)
  refine wpAny_bind (gather ht hL ?_)
  refine wpAny_bind (wpAny_newList ?_ hL)
  have hsz : (gath s.heap vs).objs.size = s.heap.objs.size + 1 := by
    unfold gath
    rw [Heap.size_update, size_push']
  show wpAny _ _ _ _ _ { s with heap := copyHeap s.heap vs }
  rw [hsz]
  refine wpAny_bind (wpAny_holding (wpAny_call_entry_kw slot_list_sort ⟨_, copyHeap_at s.heap vs, rfl⟩ entry_list_sort ?body (ha2 _)))
  case body =>
    show wpAny (model prog w) A.in1.in1 (Builtin.«list.sort» ⟨[.ref (s.heap.objs.size + 1)], kw⟩) _ _ _
    refine wpAny_mono (body _) (fun f s' hf => ?_) fun _ _ e => e
    obtain ⟨rfl, hq⟩ := hf
    exact ⟨_, rfl, wpAny_pure ⟨_, rfl, hq⟩⟩
variable {β : Type} {R : Value → β → Prop} {vs : List Value} {bs : List β}
theorem sortedT_key {l : Addr} {f : Value} {kw : List (Str × Value)} {b : Bool} {Q : Value → Shared → Prop} (k : β → PyData) (hl : s.heap.IsTuple l vs.toArray) (e : EachIs R vs bs) (hal : AllAlike (bs.map k)) (hk : Sortable (bs.map k)) (hL : bs.length ≤ sizeLine)
    (hu : ∀ x, x ∈ bs → A.units + 2 + (k x).depth < cLine) (ha1 : argsOk "sorted" ⟨[.ref l], kw⟩) (ha2 : ∀ x, argsOk "list.sort" ⟨[.ref x], kw⟩) (ht : ∀ x, Builtin.«list.sort» ⟨[.ref x], kw⟩ = ksk_tree x f b)
    (turn : ∀ (v : Value) (x : β), R v x → x ∈ bs → ∀ (h : Heap) (tk : Nat), (∀ b o, s.heap.get? b = some o → h.get? b = some o) →
      wpAny (model prog w) A.in1.in1 (call f [v]) (KeyPure (k x) { s with heap := h, toks := tk }) (fun _ _ => False) { s with heap := h, toks := tk })
    (h : ∀ out c h' tk, (∀ b o, s.heap.get? b = some o → h'.get? b = some o) → s.heap.get? (s.heap.objs.size + 1) = none → h'.get? (s.heap.objs.size + 1) = some (seqObj "list" (List.toArray out) c) → out.length = bs.length → EachIs R out (bs.mergeSort (dataLe b k)) →
      Q (.ref (s.heap.objs.size + 1)) { s with heap := h', toks := tk }) :
    wpAny (model prog w) A (call (.builtin "sorted") [.ref l] kw) Q E s := by
  have fresh : s.heap.get? (s.heap.objs.size + 1) = none := Heap.get?_none_of_le (Nat.le_succ _)
  have up : ∀ {g : Heap}, KeepsBut (s.heap.objs.size + 1) (copyHeap s.heap vs) g → ∀ b o, s.heap.get? b = some o → g.get? b = some o := fun {g} kp b o q =>
    kp b o (Nat.ne_of_lt (Nat.lt_succ_of_lt (Heap.lt_size q))) (copyHeap_old q)
  refine sortedT_of_sort hl (by rw [e.length]; exact hL) ha1 ha2 fun E' => ?_
  rw [ht]
  refine keyH_tree (kz := bs.map k) (s := { s with heap := copyHeap s.heap vs }) (copyHeap_at s.heap vs) (by rw [List.length_map]; exact e.length.symm) (by rw [e.length]; exact hL) hal hk (bound_map (A := A.in1.in1) hu)
    (keyH_turns (s := { s with heap := copyHeap s.heap vs }) e fun v x hR hx h tk kp => turn v x hR hx h tk (up kp)) fun h' tk out c kp hD ko => ⟨rfl, ?_⟩
  exact h out c h' tk (up kp) fresh hD ((ko.length (by rw [List.length_map]; exact e.length.symm)).trans e.length) (keyedOut_each k ko e)
end
def maxK (p : Int × Int) : PyData := .int (max p.1 p.2)
def sortMx (row : List (Int × Int)) : List (Int × Int) := row.mergeSort (dataLe false maxK)
def rSortMax (K : PySem.W.Frag) : List V → Hp → VK → Prop := fun xs H Q => ∃ (a : Addr) (vs : List V) (row : List (Int × Int)) (R : V → Int × Int → Prop), xs = [.ref a] ∧ SqT K H a vs ∧ All2 R vs row ∧ (∀ v x, R v x → (qP qI qI).p H v x) ∧ row.length ≤ 1000 ∧
  ∀ p ys, H p = none → All2 R ys (sortMx row) → Q (.ref p) (upd H p (.lst ys))
def RV (R : V → Int × Int → Prop) (v : Value) (p : Int × Int) : Prop := ∃ y, RelV y v ∧ R y p
theorem each_rv {R : V → Int × Int → Prop} : ∀ {vs : List V} {us : List Value} {row : List (Int × Int)}, All2 R vs row → Vals vs us → EachIs (RV R) us row
  | [], _, [], _, .nil => .nil
  | v :: vs, _, x :: row, ⟨h1, h⟩, .cons r t => .cons ⟨v, r, h1⟩ (each_rv h t)
  | [], _, _ :: _, z, _ => z.elim
  | _ :: _, _, [], z, _ => z.elim
theorem rv_each {R : V → Int × Int → Prop} : ∀ {us : List Value} {row : List (Int × Int)}, EachIs (RV R) us row → ∃ vs, Vals vs us ∧ All2 R vs row
  | _, _, .nil => ⟨[], .nil, True.intro⟩
  | _, _, .cons ⟨y, h1, h2⟩ h => by
    obtain ⟨vs, a, b⟩ := rv_each h
    exact ⟨y :: vs, .cons h1 a, ⟨h2, b⟩⟩
section
variable {X : Cx}
theorem call_sortMax (hc : X.calm = true) (hu : X.A.units + 66 < cLine) {pins : List (Addr × Obj)} {s : Shared} {σ : L2.St} {H : Hp} {xs : List V} {us : List Value} {Q : VK} (I : Inv X pins σ H s) (r : Vals xs us) (h : rSortMax X.K xs H Q) :
    wpAny (model X.prog X.w) X.A (call (.builtin "sorted") us [(Str.ofString "key", .builtin "max")]) (EP X pins σ Q) X.xe s := by
  obtain ⟨a, vs, row, R, rfl, hs, ha, hRq, hl0, q⟩ := h
  obtain ⟨its, rv, hl, hz⟩ := I.tuple hs
  rw [Vals.ref1 r]
  have e := each_rv ha rv
  have lz : its.length = row.length := e.length
  refine sortedT_key (R := RV R) (b := false) maxK (show s.heap.IsTuple a its.toArray from hl) e (AllAlike.of fun _ _ => by simp [maxK, alike]) (Sortable.others fun _ => ⟨(fun z => nomatch z), (fun _ z => nomatch z)⟩) (by rw [sizeLine_eq]; omega) (fun p _ => ?_) (ksk_s1 _ _) (fun _ => ksk_l1 _ _) (fun _ => ksk_t4 _ _)
    (fun v p hv _ h tk kp => ?_) fun out c h' tk kp hf hD ho eo => ?_
  · have hd : (maxK p).depth = 0 := by simp [maxK, PyData.depth]
    omega
  · obtain ⟨y, ry, hy⟩ := hv
    obtain ⟨t, y1, y2, ey, ⟨ob, _, ht⟩, e1, e2⟩ := hRq _ _ hy
    have e1 : y1 = .int p.1 := e1
    have e2 : y2 = .int p.2 := e2
    subst ey e1 e2
    cases ry
    obtain ⟨_, _, its2, r2, o, ho, hcl, n, hd⟩ := I.hok _ _ ht
    obtain ⟨u1, u2, rfl, ri, rj⟩ := vals2 r2
    obtain ⟨t1, rfl⟩ := ri
    obtain ⟨t2, rfl⟩ := rj
    refine PySem.W.max_tuple_data (s := { s with heap := h, toks := tk }) (vs := #[.int p.1 t1, .int p.2 t2]) (x := .int p.1) (xs := [.int p.2]) (as := []) (I.ok.hd hc) ⟨o, kp _ _ ho, hcl, n, hd⟩ (.cons (.int _ _) (.cons (.int _ _) .nil)) (alike_all (p.1 :: [p.2])) ?_ fun i v h2 tk2 bs hv hr hk => ?_
    · have := dep_ints (p.1 :: [p.2])
      show X.A.units + 1 + 1 + 1 + PyData.depthAll ((p.1 :: [p.2]).map PyData.int) < cLine
      omega
    · have e3 : maxD (.int p.1) [.int p.2] = .int (max p.1 p.2) := PySem.W.maxD_ints p.1 [p.2]
      rw [e3] at hr
      cases hr
      exact ⟨h2, tk2, rfl, hk, .int _ _⟩
  · obtain ⟨ys, y1, y2⟩ := rv_each eo
    refine ⟨.ref _, upd H (s.heap.objs.size + 1) (.lst ys), I.laid (t' := tk) kp (Nat.le_succ _) ⟨?_, out, c, y1, hD⟩, rfl, q _ ys (I.hok.fresh (Nat.le_succ _)) y2⟩
    rw [All2.length y2, List.length_mergeSort, sizeLine_eq]
    omega
end
section
variable {X : Cx} {C : Cs} {env : Gh → List Sl} {a : Expr} {pos p p2 kpos : Pos}
def sortMxO (row : List (Int × Int)) : Option (List (Int × Int)) := if row.length ≤ 1000 then some (sortMx row) else none
theorem pe_sortedMax {t : TA} (hc : X.calm = true) (hu : X.A.units + 66 < cLine) (hg : Gl X "sorted") (hm : X.mg "sorted" = none) (hg2 : Gl X "max") (hm2 : X.mg "max" = none) (ha : PA X [a] t)
    (he : backTo pos (starEach [a] X.env) = (false, eval a X.env) :: backTo pos (starEach [] X.env) := by rfl) (hpl : (backTo pos (starEach [a] X.env)).any (·.1) = false := by rfl)
    (hall : (backToKw pos (keywordEach [⟨some "key", .Name "max" p2, kpos⟩] X.env)).all (·.1.isSome) = true := by rfl) (hnone : (backToKw pos (keywordEach [⟨some "key", .Name "max" p2, kpos⟩] X.env)).any (·.1.isNone) = false := by rfl) (hks : (backToKw pos (keywordEach [⟨some "key", .Name "max" p2, kpos⟩] X.env)).filterMap (·.1) = [Str.ofString "key"] := by rfl) :
    PE X (.Call (.Name "sorted" p) [a] [⟨some "key", .Name "max" p2, kpos⟩] pos) (fun σ H Q => t σ H fun vs H1 => rSortMax X.K vs H1 Q) := by
  refine ⟨fun pins s σ H Q I h => ?_⟩
  refine wpAny_Call_Name_kw (ld_blt (u := .builtin "sorted") I hg hm (by decide +kernel) ?_)
  refine PyProof.Rows.callWith_kw (thn (ha.run pos pins s σ H _ I h) fun us s1 ⟨vs, H1, I1, r1, q1⟩ => ?_) he hpl hall hnone
  show wpAny _ _ (evalAll ((do let v ← eval (.Name "max" p2) X.env; standAt pos; pure v) :: [])) _ _ s1
  refine wpAny_evalAll_cons (wpAny_bind (ld_blt (u := .builtin "max") I1 hg2 hm2 (by decide +kernel) (wpAny_bind (wpAny_standAt (wpAny_pure ?_)))))
  refine wpAny_evalAll_nil ?_
  rw [hks]
  exact call_sortMax hc hu I1 r1 q1
theorem xn_sortedMax {mx : W (List (Int × Int))} (hc : X.calm = true) (hu : X.A.units + 66 < cLine) (hg : Gl X "sorted") (hm : X.mg "sorted" = none) (hg2 : Gl X "max") (hm2 : X.mg "max" = none) (ha : PE X a (tE C env (qT (qP qI qI)) mx)) (hs : starEach [a] X.env = (false, eval a X.env) :: starEach [] X.env := by rfl)
    (he : backTo pos (starEach [a] X.env) = (false, eval a X.env) :: backTo pos (starEach [] X.env) := by rfl) (hpl : (backTo pos (starEach [a] X.env)).any (·.1) = false := by rfl)
    (hall : (backToKw pos (keywordEach [⟨some "key", .Name "max" p2, kpos⟩] X.env)).all (·.1.isSome) = true := by rfl) (hnone : (backToKw pos (keywordEach [⟨some "key", .Name "max" p2, kpos⟩] X.env)).any (·.1.isNone) = false := by rfl) (hks : (backToKw pos (keywordEach [⟨some "key", .Name "max" p2, kpos⟩] X.env)).filterMap (·.1) = [Str.ofString "key"] := by rfl) :
    PE X (.Call (.Name "sorted" p) [a] [⟨some "key", .Name "max" p2, kpos⟩] pos) (tN C env (qP qI qI) (mx.bind fun xs => ofO (sortMxO xs))) :=
  pe_imp (pe_sortedMax hc hu hg hm hg2 hm2 (pa_cons ha pa_nil hs) he hpl hall hnone hks) fun σ H Q _ ⟨S, g0, P, F, em, kk⟩ => ⟨S, g0, _, F, em, fun xs g1 ⟨z, ez, pz⟩ v S1 H1 F1 x1 ⟨t, vs, ev, ht, h2⟩ => by
    unfold sortMxO at ez
    split at ez
    · rename_i hl
      cases ez
      exact ⟨t, vs, xs, (qP qI qI).p S1, by rw [ev], TupAt.sq (TupAt.mono F1.e1 ht), h2, fun v x z => (qP qI qI).mono F1.e1 z, hl, fun u ys hu hy _ => kk _ _ pz u _ S1 H1 F1 x1 hu hy⟩
    · cases ez⟩
end
end Rt

set_option maxRecDepth 100000
set_option maxHeartbeats 4000000
/-! RtW: a generator def that hands out what a name holds till it holds None; list(..) over it. -/
namespace Rt
open PySem L2 Rt PyProof.Rows
section
variable {α β : Type}
/-- what is handed out from d on -/
def genV (dec : PyData → Option β) (f : PyData → Option PyData) : Nat → PyData → Option (List β)
  | 0, _ => none
  | n + 1, d => if isNonV d = true then some [] else (dec d).bind fun x => (f d).bind fun d' => (genV dec f n d').bind fun xs => some (x :: xs)
def SpGn (ra : Ra α) (r : Rp β) (g : α → Option (List β)) : SpG := fun vs H Q _ => ∃ S a xs, Ex S H ∧ Tc S H ∧ ra.p S vs a ∧ g a = some xs ∧ xs.length ≤ 100000 ∧
  ∀ ys S' H', Ex S S' → Ex S' H' → Ex H H' → (∀ b, S b = none → H b ≠ none → S' b = none) → Tc S' H' → All2 (r.p S') ys xs → Q ys H'
variable {X : Cx} {e1 e2 e3 test ey : Expr} {x : Str} {py yp q1 q2 q3 q4 q5 : Pos} {ra : Ra α} {r : Rp β} {i : Nat} {vs : List V} {H : Hp} {N : List Str} {Q : List V → Hp → Prop} {E : XK} {env : α → List Sl}
theorem gbody_of {f1 : α → Option Unit} {f2 : α → Option PyData} {dec : PyData → Option β} {f3 : PyData → Option PyData} (n : Nat) (h : SpGn ra r (fun a => (f1 a).bind fun _ => (f2 a).bind fun d => genV dec f3 n d) vs H Q E)
    (hp : PassesOwn (model X.prog X.w) X.A X.env X.xe) (hs : ∀ S H a, ra.p S vs a → SlAll S H (start N vs) (env a) ∧ owns (start N vs) (env a) = [])
    (p1 : ∀ (C : Cs) a, PE X e1 (tE C (fun _ => env a) qN (ofO (f1 a)))) (p2 : ∀ (C : Cs) a, PE X e2 (tE C (fun _ => env a) qV (ofO (f2 a))))
    (pt : ∀ (C : Cs) a d, PT X test (tT C (fun _ => (env a).set i (.im qV d)) (W.ret (!isNonV d)))) (pey : ∀ (C : Cs) a d, PE X ey (tE C (fun _ => (env a).set i (.im qV d)) r (ofO (dec d))))
    (p3 : ∀ (C : Cs) a d, PE X e3 (tE C (fun _ => (env a).set i (.im qV d)) qV (ofO (f3 d)))) (hN : X.N.Nodup) (hi : X.N[i]? = some x) (hx : Loc X.env.scope x) (hf : X.fn x = true)
    (s1 : swapsWith e1 none q1.line X.env = pure false) (s2 : swapsWith e2 (some (.Name x py)) q2.line X.env = pure false) (s3 : swapsWith e3 (some (.Name x q5)) q4.line X.env = pure false) (hco : X.env.scope.isCoroutine = false) (hit : interactive X.env = false) :
    ∃ t, GSs X [.Expr e1 q1, .Assign [.Name x py] e2 q2, .While test [.Expr (.Yield (some ey) yp) q3, .Assign [.Name x q5] e3 q4] [] yp] t ∧ t { nx := fun ys _ H' => Q ys H', rt := fun ys v H' => v = .non ∧ Q ys H' } [] (start N vs) H := by
  obtain ⟨S, a, xs, e, tc, hv, eo, hl, k⟩ := h
  obtain ⟨l1, l2⟩ := hs S H a hv
  obtain ⟨_, eo1, eo⟩ := Option.bind_eq_some_iff.mp eo
  obtain ⟨d0, eo2, eo⟩ := Option.bind_eq_some_iff.mp eo
  have F0 : Fr ⟨[], S, H⟩ S H (start N vs) (env a) := Fr.entry e tc l1 l2
  refine ⟨_, gss_cons (gs_ps (ps_expr (p1 ⟨[], S, H⟩ a) s1)) (gss_cons (gs_ps (ps_set hN hi hx (p2 ⟨[], S, H⟩ a) s2 (.inl hf))) (gss_cons (gs_while hp (pt_ex fun d => pt ⟨[], S, H⟩ a d) (gss_cons (gs_yield (pe_ex fun d => pey ⟨[], S, H⟩ a d) hco hit) (gss_cons (gs_ps (ps_set hN hi hx (pe_ex fun d => p3 ⟨[], S, H⟩ a d) s3 (.inl hf))) gss_nil))) gss_nil)), ?_⟩
  refine ⟨S, [], fun _ _ => True, F0, ⟨(), eo1, True.intro⟩, fun a1 g1 pa v S1 H1 F1 x1 hv1 => ?_⟩
  refine ⟨S1, [], fun d _ => d = d0, F1, ⟨d0, eo2, rfl⟩, fun d g2 pd v2 S2 H2 F2 x2 hv2 => ?_⟩
  subst pd
  refine ⟨fun m ys σ' H' => ∃ S' d done rest, Fr ⟨[], S, H⟩ S' H' σ' ((env a).set i (.im qV d)) ∧ All2 (r.p S') ys done ∧ genV dec f3 m d = some rest ∧ xs = done ++ rest, ⟨n, S2, d, [], xs, F2.setIm i hv2, True.intro, eo, rfl⟩, fun m ys σ' H' ⟨S', d', done, rest, F', hy, eg, ex⟩ => ?_⟩
  refine ⟨d', S', [], fun b _ => b = !isNonV d', F', rfl, fun b g3 pb S3 H3 F3 x3 => ?_⟩
  subst pb
  cases m with
  | zero => cases eg
  | succ m =>
    unfold genV at eg
    cases hn : isNonV d' with
    | true =>
      rw [hn, if_pos rfl] at eg
      cases eg
      rw [List.append_nil] at ex
      subst ex
      rw [if_neg (by decide)]
      exact k ys S3 H3 F3.e0 F3.e1 (fun b u e => F3.e2 b u e (by simp)) F3.nw F3.tc (hy.mono fun _ _ z => r.mono x3 z)
    | false =>
      rw [hn, if_neg (by decide)] at eg
      obtain ⟨x', ex', eg⟩ := Option.bind_eq_some_iff.mp eg
      obtain ⟨d2, ed2, eg⟩ := Option.bind_eq_some_iff.mp eg
      obtain ⟨xs', exs, eg⟩ := Option.bind_eq_some_iff.mp eg
      cases eg
      rw [if_pos (by decide)]
      have ly := All2.length hy
      have lx : xs.length = done.length + (xs'.length + 1) := by rw [ex, List.length_append, List.length_cons]
      refine ⟨fun ys' σ' H' => ∃ S' d done rest, Fr ⟨[], S, H⟩ S' H' σ' ((env a).set i (.im qV d)) ∧ All2 (r.p S') ys' done ∧ genV dec f3 m d = some rest ∧ xs = done ++ rest, fun ys' σ'' H'' h => ⟨m, Nat.lt_succ_self _, h⟩, by rw [sizeLine_eq]; omega, ?_⟩
      refine ⟨d', S3, [], fun y _ => y = x', F3, ⟨x', ex', rfl⟩, fun y g4 py v4 S4 H4 F4 x4 hv4 => ?_⟩
      subst py
      refine ⟨d', S4, [], fun y _ => y = d2, F4, ⟨d2, ed2, rfl⟩, fun dn g5 pn v5 S5 H5 F5 x5 hv5 => ?_⟩
      subst pn
      refine ⟨S5, dn, done ++ [y], xs', ?_, ?_, exs, by rw [ex, List.append_assoc]; rfl⟩
      · have := F5.setIm i (r := qV) (v := v5) (a := dn) hv5
        rw [List.set_set] at this
        exact this
      · exact All2.snoc (hy.mono fun _ _ z => r.mono (x3.trans (x4.trans x5)) z) (r.mono x5 hv4)
end
section
variable {P : Program} {w : World} {K : PySem.W.Frag} {mg : Str → Option Value} {base : Heap} {k : Nat} {f : Addr} {fd : FuncData} {x qual y : Str} {st : Stmt} {N ps : List Str} {α β : Type} {r : Rp β} {e1 e2 e3 test ey : Expr} {py yp wp q1 q2 q3 q4 q5 : Pos} {i : Nat} {env : α → List Sl} {p : Pr α}
theorem gfn_okV {f1 : α → Option Unit} {f2 : α → Option PyData} {dec : PyData → Option β} {f3 : PyData → Option PyData} (n j : Nat) (F : Fun K x qual st f fd) (S : GScope N ps (defScope st)) (hst : defBody st = [.Expr e1 q1, .Assign [.Name y py] e2 q2, .While test [.Expr (.Yield (some ey) yp) q3, .Assign [.Name y q5] e3 q4] [] yp])
    (hn : p.n = ps.length) (hN : N.length = ps.length + j) (he : ∀ a, env a = p.sl a ++ List.replicate j .un) (hi : N[i]? = some y)
    (hX : ∀ (cdv : Value) (A : Around) (outer : List Env) (s : Shared) (H : Hp) (E : XK) (pn : List (Addr × Obj)), Room k (A.deeper (PyProof.Rows.envOfC qual (defScope st) s.heap.objs.size f cdv)) → ∀ X : Cx, X = gcxOf P w K mg base N qual (defScope st) f cdv A outer s H E pn →
      (∀ (C : Cs) a, PE X e1 (tE C (fun _ => env a) qN (ofO (f1 a)))) ∧ (∀ (C : Cs) a, PE X e2 (tE C (fun _ => env a) qV (ofO (f2 a)))) ∧ (∀ (C : Cs) a d, PT X test (tT C (fun _ => (env a).set i (.im qV d)) (W.ret (!isNonV d)))) ∧ (∀ (C : Cs) a d, PE X ey (tE C (fun _ => (env a).set i (.im qV d)) r (ofO (dec d)))) ∧
      (∀ (C : Cs) a d, PE X e3 (tE C (fun _ => (env a).set i (.im qV d)) qV (ofO (f3 d)))) ∧ Loc X.env.scope y ∧ X.fn y = true ∧ swapsWith e1 none q1.line X.env = pure false ∧ swapsWith e2 (some (.Name y py)) q2.line X.env = pure false ∧ swapsWith e3 (some (.Name y q5)) q4.line X.env = pure false ∧ X.env.scope.isCoroutine = false ∧ interactive X.env = false) :
    GFn P w K mg base (k + 1) f fd ps (SpGn p.ra r (fun a => (f1 a).bind fun _ => (f2 a).bind fun d => genV dec f3 n d)) := by
  obtain ⟨oc, od, kV, doc, pm, an, cdv, ct, osl, rfl, lk, hcd⟩ := F.ex
  refine gfn_of lk hcd S (fun vs H Q E h => ?_) fun A outer s H vs Q E pn hr hsp => ?_
  · obtain ⟨_, _, _, _, _, hv, _⟩ := h
    rw [(p.ok (H := H) hv).2.2, hn]
  · obtain ⟨p1, p2, p3, p4, p5, h1, h2, h3, h4, h5, h6, h7⟩ := hX cdv A outer s H E pn hr _ rfl
    rw [hst]
    exact gbody_of (X := gcxOf P w K mg base N qual (defScope st) f cdv A outer s H E pn) n hsp owns_gcx (fun S H a hv => by rw [he a]; exact p.start (by rw [hN, hn]) hv) p1 p2 p3 p4 p5 S.nd hi h1 h2 h3 h4 h5 h6 h7
variable (P w K mg base)
def HasG (x : Str) (k : Nat) (ps : List Str) (sp : SpG) : Prop := ∃ fa fd, GFn P w K mg base k fa fd ps sp ∧ mg x = some (.ref fa) ∧ PySem.W.keepIn K (.ref fa) = true ∧ Binds K fd ps []
end
def limG {β : Type} (o : Option (List β)) : Option (List β) := o.bind fun xs => if xs.length ≤ 100000 then some xs else none
theorem passX {X : Cx} : Passes (L2.CX X.prog X.w) X E0 := fun _ _ _ _ _ _ _ h => by
  obtain ⟨_, _, _, _, _, _, _, _, _, _, _, _, h⟩ := h
  exact h.elim
section
variable {X : Cx} {C : Cs} {env : Gh → List Sl} {e : Expr} {es : List Expr} {pos pos' p p2 : Pos} {α β : Type} {ra : Ra α} {r : Rp β}
theorem xn_listG {g : α → Option (List β)} {m : W α} {j k : Nat} {ps : List Str} {x : Str} (h : HasG X.prog X.w X.K X.mg X.base x j ps (SpGn ra r g)) (hr : Room k X.A) (hj : j + 3 ≤ k) (hl : Gl X "list") (hml : X.mg "list" = none) (hg : Gl X x)
    (ha : PA X (e :: es) (tA C env ra m)) (hdb : (x == ("__debug__" : Str)) = false := by decide) (he : starEach (e :: es) X.env = (false, eval e X.env) :: starEach es X.env := by rfl) (hpl : (backTo pos' (starEach es X.env)).any (·.1) = false := by rfl)
    (he2 : starEach [.Call (.Name x p2) (e :: es) [] pos'] X.env = (false, eval (.Call (.Name x p2) (e :: es) [] pos') X.env) :: starEach [] X.env := by rfl) :
    PE X (.Call (.Name "list" p) [.Call (.Name x p2) (e :: es) [] pos'] [] pos) (tN C env r (m.bind fun a => ofO (limG (g a)))) := by
  obtain ⟨_, _, F, hm, hk, hb⟩ := h
  refine pe_imp (pe_listG (pgen_call (E := E0) F (hr.mono (by omega)) hg hm hk hb .nil ha hdb he hpl) passX (fun _ _ _ h => h.elim) (hr.mono hj) hl hml (by decide +kernel) (by decide) (by decide) he2) fun σ H Q _ ⟨S, g0, P, F0, em, kk⟩ => ⟨S, g0, _, F0, em, fun a g1 ⟨xs, exs, pxs⟩ vs S1 H1 F1 x1 hv => ?_⟩
  obtain ⟨xs', e1, e2⟩ := Option.bind_eq_some_iff.mp exs
  split at e2
  · rename_i hlen
    cases e2
    refine ⟨S1, a, xs, F1.e1, F1.tc, ?_, e1, hlen, fun ys S' H' eS eH eHH n t hy q hq _ => ?_⟩
    · rw [List.append_nil]; exact hv
    · exact kk _ _ pxs q _ S' H' (F1.call eS eH eHH n t) (x1.trans eS) hq hy
  · cases e2
end
section
variable {X : Cx} {C : Cs} {env kp : Gh → List Sl} {e : Expr} {rest : List Stmt} {pos px : Pos} {β γ ρ : Type} {r : Rp ρ} {pn : β → Gh → List Sl} {pl : γ → Gh → List Sl}
theorem xs_augI {i : Nat} {x : Str} {j : Int} {op : Operator} {f : Int → Int → Int} {m : W Int} {K : Int → W (Fl ρ β γ)} (ho : PIp X op (fun x y H Q => ∃ a b, x = .int a ∧ y = .int b ∧ Q (.int (f a b)) H)) (h : PE X e (tE C env qI m)) (hr : ∀ a, PSs X rest (tF C (fun g => (env g).set i (.im qI a)) (K a) pn pl kp r))
    (hN : X.N.Nodup) (hi : X.N[i]? = some x) (hx : Loc X.env.scope x) (hf : X.fn x = true) (he : ∀ g, (env g)[i]? = some (.im qI j) := by intro _; rfl) :
    PSs X (.AugAssign (.Name x px) op e pos :: rest) (tF C env (m.bind fun b => (W.ret (f j b)).bind K) pn pl kp r) :=
  pss_imp (pss_cons (ps_aug hN hi hx h ho (.inl hf)) (pss_ex hr)) fun D σ H _ ⟨S, g0, P, F, em, q⟩ => by
    obtain ⟨v, ev, hv⟩ := F.sl.get i (he g0)
    obtain ⟨w, ew, hw⟩ := hv
    subst ew
    have hw : w = .int j := hw
    subst hw
    exact ⟨_, ev, S, g0, _, F, em, fun b g1 pb y S1 H1 F1 x1 hy => ⟨j, b, rfl, hy, f j b, S1, g1, P, F1.setIm i (r := qI) (v := .int (f j b)) (a := f j b) rfl, pb, fun o g9 po => (q o g9 po).mono x1⟩⟩
end
end Rt

set_option maxRecDepth 100000
set_option maxHeartbeats 4000000
/-! RtX: defs that raise an own error, and a try that catches it. -/
namespace Rt
open PySem L2 Rt PyProof.Rows
def optM {α β : Type} (o : Option α) (f : α → β) (z : β) : β := match o with
  | some v => f v
  | none => z
theorem ofO_optM {α β : Type} (o : Option α) (f : α → Option β) (z : Option β) : ofO (optM o f z) = optM o (fun v => ofO (f v)) (ofO z) := by cases o <;> rfl
def PostX (S H : Hp) (k : Hp → Prop) : Prop := ∀ S' H', Ex S S' → Ex S' H' → Ex H H' → (∀ b, S b = none → H b ≠ none → S' b = none) → Tc S' H' → k H'
theorem Fr.postX {S H S' H' : Hp} {σ : L2.St} {env : List Sl} {k : Hp → Prop} (h : PostX S H k) (F : Fr ⟨[], S, H⟩ S' H' σ env) : k H' :=
  h S' H' F.e0 F.e1 (fun b u e => F.e2 b u e (by simp)) F.nw F.tc
/-- f(..) gives what f gives, or lets an error of the class at c out -/
def SpX {α ρ : Type} (c : Addr) (ra : Ra α) (r : Rp ρ) (f : α → Option (Option ρ)) : Sp := fun vs H Q E => ∃ S a o, Ex S H ∧ Tc S H ∧ ra.p S vs a ∧ f a = some o ∧ (∀ v, o = some v → Post S H r v Q) ∧ (o = none → PostX S H fun H' => E (.ref c) none H')
theorem takesX {P : Program} {w : World} {K : PySem.W.Frag} {mg : Str → Option Value} {base : Heap} {N : List Str} {qual : Str} {sc : Scope} {f : Addr} {cdv : Value} {A : Around} {outer : List Env} {s : Shared} {H : Hp} {E : XK} :
    Takes (cxOf (L2.CX P w) P w K mg base N qual sc f cdv A outer s H E) (fun cls d _ H' => E cls d H') := takes_of rfl rfl rfl rfl
section
variable {P : Program} {w : World} {K : PySem.W.Frag} {mg : Str → Option Value} {base : Heap} {p : Pr α} {N ps : List Str} {k : Nat} {st : Stmt} {x qual : Str} {f c : Addr} {fd : FuncData} {α ρ : Type} {r : Rp ρ} {env : α → List Sl} {test em e1 e2 e3 : Expr} {q1 q2 q3 : Pos} {p : Pr α}
/-- if test: raise em -/
theorem fn_okRaise {g : α → Option Bool} (j : Nat) (F : Fun K x qual st f fd) (S : FnScope N ps (defScope st)) (hst : defBody st = [.If test [.Raise (some em) none q1] [] q2]) (hn : p.n = ps.length) (hN : N.length = ps.length + j) (he : ∀ a, env a = p.sl a ++ List.replicate j .un)
    (hX : ∀ (cdv : Value) (A : Around) (outer : List Env) (s : Shared) (H : Hp) (E : XK), Room k (A.deeper (PyProof.Rows.envOfC qual (defScope st) s.heap.objs.size f cdv)) → ∀ X : Cx, X = cxOf (L2.CX P w) P w K mg base N qual (defScope st) f cdv A outer s H E →
      (∀ (C : Cs) a, PT X test (tT C (fun _ => env a) (ofO (g a)))) ∧ X.calm = true ∧ ∃ t : Str, ∀ (C : Cs) a, PMk X em (fun σ H Q => tE C (fun _ => env a) qS (W.ret t) σ H fun _ H1 => Q (.ref c) none H1)) :
    FnOk P w K mg base (L2.CX P w) (k + 1) f fd ps (SpX c p.ra qN (fun a => (g a).map fun b => if b = true then none else some ())) := by
  refine F.okX S (fun vs H Q E h => ?_) (fun cdv A outer s H vs Q E hr h => ?_)
  · obtain ⟨_, _, _, _, _, hv, _⟩ := h
    rw [(p.ok (H := H) hv).2.2, hn]
  · obtain ⟨S0, a, o, e, tc, hv, eo, k1, k2⟩ := h
    obtain ⟨pt, hc, t, pm⟩ := hX cdv A outer s H E hr _ rfl
    obtain ⟨b0, eb, eo⟩ := Option.map_eq_some_iff.mp eo
    obtain ⟨l1, l2⟩ := p.start (N := N) (j := j) (by rw [hN, hn]) (H := H) hv
    have F0 : Fr ⟨[], S0, H⟩ S0 H (start N vs) (env a) := by rw [he a]; exact Fr.entry e tc l1 l2
    rw [hst]
    refine ⟨_, pss_cons (ps_if (pt ⟨[], S0, H⟩ a) (pss_cons (ps_raise hc takesX (pm ⟨[], S0, H⟩ a)) pss_nil) pss_nil) pss_nil, ?_⟩
    refine ⟨S0, [], fun b _ => b = b0, F0, ⟨b0, eb, rfl⟩, fun b g1 pb S1 H1 F1 x1 => ?_⟩
    subst pb
    cases b with
    | true =>
      rw [if_pos rfl]
      exact ⟨S1, [], fun _ _ => True, F1, True.intro, fun y g2 py v S2 H2 F2 x2 hv2 => F2.postX (k2 eo.symm)⟩
    | false =>
      rw [if_neg (by decide)]
      exact F1.post (k1 () eo.symm) (show qN.p S1 .non () from rfl)
/-- e1; e2, which may raise; return e3 -/
theorem fn_okSeqX {g1 : α → Option Unit} {g2 : α → Option (Option Unit)} {g3 : α → Option ρ} (j : Nat) (F : Fun K x qual st f fd) (S : FnScope N ps (defScope st)) (hst : defBody st = [.Expr e1 q1, .Expr e2 q2, .Return (some e3) q3]) (hn : p.n = ps.length) (hN : N.length = ps.length + j) (he : ∀ a, env a = p.sl a ++ List.replicate j .un)
    (hX : ∀ (cdv : Value) (A : Around) (outer : List Env) (s : Shared) (H : Hp) (E : XK), Room k (A.deeper (PyProof.Rows.envOfC qual (defScope st) s.heap.objs.size f cdv)) → ∀ X : Cx, X = cxOf (L2.CX P w) P w K mg base N qual (defScope st) f cdv A outer s H E →
      (∀ (C : Cs) a, PE X e1 (tE C (fun _ => env a) qN (ofO (g1 a)))) ∧ (∃ (α2 : Type) (ra2 : Ra α2) (h2 : α2 → Option (Option Unit)) (i2 : α → α2), (∀ a, g2 a = h2 (i2 a)) ∧ ∀ (C : Cs) a, PE X e2 (fun σ H Q => ∃ t : TA, (t = tA C (fun _ => env a) ra2 (W.ret (i2 a))) ∧ t σ H fun vs H1 => SpX c ra2 qN h2 vs H1 Q (fun cls d H' => E cls d H'))) ∧ (∀ (C : Cs) a, PE X e3 (tE C (fun _ => env a) r (ofO (g3 a)))) ∧ swapsWith e1 none q1.line X.env = pure false ∧ swapsWith e2 none q2.line X.env = pure false) :
    FnOk P w K mg base (L2.CX P w) (k + 1) f fd ps (SpX c p.ra r (fun a => (g1 a).bind fun _ => (g2 a).bind fun o => match o with | none => some none | some _ => (g3 a).map some)) := by
  refine F.okX S (fun vs H Q E h => ?_) (fun cdv A outer s H vs Q E hr h => ?_)
  · obtain ⟨_, _, _, _, _, hv, _⟩ := h
    rw [(p.ok (H := H) hv).2.2, hn]
  · obtain ⟨S0, a, o, e, tc, hv, eo, k1, k2⟩ := h
    obtain ⟨p1, ⟨α2, ra2, h2, i2, e2', p2⟩, p3, s1, s2⟩ := hX cdv A outer s H E hr _ rfl
    obtain ⟨_, eo1, eo⟩ := Option.bind_eq_some_iff.mp eo
    obtain ⟨o2, eo2, eo⟩ := Option.bind_eq_some_iff.mp eo
    obtain ⟨l1, l2⟩ := p.start (N := N) (j := j) (by rw [hN, hn]) (H := H) hv
    have F0 : Fr ⟨[], S0, H⟩ S0 H (start N vs) (env a) := by rw [he a]; exact Fr.entry e tc l1 l2
    rw [hst]
    refine ⟨_, pss_cons (ps_expr (p1 ⟨[], S0, H⟩ a) s1) (pss_cons (ps_expr (p2 ⟨[], S0, H⟩ a) s2) (pss_cons (ps_ret (p3 ⟨[], S0, H⟩ a)) pss_never)), ?_⟩
    refine ⟨S0, [], fun _ _ => True, F0, ⟨(), eo1, True.intro⟩, fun a1 g1' pa v S1 H1 F1 x1 hv1 => ?_⟩
    refine ⟨_, rfl, S1, [], fun y _ => y = i2 a, F1, rfl, fun y g2' py vs2 S2 H2 F2 x2 hv2 => ?_⟩
    subst py
    refine ⟨S2, i2 a, o2, F2.e1, F2.tc, hv2, by rw [← e2', eo2], fun u eu v S' H' eS eH eHH n t hr' => ?_, fun en S' H' eS eH eHH n t => ?_⟩
    · subst eu
      obtain ⟨v3, ev3, eo⟩ := Option.map_eq_some_iff.mp eo
      have F3 := F2.call eS eH eHH n t
      exact ⟨S', [], fun y _ => y = v3, F3, ⟨v3, ev3, rfl⟩, fun y g4 py v4 S4 H4 F4 x4 hv4 => by
        subst py
        exact F4.post (k1 _ eo.symm) hv4⟩
    · subst en
      cases eo
      exact (F2.call eS eH eHH n t).postX (k2 rfl)
end
section
variable {X : Cx} {C : Cs} {env kp : Gh → List Sl} {x y : Str} {e eh : Expr} {es : List Expr} {rest : List Stmt} {pos np pos' pp p q1 q2 : Pos} {α ρ β γ : Type} {r : Rp ρ} {ra : Ra α} {pn : β → Gh → List Sl} {pl : γ → Gh → List Sl} {c f : Addr} {fd : FuncData} {ps : List Str} {k : Nat}
/-- try: return y(e, ..) / except x: return eh -/
theorem xs_tryRet {g : α → Option (Option ρ)} {m : W α} {mh : W ρ} (hs : X.stack = X.env :: X.outer) (hf : X.env.frame = some X.env.locals) (hc : Names X x (.ref c)) (hxm : PySem.W.exmOne X.K (.ref c) (.ref c) = some true) (tk : Takes X (fun _ _ _ _ => False))
    (F : FnOk X.prog X.w X.K X.mg X.base (L2.CX X.prog X.w) k f fd ps (SpX c ra r g)) (hr : Room k X.A) (hg : Gl X y) (hm : X.mg y = some (.ref f)) (hk : PySem.W.keepIn X.K (.ref f) = true) (hb : Binds X.K fd ps [])
    (ha : ∀ pn xe, PA (X.tr pn xe) (e :: es) (tA C env ra m)) (hh : ∀ a pn, PE (X.suite a pn) eh (tE C env r mh)) (hdb : (y == ("__debug__" : Str)) = false := by decide) (he : starEach (e :: es) X.env = (false, eval e X.env) :: starEach es X.env := by rfl) (hpl : (backTo pp (starEach es X.env)).any (·.1) = false := by rfl) (hkp : Kp env kp := by first | exact ⟨0, fun _ => rfl⟩ | exact ⟨1, fun _ => rfl⟩) :
    PSs X (.Try [.Return (some (.Call (.Name y p) (e :: es) [] pp)) q1] [.ExceptHandler (some (.Name x np)) none [.Return (some eh) q2] pos'] [] [] pos :: rest) (tF C env ((m.bind fun a => (ofO (g a)).bind fun o => optM o (fun v => .ret v) mh).bind fun v => .ret (.rt v)) pn pl kp r) :=
  pss_imp (pss_cons (ps_try_only (c := .ref c) (ts := fun _ _ _ => tSeq (tRet (tE C env r mh)) (fun _ _ _ => False)) (tb := fun W => tSeq (tRet (tCallS (SpX c ra r g) (WE W) (tA C env ra m))) (fun _ _ _ => False)) hs hf hc tk
      (fun W pn xe tkw _ => pss_cons (ps_ret (pe_callS (X := X.tr pn xe) F hr hg hm hk hb (passAt tkw) (ha pn xe) hdb he hpl)) pss_never)
      (fun a oe cls d pn _ _ => pss_cons (ps_ret (hh a _)) pss_never)) pss_never) fun D σ H _ ⟨S, g0, P, F0, em, q⟩ => by
    refine ⟨S, g0, _, F0, em, fun a g1 ⟨o, eo, po⟩ vs S1 H1 F1 x1 hv => ?_⟩
    refine ⟨S1, a, o, F1.e1, F1.tc, hv, eo, fun v ev w S' H' eS eH eHH n t hw => ?_, fun en S' H' eS eH eHH n t => ?_⟩
    · subst ev
      obtain ⟨σ', F'⟩ := (F1.call eS eH eHH n t).kp hkp
      exact q _ g1 po w S' H' σ' F' (x1.trans eS) hw
    · subst en
      have F2 := F1.call eS eH eHH n t
      refine ⟨true, hxm, fun _ z hz => ?_, fun z => nomatch z⟩
      exact ⟨S', g1, _, F2, po, fun v g2 pv w S3 H3 F3 x3 hw => by
        obtain ⟨σ', F'⟩ := F3.kp hkp
        exact q _ g2 pv w S3 H3 σ' F' (x1.trans (eS.trans x3)) hw⟩
end
/-! ### in another dress: tuples and pairs of values -/
section
variable {X : Cx} {C : Cs} {env : Gh → List Sl} {e : Expr} {α β : Type} {r : Rp α} {q : Rp β}
theorem all2_enc (E : Ve r) {H : Hp} : ∀ {vs : List V} {xs : List α}, All2 (r.p H) vs xs → All2 (qV.p H) vs (xs.map E.enc)
  | [], [], _ => True.intro
  | _ :: _, _ :: _, ⟨a, b⟩ => ⟨E.rep a, all2_enc E b⟩
  | [], _ :: _, z => z.elim
  | _ :: _, [], z => z.elim
theorem xe_encT {m : W (List α)} (E : Ve r) (h : PE X e (tE C env (qT r) m)) : PE X e (tE C env (qT qV) (m.bind fun xs => .ret (xs.map E.enc))) := xe_as (r := qT r) (rb := qT qV) (fun H v a ⟨p, vs, h1, h2, h3⟩ => ⟨p, vs, h1, h2, all2_enc E h3⟩) h
theorem xe_encP1 {m : W (α × β)} (E : Ve r) (h : PE X e (tE C env (qP r q) m)) : PE X e (tE C env (qP qV q) (m.bind fun x => .ret (E.enc x.1, x.2))) := xe_as (r := qP r q) (rb := qP qV q) (fun H v a ⟨p, x, y, h1, h2, h3, h4⟩ => ⟨p, x, y, h1, h2, E.rep h3, h4⟩) h
end
/-! ### by name -/
/-- what the written part says of an own error's class -/
structure ExcT (K : PySem.W.Frag) (mg : Str → Option Value) (x : Str) (c : Addr) : Prop where
  gC : mg x = some (.ref c)
  kC : PySem.W.keepIn K (.ref c) = true
  q : ∃ bm, ExcBaseFacts "ValueError" "ValueError.__new__" "ValueError.__init__" bm ∧ PySem.W.excIn K c bm "ValueError.__new__" = true
  sub : PySem.W.subIn K (.ref c) (.type "BaseException") = some true
  ty : PySem.W.typeIn K (.ref c) = some (.type "type")
  te : PySem.W.exmOne K (.ref c) (.ref c) = some true
theorem exmS {K : PySem.W.Frag} {c : Addr} (h1 : PySem.W.subIn K (.ref c) (.type "BaseException") = some true) (h2 : PySem.W.isClsIn K c = true) (h3 : PySem.W.typeIn K (.ref c) = some (.type "type")) (h4 : PySem.W.subIn K (.ref c) (.ref c) = some true) : PySem.W.exmOne K (.ref c) (.ref c) = some true := by
  have h5 : (PySem.W.clsIn K c).isSome = true := h2
  unfold PySem.W.exmOne PySem.W.kitCls
  simp [h1, h3, h4, h5]
def HasX (P : Program) (w : World) (K : PySem.W.Frag) (mg : Str → Option Value) (base : Heap) (x : Str) (k : Nat) (ps : List Str) (sp : Sp) : Prop := ∃ fa fd, FnOk P w K mg base (L2.CX P w) k fa fd ps sp ∧ mg x = some (.ref fa) ∧ PySem.W.keepIn K (.ref fa) = true ∧ Binds K fd ps []
section
variable {X : Cx} {C : Cs} {env kp : Gh → List Sl} {x y : Str} {e eh : Expr} {es : List Expr} {rest : List Stmt} {pos np pos' pp p q1 q2 : Pos} {α ρ β γ : Type} {r : Rp ρ} {ra : Ra α} {pn : β → Gh → List Sl} {pl : γ → Gh → List Sl} {c : Addr} {ps : List Str} {j k : Nat} {E : XK}
theorem pe_callX {g : α → Option (Option ρ)} {m : W α} (h : HasX X.prog X.w X.K X.mg X.base y j ps (SpX c ra r g)) (hr : Room k X.A) (hj : j ≤ k) (tk : Takes X (fun cls d _ H' => E cls d H')) (hg : Gl X y) (ha : PA X (e :: es) (tA C env ra m)) (hdb : (y == ("__debug__" : Str)) = false := by decide) (he : starEach (e :: es) X.env = (false, eval e X.env) :: starEach es X.env := by rfl) (hpl : (backTo pp (starEach es X.env)).any (·.1) = false := by rfl) :
    PE X (.Call (.Name y p) (e :: es) [] pp) (fun σ H Q => ∃ t : TA, t = tA C env ra m ∧ t σ H fun vs H1 => SpX c ra r g vs H1 Q (fun cls d H' => E cls d H')) := by
  obtain ⟨_, _, F, hm, hk, hb⟩ := h
  refine ⟨fun pins s σ H Q I ⟨t, et, h⟩ => ?_⟩
  subst et
  exact (pe_callS F (hr.mono hj) hg hm hk hb (passAt tk) ha hdb he hpl).run pins s σ H Q I h
theorem pmk_x {a : Expr} {te : TE} (T : ExcT X.K X.mg x c) (hg : Gl X x) (he : PE X a te) (hs : starEach [a] X.env = (false, eval a X.env) :: starEach [] X.env := by rfl) (hdb : (x == ("__debug__" : Str)) = false := by decide) :
    PMk X (.Call (.Name x p) [a] [] pos) (fun σ H Q => te σ H fun _ H1 => Q (.ref c) none H1) := by
  obtain ⟨bm, F, q⟩ := T.q
  exact SkE.pmk_own1 F q T.gC T.kC (raises_own T.sub T.ty) hg he hs hdb
theorem spx_enc (E : Ve r) {g : α → Option (Option ρ)} {vs : List V} {H : Hp} {Q : VK} {E' : XK} (h : SpX c ra qV (fun a => (g a).map fun o => o.map E.enc) vs H Q E') : SpX c ra r g vs H Q E' := by
  obtain ⟨S, a, o, e, t, hv, eo, k1, k2⟩ := h
  obtain ⟨o', eo2, rfl⟩ := Option.map_eq_some_iff.mp eo
  refine ⟨S, a, o', e, t, hv, eo2, fun v ev => ?_, fun en => ?_⟩
  · subst ev
    exact fun w S' H' a1 a2 a3 a4 a5 hw => k1 _ rfl w S' H' a1 a2 a3 a4 a5 (E.rep hw)
  · subst en
    exact k2 rfl
theorem xs_tryX {g : α → Option (Option ρ)} {m : W α} {mh : W PyData} (E : Ve r) (h : HasX X.prog X.w X.K X.mg X.base y j ps (SpX c ra r g)) (T : ExcT X.K X.mg x c) (hgx : Gl X x) (hs : X.stack = X.env :: X.outer) (hf : X.env.frame = some X.env.locals)
    (hr : Room k X.A) (hj : j ≤ k) (hg : Gl X y) (ha : ∀ pn xe, PA (X.tr pn xe) (e :: es) (tA C env ra m)) (hh : ∀ a pn, PE (X.suite a pn) eh (tE C env qV mh)) (hdx : (x == ("__debug__" : Str)) = false := by decide) (hdb : (y == ("__debug__" : Str)) = false := by decide)
    (he : starEach (e :: es) X.env = (false, eval e X.env) :: starEach es X.env := by rfl) (hpl : (backTo pp (starEach es X.env)).any (·.1) = false := by rfl) (hkp : Kp env kp := by first | exact ⟨0, fun _ => rfl⟩ | exact ⟨1, fun _ => rfl⟩) :
    PSs X (.Try [.Return (some (.Call (.Name y p) (e :: es) [] pp)) q1] [.ExceptHandler (some (.Name x np)) none [.Return (some eh) q2] pos'] [] [] pos :: rest) (tF C env ((m.bind fun a => (ofO ((g a).map fun o => o.map E.enc)).bind fun o => optM o (fun v => .ret v) mh).bind fun v => .ret (.rt v)) pn pl kp qV) := by
  obtain ⟨_, _, F, hm, hk, hb⟩ := h
  exact xs_tryRet (r := qV) (g := fun a => (g a).map fun o => o.map E.enc) hs hf ⟨hgx, hdx, .inl T.gC⟩ T.te takes0 (F.imp fun vs H Q E' q => spx_enc E q) (hr.mono hj) hg hm hk hb ha hh hdb he hpl hkp
end
end Rt

set_option maxRecDepth 100000
set_option maxHeartbeats 4000000
/-! RtR: texts of data (repr), where no repr is under way; methods of tuples; three targets at once. -/
namespace Rt
open PySem L2 Rt PyProof.Rows
def isSeqD : PyData → Bool
  | .list _ => true
  | .tuple _ => true
  | _ => false
def reprC (d : PyData) : Option Str := if isSeqD d = true ∧ d.showable = true ∧ d.hasDict = false ∧ d.depth ≤ 50 ∧ d.shown.length ≤ 1000000 then some d.shown else none
theorem call_reprD {X : Cx} (hG : X.A.guards = some []) (hu : X.A.units + 64 < cLine) : CallR X (.builtin "repr") (fun xs H Q => ∃ v d z, xs = [v] ∧ Dp X.K H v d ∧ reprC d = some z ∧ Q (.str z) H) := by
  intro pins s σ H xs us Q I r ⟨v, d, z, ex, hd, ez, q⟩
  subst ex
  obtain ⟨u, rfl, rx⟩ := vals1 r
  unfold reprC at ez
  split at ez
  case isFalse => cases ez
  rename_i c
  cases ez
  obtain ⟨c1, c2, c3, c4, c5⟩ := c
  obtain ⟨as, hr⟩ := Dp.reads I d v u hd rx
  have ha : ∃ a, u = .ref a := by
    cases hd with
    | lst _ _ => exact ⟨_, rx⟩
    | tup _ _ => exact ⟨_, rx⟩
    | _ => cases c1
  obtain ⟨a, rfl⟩ := ha
  exact repr_of_reads' (h₀ := s.heap) hr c2 (fun h => by rw [c3] at h; cases h) hG (by omega) (fun _ _ e => e) (fun h' u tk hk => ⟨.str _, H, I.kept (t' := tk) hk, ⟨_, rfl⟩, q⟩) (by rw [sizeLine_eq]; omega)
section
variable {X : Cx} {C : Cs} {env kp : Gh → List Sl} {a b c e : Expr} {pos p px pa pc : Pos} {α β γ : Type} {r ra : Rp α} {rb : Rp β} {rc : Rp γ} {mi : W Int}
theorem xe_reprD {md : W PyData} (hG : X.A.guards = some []) (hu : X.A.units + 64 < cLine) (hg : Gl X "repr") (hm : X.mg "repr" = none) (ha : PE X a (tE C env (qD X.K) md)) (hs : starEach [a] X.env = (false, eval a X.env) :: starEach [] X.env := by rfl) :
    PE X (.Call (.Name "repr" p) [a] [] pos) (tE C env qS (md.bind fun d => ofO (reprC d))) :=
  pe_imp (pe_callB (call_reprD hG hu) hg hm (by decide +kernel) (pa_cons ha pa_nil hs) (by decide) (by decide) hs (by rfl)) fun σ H Q _ ⟨S, g0, P, F, em, kk⟩ => ⟨S, g0, _, F, em, fun d g1 ⟨z, ez, pz⟩ v S1 H1 F1 x1 hv =>
    ⟨v, d, z, rfl, (qD X.K).mono F1.e1 hv, ez, fun _ => kk z _ pz _ S1 H1 F1 x1 rfl⟩⟩
/-! ### t.index(x), t.count(x) of ints -/
theorem xe_tindex {mx : W (List Int)} (ha : PE X a (tE C env (qT qI) mx)) (hb : PE X b (tE C env qI mi)) (hbase : attributeBase a "index" X.env (eval a X.env) = eval a X.env := by rfl)
    (hfew : ((backTo pc (starEach [b] X.env)).all (fun x => !x.1) && (backToKw pc (keywordEach [] X.env)).all (fun x => x.1.isSome) && decide (([b] : List Expr).length + ([] : List Keyword).length + (if ([] : List Keyword).isEmpty then 0 else 1) < 30)) = true := by rfl)
    (hline : (pa.endLine == pc.line) = true := by rfl) (hs : starEach [b] X.env = (false, eval b X.env) :: starEach [] X.env := by rfl) : PE X (.Call (.Attribute a "index" pa) [b] [] pc) (tE C env qI (mx.bind fun xs => mi.bind fun v => ofO (idxC xs v))) :=
  pe_imp (RtU.pe_bmU PySem.F.slot_tuple_index PySem.F.type_tuple_index RtU.mt_indexU ha (pa_cons hb pa_nil hs) hbase hfew hline hs (by rfl)) fun σ H Q _ ⟨S, g0, P, F, em, k⟩ => ⟨S, g0, _, F, em, fun xs g1 px v S1 H1 F1 x1 ⟨p, vs, ev, hp, h2⟩ =>
    ⟨⟨p, hp.choose, vs, ev, hp.choose_spec.1, F1.e1 _ _ hp.choose_spec.2⟩, S1, g1, _, F1, px, fun i g2 ⟨z, ez, pz⟩ u S2 H2 F2 x2 hu => by
      subst ev
      have e3 : vs = xs.map V.int := flat_ints h2
      subst e3
      unfold idxC at ez
      obtain ⟨n, en, rfl⟩ := Option.map_eq_some_iff.mp ez
      obtain ⟨q1, q2⟩ := idx_at en
      rw [show u = V.int i from hu]
      exact ⟨p, _, .int i, n, .int i, rfl, rfl, TupAt.sq (TupAt.mono F2.e1 (TupAt.mono x2 hp)), rfl, all_flat xs, q1, by show (i == i) = true; simp, q2, fun _ => k _ _ pz _ S2 H2 F2 (x1.trans x2) rfl⟩⟩⟩
def cntI (xs : List Int) (v : Int) : Int := ((xs.countP fun y => decide (y = v) : Nat) : Int)
theorem cnt_eqV (v : Int) : ∀ xs : List Int, (xs.map V.int).countP (fun z => eqV z (.int v)) = xs.countP fun y => decide (y = v)
  | [] => rfl
  | x :: xs => by
    rw [List.map_cons, List.countP_cons, List.countP_cons, cnt_eqV v xs]
    congr 1
theorem xe_tcount {mx : W (List Int)} (ha : PE X a (tE C env (qT qI) mx)) (hb : PE X b (tE C env qI mi)) (hbase : attributeBase a "count" X.env (eval a X.env) = eval a X.env := by rfl)
    (hfew : ((backTo pc (starEach [b] X.env)).all (fun x => !x.1) && (backToKw pc (keywordEach [] X.env)).all (fun x => x.1.isSome) && decide (([b] : List Expr).length + ([] : List Keyword).length + (if ([] : List Keyword).isEmpty then 0 else 1) < 30)) = true := by rfl)
    (hline : (pa.endLine == pc.line) = true := by rfl) (hs : starEach [b] X.env = (false, eval b X.env) :: starEach [] X.env := by rfl) : PE X (.Call (.Attribute a "count" pa) [b] [] pc) (tE C env qI (mx.bind fun xs => mi.bind fun v => .ret (cntI xs v))) :=
  pe_imp (RtU.pe_bmU PySem.F.slot_tuple_count PySem.F.type_tuple_count RtU.mt_countU ha (pa_cons hb pa_nil hs) hbase hfew hline hs (by rfl)) fun σ H Q _ ⟨S, g0, P, F, em, k⟩ => ⟨S, g0, _, F, em, fun xs g1 px v S1 H1 F1 x1 ⟨p, vs, ev, hp, h2⟩ =>
    ⟨⟨p, hp.choose, vs, ev, hp.choose_spec.1, F1.e1 _ _ hp.choose_spec.2⟩, S1, g1, _, F1, px, fun i g2 pz u S2 H2 F2 x2 hu => by
      subst ev
      have e3 : vs = xs.map V.int := flat_ints h2
      subst e3
      rw [show u = V.int i from hu]
      exact ⟨p, _, .int i, rfl, rfl, TupAt.sq (TupAt.mono F2.e1 (TupAt.mono x2 hp)), rfl, all_flat xs, fun _ => k _ _ pz _ S2 H2 F2 (x1.trans x2) (by rw [cnt_eqV]; rfl)⟩⟩⟩
/-! ### a, b, c = a list of three -/
theorem xe_unL3 {m : W (List α)} (h : PE X e (tE C env (qL ra) m)) : PE X e (tE C env (⟨fun H v (x : α × α × α) => (qL ra).p H v [x.1, x.2.1, x.2.2], fun e h => (qL ra).mono e h⟩ : Rp (α × α × α)) (m.bind fun x => ofO (three x))) :=
  xe_asO (ra := qL ra) (rb := (⟨fun H v (x : α × α × α) => (qL ra).p H v [x.1, x.2.1, x.2.2], fun e h => (qL ra).mono e h⟩ : Rp (α × α × α))) (fun H v a b h e => by
    match a, e with
    | [x, y, z], e =>
      cases e
      exact h) h
theorem xg_tripleL {up1 up2 up3 : Up α} {kk : Nat} (hc : X.calm = true) (h1 : PG X a (tG ra up1)) (h2 : PG X b (tG ra up2)) (h3 : PG X c (tG ra up3))
    (hs : (assignEach [a, b, c] X.env).map (·.2) = assign a X.env :: (assignEach [b, c] X.env).map (·.2) := by rfl) (hs2 : (assignEach [b, c] X.env).map (·.2) = assign b X.env :: (assignEach [c] X.env).map (·.2) := by rfl) (hs3 : (assignEach [c] X.env).map (·.2) = assign c X.env :: (assignEach [] X.env).map (·.2) := by rfl)
    (hn : (assignEach [a, b, c] X.env).length = 3 := by rfl) (hst : (assignEach [a, b, c] X.env).findIdx? (·.1) = none := by rfl) :
    PG X (.Tuple [a, b, c] kk pos) (tG (⟨fun H v (x : α × α × α) => (qL ra).p H v [x.1, x.2.1, x.2.2], fun e h => (qL ra).mono e h⟩ : Rp (α × α × α)) (uP3 up1 up2 up3)) :=
  pg_imp (pg_lst hc (pgs_cons h1 (pgs_cons h2 (pgs_cons h3 pgs_nil hs3) hs2) hs) hn hst) fun v σ H Q ⟨C, S, env, x, F, ⟨p, vs, ev, hp, hall⟩, q⟩ => by
    match vs, hall with
    | [v1, v2, v3], ⟨r1, r2, r3, _⟩ =>
      exact ⟨p, [v1, v2, v3], ev, SqL.of (F.e1 _ _ hp), rfl, v1, [v2, v3], rfl, C, S, env, x.1, F, r1, fun σ1 l1 n1 F1 => ⟨v2, [v3], rfl, C, S, _, x.2.1, F1, r2, fun σ2 l2 n2 F2 => ⟨v3, [], rfl, C, S, _, x.2.2, F2, r3, fun σ3 l3 n3 F3 => ⟨rfl, q σ3 (l3.trans (l2.trans l1)) (fun i hi => by
        have hi : i ∉ up1.js ++ (up2.js ++ up3.js) := hi
        simp at hi
        rw [n3 i hi.2.2, n2 i hi.2.1, n1 i hi.1]) F3⟩⟩⟩⟩
end
/-! ### a tuple of texts of the module's own -/
def TupG (K : PySem.W.Frag) (p : Addr) (xs : List Str) : Prop := ∀ H, SqT K H p (xs.map V.str)
theorem tupG_mk {K : PySem.W.Frag} {p : Addr} {its : Array Value} {n : Nat} {dn : Option Addr} {sl : Array (Option Value)} {xs : List Str} (l : K.lookup p = some ⟨.type "tuple", dn, .seq its n, sl⟩) (z : its.size ≤ sizeLine) (hv : Vals (xs.map V.str) its.toList) : TupG K p xs :=
  fun H => .inr ⟨_, its, n, l, rfl, rfl, z, hv⟩
theorem inV_str (x : Str) : ∀ xs : List Str, inV (.str x) (xs.map V.str) = xs.any fun y => decide (y = x)
  | [] => rfl
  | y :: xs => by
    have ih := inV_str x xs
    unfold inV at ih ⊢
    rw [List.map_cons, List.any_cons, List.any_cons, ih]
    congr 1
section
variable {X : Cx} {C : Cs} {env : Gh → List Sl} {a b : Expr} {x : Str} {pos p px : Pos} {ms : W Str} {q : Addr} {xs : List Str}
theorem cq_inG {op : CmpOp} {neg : Bool} (ho : OpR X (compareOp op) (rIn X.K neg)) (ha : PE X a (tE C env qS ms)) (hg : Gl X x) (hm : X.mg x = some (.ref q)) (hK : TupG X.K q xs) (hk : behindInMarks op (.Name x px) = false) (hd : (x == ("__debug__" : Str)) = false) :
    PE X (.Compare a [op] [.Name x px] pos) (tE C env qB (ms.bind fun i => .ret (if neg then !(xs.any fun y => decide (y = i)) else xs.any fun y => decide (y = i)))) :=
  pe_imp (pe_cmpR ho ha (pe_glob (v := .ref q) hg hm rfl hd) hk) fun σ H Q _ ⟨S, g0, P, F, em, kk⟩ => ⟨S, g0, _, F, em, fun i g1 pi v S1 H1 F1 x1 hv => by
    rw [show v = .str i from hv]
    exact ⟨q, _, rfl, .inr (hK H1), rfl, flat_strs xs, fun _ => kk _ _ pi _ S1 H1 F1 x1 (by rw [inV_str]; rfl)⟩⟩
theorem ct_inG {op : CmpOp} {neg : Bool} (ho : OpR X (compareOp op) (rIn X.K neg)) (ha : PE X a (tE C env qS ms)) (hg : Gl X x) (hm : X.mg x = some (.ref q)) (hK : TupG X.K q xs) (hk : behindInMarks op (.Name x px) = false) (hd : (x == ("__debug__" : Str)) = false) :
    PT X (.Compare a [op] [.Name x px] pos) (tT C env (ms.bind fun i => .ret (if neg then !(xs.any fun y => decide (y = i)) else xs.any fun y => decide (y = i)))) :=
  pt_imp (pt_cmpR ho ha (pe_glob (v := .ref q) hg hm rfl hd) hk) fun σ H Q _ ⟨S, g0, P, F, em, kk⟩ => ⟨S, g0, _, F, em, fun i g1 pi v S1 H1 F1 x1 hv => by
    rw [show v = .str i from hv]
    exact ⟨q, _, rfl, .inr (hK H1), rfl, flat_strs xs, _, rfl, fun _ => by
      rw [inV_str]
      exact kk _ _ pi S1 H1 F1 x1⟩⟩
theorem xe_inG (ha : PE X a (tE C env qS ms)) (hg : Gl X x) (hK : ∃ q, X.mg x = some (.ref q) ∧ TupG X.K q xs) (hk : behindInMarks .In (.Name x px) = false := by with_unfolding_all rfl) (hd : (x == ("__debug__" : Str)) = false := by decide) :
    PE X (.Compare a [.In] [.Name x px] pos) (tE C env qB (ms.bind fun i => .ret (xs.any fun y => decide (y = i)))) := let ⟨_, h1, h2⟩ := hK; cq_inG (neg := false) op_in_seq ha hg h1 h2 hk hd
theorem xt_inG (ha : PE X a (tE C env qS ms)) (hg : Gl X x) (hK : ∃ q, X.mg x = some (.ref q) ∧ TupG X.K q xs) (hk : behindInMarks .In (.Name x px) = false := by with_unfolding_all rfl) (hd : (x == ("__debug__" : Str)) = false := by decide) :
    PT X (.Compare a [.In] [.Name x px] pos) (tT C env (ms.bind fun i => .ret (xs.any fun y => decide (y = i)))) := let ⟨_, h1, h2⟩ := hK; ct_inG (neg := false) op_in_seq ha hg h1 h2 hk hd
theorem xe_ninG (ha : PE X a (tE C env qS ms)) (hg : Gl X x) (hK : ∃ q, X.mg x = some (.ref q) ∧ TupG X.K q xs) (hk : behindInMarks .NotIn (.Name x px) = false := by with_unfolding_all rfl) (hd : (x == ("__debug__" : Str)) = false := by decide) :
    PE X (.Compare a [.NotIn] [.Name x px] pos) (tE C env qB (ms.bind fun i => .ret !(xs.any fun y => decide (y = i)))) := let ⟨_, h1, h2⟩ := hK; cq_inG (neg := true) op_notIn_seq ha hg h1 h2 hk hd
theorem xt_ninG (ha : PE X a (tE C env qS ms)) (hg : Gl X x) (hK : ∃ q, X.mg x = some (.ref q) ∧ TupG X.K q xs) (hk : behindInMarks .NotIn (.Name x px) = false := by with_unfolding_all rfl) (hd : (x == ("__debug__" : Str)) = false := by decide) :
    PT X (.Compare a [.NotIn] [.Name x px] pos) (tT C env (ms.bind fun i => .ret !(xs.any fun y => decide (y = i)))) := let ⟨_, h1, h2⟩ := hK; ct_inG (neg := true) op_notIn_seq ha hg h1 h2 hk hd
end
theorem units64 {k : Nat} {A : Around} (r : Room k A) : A.units + 64 < cLine := by
  have := r.un
  omega
theorem units66 {k : Nat} {A : Around} (r : Room k A) : A.units + 66 < cLine := by
  have := r.un
  omega
end Rt

set_option maxRecDepth 100000
set_option maxHeartbeats 4000000
/-! RtY: x, y = a new list, b, one of the two names a cell. -/
namespace Rt
open PySem L2 Rt PyProof.Rows
section
variable {X : Cx} {C : Cs} {env kp : Gh → List Sl} {e a b : Expr} {es : List Expr} {rest : List Stmt} {pos p px : Pos} {α β γ ρ : Type} {r : Rp ρ} {pn : β → Gh → List Sl} {pl : γ → Gh → List Sl}
theorem xs_parN1c {i j : Nat} {x y : Str} {px py pt0 : Pos} {kt k2 : Nat} {pt2 : Pos} {α1 α2 : Type} {r1 : Rp α1} {r2 : Rp α2} {m1 : W (List α1)} {m2 : W α2} {K : List α1 → α2 → W (Fl ρ β γ)} (ha : PE X a (tN C env r1 m1)) (hb : ∀ C', PE X b (tE C' env r2 m2)) (hr : ∀ a b, PSs X rest (tF C (fun g => ((env g).set i (.ow r1 a)).set j (.im r2 b)) (K a b) pn pl kp r))
    (hc : X.calm = true) (hN : X.N.Nodup) (hi : X.N[i]? = some x) (hj : X.N[j]? = some y) (hx : Loc X.env.scope x) (hy : Loc X.env.scope y) (hfx : X.fn x = true) (hfy : X.fn y = true)
    (hw : swappedStores [.Tuple [.Name x px, .Name y py] kt pt0] (.Tuple [a, b] k2 pt2) X.env = pure none := by rfl) (hs : swapsWithSole [.Tuple [.Name x px, .Name y py] kt pt0] (.Tuple [a, b] k2 pt2) pos.line X.env = pure false := by rfl)
    (h3 : (assignEach [.Tuple [.Name x px, .Name y py] kt pt0] X.env).map (·.2) = [assign (.Tuple [.Name x px, .Name y py] kt pt0) X.env] := by rfl)
    (g1 : (assignEach [.Name x px, .Name y py] X.env).map (·.2) = assign (.Name x px) X.env :: (assignEach [.Name y py] X.env).map (·.2) := by rfl) (g2 : (assignEach [.Name y py] X.env).map (·.2) = assign (.Name y py) X.env :: (assignEach [] X.env).map (·.2) := by rfl)
    (hn : (assignEach [.Name x px, .Name y py] X.env).length = 2 := by rfl) (hst : (assignEach [.Name x px, .Name y py] X.env).findIdx? (·.1) = none := by rfl)
    (h1 : starEach [a, b] X.env = (false, eval a X.env) :: starEach [b] X.env := by rfl) (h2 : starEach [b] X.env = (false, eval b X.env) :: starEach [] X.env := by rfl) (hE : ∀ g g', Gs (env g) (env g') := by intro _ _; repeat (first | exact Gs.nil | apply Gs.keep | apply Gs.gh)) :
    PSs X (.Assign [.Tuple [.Name x px, .Name y py] kt pt0] (.Tuple [a, b] k2 pt2) pos :: rest) (tF C env (m1.bind fun a => m2.bind fun b => K a b) pn pl kp r) :=
  pss_imp (pss_cons (ps_asg (RtU.pe_tupU (pa_cons ha (pa_cons (pe_ex hb) pa_nil h2) h1)) (pg_tup hc (pgs_cons (pg_name hN hi hx (.inl hfx)) (pgs_cons (pg_name hN hj hy (.inl hfy)) pgs_nil g2) g1) hn hst) hs hw h3) (pss_ex fun p : List α1 × α2 => hr p.1 p.2)) fun D σ H _ ⟨S, g0, P, F, em, q⟩ => ⟨S, g0, _, F, em, fun xs g1 px p vs S1 H1 F1 x1 hp hv => by
    have G0 := F1.add hp (o := .lst vs)
    have np : ∀ g, p ∉ owns σ (env g) := fun g z => by
      obtain ⟨_, o, e⟩ := F1.sl.own ((hE g g1).owns σ ▸ z)
      rw [hp] at e
      cases e
    refine ⟨_, S1, g1, _, G0.here, px, fun w g2 pw v2 S2 H2 F2 x2 hv2 => ⟨Nat.le_of_ble_eq_true rfl, fun u o ho hu => ?_⟩⟩
    have hp2 : H2 p = some (.lst vs) := F2.e2 p _ upd_same (np g1)
    have sp2 : S2 p = none := F2.nw p (F1.e1.back hp) (by show upd H1 p (.lst vs) p ≠ none; rw [upd_same]; exact fun z => nomatch z)
    have G2 : Fr C S2 H2 σ (env g2) := G0.backG ((hE g2 g1).owns σ) F2
    have ne : p ≠ u := fun z => by rw [z, hu] at hp2; cases hp2
    have Gn := G2.new (o := .frz o (.tup [.ref p, v2])) hu
    have ex : Ex S2 (upd S2 u (.frz o (.tup [.ref p, v2]))) := Ex.new (G2.e1.back hu)
    have sp3 : upd S2 u (.frz o (.tup [.ref p, v2])) p = none := by rw [upd_ne ne]; exact sp2
    have hp3 : upd H2 u (.frz o (.tup [.ref p, v2])) p = some (.lst vs) := by rw [upd_ne ne]; exact hp2
    have G3 := (Gn.del sp3 (F1.H0none hp) (np g2)).setOw i (r := r1) (p := p) (vs := vs) (xs := xs) (by unfold Rt.del; simp) (hv.mono fun _ _ z => r1.mono (x2.trans ex) z)
    rw [upd_del hp3] at G3
    exact ⟨u, [.ref p, v2], rfl, TupAt.sq (TupAt.new ho), rfl, .ref p, [v2], rfl, v2, [], rfl, rfl, (xs, w), _, g2, P, G3.setIm j (r2.mono ex hv2), pw, fun o g9 po => (q o g9 po).mono (x1.trans (x2.trans ex))⟩⟩
end
end Rt

set_option maxRecDepth 100000
set_option maxHeartbeats 4000000
/-! RtZ: math.gcd, math.comb; texts: str(int), +, f-strings of two ints, len, sign by sign, <=. -/
namespace Rt
open PySem L2 Rt PyProof.Rows
def gcdC (i j : Int) : Int := ((Nat.gcd i.natAbs j.natAbs : Nat) : Int)
def combC (i j : Int) : Option Int := if 0 ≤ i ∧ 0 ≤ j ∧ i ≤ 18000 then some (PySem.W.mcComb i j) else none
theorem cr_comb {X : Cx} : CallR X (.builtin "math.comb") (fun xs H Q => ∃ i j z, xs = [.int i, .int j] ∧ combC i j = some z ∧ Q (.int z) H) := by
  intro pins s σ H xs us Q I r ⟨i, j, z, ex, ez, q⟩
  subst ex
  obtain ⟨u1, u2, rfl, r1, r2⟩ := vals2 r
  obtain ⟨t1, rfl⟩ := r1
  obtain ⟨t2, rfl⟩ := r2
  unfold combC at ez
  split at ez
  case isFalse => cases ez
  rename_i h
  cases ez
  exact PySem.W.mc_comb h.1 h.2.1 (by omega) (.inr h.2.2) fun _ => ⟨.int _, H, I.tok _, ⟨_, rfl⟩, q⟩
section
variable {X : Cx} {C : Cs} {env kp : Gh → List Sl} {a b c e tg : Expr} {pos p px pa pc : Pos} {mi mj : W Int} {ms mt : W Str}
theorem xe_cb2 {id : String} {x : Str} {f : Int → Int → Option Int} (hc : CallR X (.builtin id) (fun xs H Q => ∃ i j z, xs = [.int i, .int j] ∧ f i j = some z ∧ Q (.int z) H)) (hg : Gl X x) (hm : X.mg x = some (.builtin id)) (ha : PE X a (tE C env qI mi)) (hb : PE X b (tE C env qI mj))
    (hs : starEach [a, b] X.env = (false, eval a X.env) :: starEach [b] X.env := by rfl) (hs2 : starEach [b] X.env = (false, eval b X.env) :: starEach [] X.env := by rfl) (hdb : (x == ("__debug__" : Str)) = false := by decide) (hpl : (backTo pos (starEach [b] X.env)).any (·.1) = false := by rfl) :
    PE X (.Call (.Name x p) [a, b] [] pos) (tE C env qI (mi.bind fun i => mj.bind fun j => ofO (f i j))) :=
  pe_imp (pe_callBfun hc hg hm (pa_cons ha (pa_cons hb pa_nil hs2) hs) hdb hs hpl) fun σ H Q _ ⟨S, g0, P, F, em, kk⟩ =>
    ⟨S, g0, _, F, em, fun i g1 hi v S1 H1 F1 x1 hv => ⟨S1, g1, _, F1, hi, fun j g2 ⟨z, ez, pz⟩ w S2 H2 F2 x2 hw => ⟨i, j, z, by rw [show v = .int i from hv, show w = .int j from hw], ez, fun _ => kk _ _ pz _ S2 H2 F2 (x1.trans x2) rfl⟩⟩⟩
theorem cr_gcdO : CallR X (.builtin "math.gcd") (fun xs H Q => ∃ i j z, xs = [.int i, .int j] ∧ some (gcdC i j) = some z ∧ Q (.int z) H) := fun pins s σ H xs us Q I r ⟨i, j, z, ex, ez, q⟩ => cr_gcd pins s σ H xs us Q I r ⟨i, j, ex, by
  cases ez
  exact q⟩
theorem xe_gcd (hg : Gl X "gcd") (hm : X.mg "gcd" = some (.builtin "math.gcd")) (ha : PE X a (tE C env qI mi)) (hb : PE X b (tE C env qI mj))
    (hs : starEach [a, b] X.env = (false, eval a X.env) :: starEach [b] X.env := by rfl) (hs2 : starEach [b] X.env = (false, eval b X.env) :: starEach [] X.env := by rfl) (hpl : (backTo pos (starEach [b] X.env)).any (·.1) = false := by rfl) :
    PE X (.Call (.Name "gcd" p) [a, b] [] pos) (tE C env qI (mi.bind fun i => mj.bind fun j => ofO (some (gcdC i j)))) := xe_cb2 (f := fun i j => some (gcdC i j)) cr_gcdO hg hm ha hb hs hs2 (by decide) hpl
theorem xe_comb (hg : Gl X "comb") (hm : X.mg "comb" = some (.builtin "math.comb")) (ha : PE X a (tE C env qI mi)) (hb : PE X b (tE C env qI mj))
    (hs : starEach [a, b] X.env = (false, eval a X.env) :: starEach [b] X.env := by rfl) (hs2 : starEach [b] X.env = (false, eval b X.env) :: starEach [] X.env := by rfl) (hpl : (backTo pos (starEach [b] X.env)).any (·.1) = false := by rfl) :
    PE X (.Call (.Name "comb" p) [a, b] [] pos) (tE C env qI (mi.bind fun i => mj.bind fun j => ofO (combC i j))) := xe_cb2 (f := combC) cr_comb hg hm ha hb hs hs2 (by decide) hpl
/-! texts -/
def strC (i : Int) : Option Str := if i.natAbs.log2 < 1920 then some (Str.ofString (toString i)) else none
theorem xe_strI (hg : Gl X "str") (hm : X.mg "str" = none) (ha : PE X a (tE C env qI mi)) (hs : starEach [a] X.env = (false, eval a X.env) :: starEach [] X.env := by rfl) :
    PE X (.Call (.Name "str" p) [a] [] pos) (tE C env qS (mi.bind fun i => ofO (strC i))) :=
  pe_imp (pe_callTy call_str_int hg hm (by decide +kernel) (pa_cons ha pa_nil hs) (by decide) (by decide) hs (by rfl)) fun σ H Q _ ⟨S, g0, P, F, em, kk⟩ => ⟨S, g0, _, F, em, fun i g1 ⟨z, ez, pz⟩ v S1 H1 F1 x1 hv => by
    unfold strC at ez
    split at ez
    case isFalse => cases ez
    rename_i h
    cases ez
    exact ⟨i, by rw [show v = .int i from hv], h, fun _ => kk _ _ pz _ S1 H1 F1 x1 rfl⟩⟩
def catSC (x y : Str) : Option Str := if x.length + y.length ≤ 1000000 then some (x ++ y) else none
theorem xe_catS (ha : PE X a (tE C env qS ms)) (hb : PE X b (tE C env qS mt)) : PE X (.BinOp a .Add b pos) (tE C env qS (ms.bind fun x => mt.bind fun y => ofO (catSC x y))) :=
  xe_op op_add_str ha hb fun _ S H σ x y i j z Q F _ hx hy ez k => by
    unfold catSC at ez
    split at ez
    case isFalse => cases ez
    rename_i h
    cases ez
    exact ⟨i, j, hx, hy, by rw [sizeLine_eq]; omega, k _ _ _ F (Ex.refl S) rfl⟩
def lenS (x : Str) : Option Int := if x.length ≤ 1000000 then some (x.length : Int) else none
theorem xe_lenS (hg : Gl X "len") (hm : X.mg "len" = none) (ha : PE X a (tE C env qS ms)) (hs : starEach [a] X.env = (false, eval a X.env) :: starEach [] X.env := by rfl) :
    PE X (.Call (.Name "len" p) [a] [] pos) (tE C env qI (ms.bind fun x => ofO (lenS x))) :=
  pe_imp (pe_callB call_len_str hg hm (by decide +kernel) (pa_cons ha pa_nil hs) (by decide) (by decide) hs (by rfl)) fun σ H Q _ ⟨S, g0, P, F, em, kk⟩ => ⟨S, g0, _, F, em, fun x g1 ⟨z, ez, pz⟩ v S1 H1 F1 x1 hv => by
    unfold lenS at ez
    split at ez
    case isFalse => cases ez
    rename_i h
    cases ez
    exact ⟨x, by rw [show v = .str x from hv], by rw [sizeLine_eq]; omega, fun _ => kk _ _ pz _ S1 H1 F1 x1 rfl⟩⟩
theorem str_len {i : Int} (h : i.natAbs.log2 < 1920) : (Str.ofString (toString i)).length ≤ 1921 := by
  rw [PySem.ofString_length]
  have hb : ∀ n : Nat, n.log2 < 1920 → n < 2 ^ 1920 := fun n hn => by
    by_cases z : n = 0
    · rw [z]; exact Nat.two_pow_pos _
    · exact (Nat.log2_lt z).mp hn
  cases i with
  | ofNat n =>
    have := PySem.nat_repr_length_le (n := n) (k := 1920) (by decide) (hb n h)
    show (Nat.repr n).length ≤ _
    omega
  | negSucc n =>
    have := PySem.nat_repr_length_le (n := n + 1) (k := 1920) (by decide) (hb (n + 1) h)
    show ("-" ++ Nat.repr (n + 1)).length ≤ _
    rw [String.length_append]
    show 1 + _ ≤ _
    omega
theorem empty_app (x : Str) : Str.empty ++ x = x := by
  show Str.mk (#[] ++ x.cps) = x
  rw [Array.empty_append]
def fmtT (te : TE) : TE := te
/-- f'{a}z{b}' of two ints -/
theorem xe_fs3 {z : Expr} {p1 p2 : Pos} (ha : PE X a (tE C env qI mi)) (hz : PE X z (tE C env qS ms)) (hb : PE X b (tE C env qI mj)) :
    PE X (.JoinedStr [.FormattedValue a (-1) none p1, z, .FormattedValue b (-1) none p2] pos) (tE C env qS (mi.bind fun i => (ofO (strC i)).bind fun s => ms.bind fun y => (ofO (catSC s y)).bind fun u => mj.bind fun j => (ofO (strC j)).bind fun t => ofO (catSC u t))) :=
  pe_imp (pe_joined (.cons (pe_fmt ha) (.cons hz (.cons (pe_fmt hb) .nil)))) fun σ H Q _ ⟨S, g0, P, F, em, kk⟩ =>
    ⟨S, g0, _, F, em, fun i g1 ⟨s, es, h2⟩ v S1 H1 F1 x1 hv => .inr ⟨i, hv, by
      unfold strC at es
      split at es
      case isFalse => cases es
      rename_i hl
      cases es
      refine ⟨hl, _, rfl, by rw [empty_app, sizeLine_eq]; have := str_len hl; omega, ?_⟩
      rw [empty_app]
      refine ⟨S1, g1, _, F1, h2, fun y g2 ⟨u, eu, h3⟩ v2 S2 H2 F2 x2 hv2 => ?_⟩
      unfold catSC at eu
      split at eu
      case isFalse => cases eu
      rename_i hl2
      cases eu
      have l12 : (Str.ofString (toString i) ++ y).length = (Str.ofString (toString i)).length + y.length := Array.size_append ..
      refine ⟨y, hv2, by rw [l12, sizeLine_eq]; omega, S2, g2, _, F2, h3, fun j g3 ⟨t, et, h4⟩ v3 S3 H3 F3 x3 hv3 => .inr ⟨j, hv3, ?_⟩⟩
      unfold strC at et
      split at et
      case isFalse => cases et
      rename_i hl3
      cases et
      obtain ⟨w, ew, pw⟩ := h4
      unfold catSC at ew
      split at ew
      case isFalse => cases ew
      rename_i hl4
      cases ew
      have l34 : (Str.ofString (toString i) ++ y ++ Str.ofString (toString j)).length = (Str.ofString (toString i) ++ y).length + (Str.ofString (toString j)).length := Array.size_append ..
      refine ⟨hl3, _, rfl, by rw [l34, sizeLine_eq]; omega, ?_⟩
      exact fun _ => kk _ _ pw _ S3 H3 F3 (x1.trans (x2.trans x3)) rfl⟩⟩
/-- the signs of a text -/
def signs (x : Str) : List Str := x.cps.toList.map fun c => ⟨#[c]⟩
def signsC (x : Str) : Option (List Str) := if x.length ≤ 1000000 then some (signs x) else none
theorem wk_str {x : Str} {S0 : Hp} (h : x.length ≤ 1000000) : Wk (Its x) qS (signs x) S0 := by
  have l : (signs x).length = x.cps.size := by unfold signs; rw [List.length_map, Array.length_toList]
  have h : x.cps.size ≤ 1000000 := h
  refine ⟨by rw [l, sizeLine_eq]; omega, fun {C S H σ env} i hi' F e => ?_, fun {C S H σ env} i v H' y F e hy ha => ?_, fun {C S H σ env} i hi' F e => ?_⟩
  · show i < x.cps.size
    omega
  · obtain ⟨eH, c, ec, ev⟩ := hy
    subst eH
    refine ⟨S, F, Ex.refl S, Ex.refl _, fun _ z _ => z, ?_⟩
    show v = V.str y
    unfold signs at ha
    rw [List.getElem?_map, Array.getElem?_toList, ec] at ha
    cases ha
    exact ev
  · show x.cps.size ≤ i
    omega
theorem xi_str (h : PE X a (tE C env qS ms)) : PI X tg a (tS C env qS (ms.bind fun x => ofO (signsC x))) :=
  pi_imp (pi_str h) fun σ H R _ ⟨S, g0, P, F, em, q⟩ => ⟨S, g0, _, F, em, fun x g1 ⟨z, ez, pz⟩ v S1 H1 F1 x1 hv => by
    unfold signsC at ez
    split at ez
    case isFalse => cases ez
    rename_i hl
    cases ez
    exact ⟨x, hv, q _ _ pz _ S1 H1 F1 x1 (wk_str hl)⟩⟩
theorem cd_leS : CmpD X C .LtE qS qS fun i j => some (!decide (j.cps.toList < i.cps.toList)) := ⟨_, op_le_str, fun _ S H σ x y p q z Q F _ hx hy ez k => by
  cases ez
  exact ⟨p, q, hx, hy, k S H F (Ex.refl S)⟩⟩
end
section
variable {X : Cx} {C : Cs} {env kp : Gh → List Sl} {e a b c : Expr} {es : List Expr} {rest : List Stmt} {pos p px : Pos} {α β γ ρ : Type} {r : Rp ρ} {pn : β → Gh → List Sl} {pl : γ → Gh → List Sl}
/-- x, y, z = a, b, c of three locals -/
theorem xs_par3 {i j l : Nat} {x y z : Str} {px py pz pt0 : Pos} {kt k2 : Nat} {pt2 : Pos} {α1 α2 α3 : Type} {r1 : Rp α1} {r2 : Rp α2} {r3 : Rp α3} {m1 : W α1} {m2 : W α2} {m3 : W α3} {K : α1 → α2 → α3 → W (Fl ρ β γ)} (ha : PE X a (tE C env r1 m1)) (hb : PE X b (tE C env r2 m2)) (hc3 : PE X c (tE C env r3 m3)) (hr : ∀ a b c, PSs X rest (tF C (fun g => (((env g).set i (.im r1 a)).set j (.im r2 b)).set l (.im r3 c)) (K a b c) pn pl kp r))
    (hc : X.calm = true) (hN : X.N.Nodup) (hi : X.N[i]? = some x) (hj : X.N[j]? = some y) (hl : X.N[l]? = some z) (hij : i ≠ j) (hil : i ≠ l) (hjl : j ≠ l) (hx : X.env.scope.names.lookup x = some .local) (hy : X.env.scope.names.lookup y = some .local) (hz : X.env.scope.names.lookup z = some .local)
    (hw : swappedStores [.Tuple [.Name x px, .Name y py, .Name z pz] kt pt0] (.Tuple [a, b, c] k2 pt2) X.env = pure (some [x, y, z])) (hs : swapsWithSole [.Tuple [.Name x px, .Name y py, .Name z pz] kt pt0] (.Tuple [a, b, c] k2 pt2) pos.line X.env = pure false := by rfl)
    (h1 : starEach [a, b, c] X.env = (false, eval a X.env) :: starEach [b, c] X.env := by rfl) (h2 : starEach [b, c] X.env = (false, eval b X.env) :: starEach [c] X.env := by rfl) (h3 : starEach [c] X.env = (false, eval c X.env) :: starEach [] X.env := by rfl) :
    PSs X (.Assign [.Tuple [.Name x px, .Name y py, .Name z pz] kt pt0] (.Tuple [a, b, c] k2 pt2) pos :: rest) (tF C env (m1.bind fun a => m2.bind fun b => m3.bind fun c => K a b c) pn pl kp r) :=
  pss_imp (pss_cons (ps_par3 hc hN hi hj hl hij hil hjl hx hy hz (pa_cons ha (pa_cons hb (pa_cons hc3 pa_nil h3) h2) h1) hw hs) (pss_ex fun p : α1 × α2 × α3 => hr p.1 p.2.1 p.2.2)) fun D σ H _ ⟨S, g0, P, F, em, q⟩ =>
    ⟨S, g0, _, F, em, fun u g1 pu v S1 H1 F1 x1 hv => ⟨S1, g1, _, F1, pu, fun w g2 pw v2 S2 H2 F2 x2 hv2 => ⟨S2, g2, _, F2, pw, fun t g3 pt v3 S3 H3 F3 x3 hv3 => ⟨v, v2, v3, rfl, (u, w, t), S3, _, P, ((F3.setIm i (r1.mono (x2.trans x3) hv)).setIm j (r2.mono x3 hv2)).setIm l hv3, pt, fun o g9 po => (q o g9 po).mono (x1.trans (x2.trans x3))⟩⟩⟩⟩
end
end Rt

set_option maxRecDepth 100000
set_option maxHeartbeats 4000000
namespace K
open PySem L2 Rt
def top (i : Nat) : Stmt := PySem.Challenge.pw_swapsheets_k01_whole_numbers_reckoned.main.body.getD i (.Pass ⟨0, 0, 0, 0⟩)
structure Txt (K : PySem.W.Frag) (mg : Str → Option Value) : Prop where
  abs : mg "abs" = none
  all : mg "all" = none
  bool : mg "bool" = none
  int : mg "int" = none
  isinstance : mg "isinstance" = none
  len : mg "len" = none
  max : mg "max" = none
  min : mg "min" = none
  range : mg "range" = none
  str : mg "str" = none
  tuple : mg "tuple" = none
  MAX_CHOSEN_ : ∃ t, mg "MAX_CHOSEN" = some (.int 1000 t)
  MAX_NAME_ : ∃ t, mg "MAX_NAME" = some (.int 8 t)
  MAX_RAISED_ : ∃ t, mg "MAX_RAISED" = some (.int 1000 t)
  g_FIRST_TOO_LONG_ : ∃ t, mg "_FIRST_TOO_LONG" = some (.int 1000000000000000000000000000000000000000000000000000000000000 t)
  comb_m : mg "comb" = some (.builtin "math.comb")
  gcd_m : mg "gcd" = some (.builtin "math.gcd")
section
variable {P : Program} {w : World} {K : PySem.W.Frag} {mg : Str → Option Value} {base : Heap}
abbrev slaw_dice : Stmt := top 36
abbrev Nlaw_dice : List Str := ["_law_script", "_law_spot", "_law_cell", "_law_left"]
theorem sclaw_dice : FnScope ["_law_script", "_law_spot", "_law_cell", "_law_left"] ["_law_script", "_law_spot"] (defScope slaw_dice) := ⟨rfl, rfl, rfl, by decide +kernel, rfl, by decide +kernel, by decide +kernel⟩
def w_law_dice (a : (List Int) × Int × Unit) : W (Fl (List Int) Empty Unit) :=
  ((((W.ret a.2.1).bind fun p3 => (((W.ret a.1).bind fun x2 => (W.ret (x2.length : Int))).bind fun q4 => (ofO (some (decide (p3 < q4)))))).bind fun p11 => (if p11 = true then ((W.ret a.1).bind fun x5 => ((W.ret a.2.1).bind fun i6 => (ofO (L2.atI x5 i6)))) else (((W.ret (73 : Int)).bind fun p7 => ((W.ret a.2.1).bind fun q8 => (ofO (mulC p7 q8)))).bind fun p9 => ((W.ret (41 : Int)).bind fun q10 => (W.ret (p9 + q10)))))).bind fun (v1 : Int) => ((((W.ret (0 : Int)).bind fun i18 => ((((W.ret v1).bind fun x13 => (W.ret (x13.natAbs : Int))).bind fun p16 => (((W.ret (10 : Int)).bind fun p14 => ((W.ret (17 : Int)).bind fun q15 => (ofO (powC p14 q15)))).bind fun q17 => (W.ret (p16 - q17)))).bind fun j19 => (W.ret (if j19 > i18 then j19 else i18)))).bind fun p26 => ((((W.ret (10 : Int)).bind fun p20 => ((W.ret (57 : Int)).bind fun q21 => (ofO (powC p20 q21)))).bind fun p24 => (((W.ret (10 : Int)).bind fun p22 => ((W.ret (60 : Int)).bind fun q23 => (ofO (powC p22 q23)))).bind fun q25 => (ofO (mulC p24 q25)))).bind fun q27 => (ofO (modC p26 q27)))).bind fun (v12 : Int) => ((((W.ret v12).bind fun x50 => (((((((((W.ret v1).bind fun x28 => (W.ret (x28.natAbs : Int))).bind fun p29 => ((W.ret (1152921504606846883 : Int)).bind fun q30 => (ofO (modC p29 q30)))).bind fun p31 => ((W.ret (59 : Int)).bind fun q32 => (ofO (mulC p31 q32)))).bind fun p35 => (((W.ret (977 : Int)).bind fun p33 => ((W.ret a.2.1).bind fun q34 => (ofO (mulC p33 q34)))).bind fun q36 => (W.ret (p35 + q36)))).bind fun p42 => (((W.ret (47 : Int)).bind fun p40 => ((((W.ret v1).bind fun p37 => ((W.ret (0 : Int)).bind fun q38 => (ofO (some (decide (p37 < q38)))))).bind fun x39 => (W.ret (b2 x39))).bind fun q41 => (ofO (mulC p40 q41)))).bind fun q43 => (W.ret (p42 + q43)))).bind fun p44 => ((W.ret (13 : Int)).bind fun q45 => (W.ret (p44 + q45)))).bind fun x48 => (((W.ret (0 : Int)).bind fun x46 => ((W.ret []).bind fun y47 => (W.ret (x46 :: y47)))).bind fun y49 => (W.ret (x48 :: y49)))).bind fun y51 => (W.ret (x50 :: y51)))).bind fun x52 => (ofO (lenK x52))).bind fun x53 => (W.ret (Fl.rt x53)))))
def o_law_dice (a : (List Int) × Int × Unit) : Option (Fl (List Int) Empty Unit) :=
  ((((some a.2.1).bind fun p3 => (((some a.1).bind fun x2 => (some (x2.length : Int))).bind fun q4 => (some (decide (p3 < q4))))).bind fun p11 => (if p11 = true then ((some a.1).bind fun x5 => ((some a.2.1).bind fun i6 => (L2.atI x5 i6))) else (((some (73 : Int)).bind fun p7 => ((some a.2.1).bind fun q8 => (mulC p7 q8))).bind fun p9 => ((some (41 : Int)).bind fun q10 => (some (p9 + q10)))))).bind fun (v1 : Int) => ((((some (0 : Int)).bind fun i18 => ((((some v1).bind fun x13 => (some (x13.natAbs : Int))).bind fun p16 => (((some (10 : Int)).bind fun p14 => ((some (17 : Int)).bind fun q15 => (powC p14 q15))).bind fun q17 => (some (p16 - q17)))).bind fun j19 => (some (if j19 > i18 then j19 else i18)))).bind fun p26 => ((((some (10 : Int)).bind fun p20 => ((some (57 : Int)).bind fun q21 => (powC p20 q21))).bind fun p24 => (((some (10 : Int)).bind fun p22 => ((some (60 : Int)).bind fun q23 => (powC p22 q23))).bind fun q25 => (mulC p24 q25))).bind fun q27 => (modC p26 q27))).bind fun (v12 : Int) => ((((some v12).bind fun x50 => (((((((((some v1).bind fun x28 => (some (x28.natAbs : Int))).bind fun p29 => ((some (1152921504606846883 : Int)).bind fun q30 => (modC p29 q30))).bind fun p31 => ((some (59 : Int)).bind fun q32 => (mulC p31 q32))).bind fun p35 => (((some (977 : Int)).bind fun p33 => ((some a.2.1).bind fun q34 => (mulC p33 q34))).bind fun q36 => (some (p35 + q36)))).bind fun p42 => (((some (47 : Int)).bind fun p40 => ((((some v1).bind fun p37 => ((some (0 : Int)).bind fun q38 => (some (decide (p37 < q38))))).bind fun x39 => (some (b2 x39))).bind fun q41 => (mulC p40 q41))).bind fun q43 => (some (p42 + q43)))).bind fun p44 => ((some (13 : Int)).bind fun q45 => (some (p44 + q45)))).bind fun x48 => (((some (0 : Int)).bind fun x46 => ((some []).bind fun y47 => (some (x46 :: y47)))).bind fun y49 => (some (x48 :: y49)))).bind fun y51 => (some (x50 :: y51)))).bind fun x52 => (lenK x52)).bind fun x53 => (some (Fl.rt x53)))))
def m_law_dice (a : (List Int) × Int × Unit) : Option (List Int) := rtO (o_law_dice a)
theorem k_law_dice {f : Addr} {fd : FuncData} (F : Fun K "_law_dice" "_law_dice" slaw_dice f fd) (T : Txt K mg) {π : Around → Prop} (sπ : Stb π) : FnP π P w K mg base CX0 1 f fd ["_law_script", "_law_spot"] (SpN (pC (qX K) (pC qI p0)).ra qI m_law_dice) := by
  refine fn_okL (p := (pC (qX K) (pC qI p0))) (m := w_law_dice) (pn := (fun z _ => nomatch z)) (pl := fun _ _ => []) (env := fun a => [.im (qX K) a.1, .im qI a.2.1, .un, .un]) 2 sπ F sclaw_dice rfl rfl (fun _ => rfl) ?hb ?hg
  case hb =>
    intro cdv A outer s H E hp hr C a hA
    unfold w_law_dice
    exact (xs_set (i := 2) (xe_if (xt_cmpD cd_lt (xe_var (pv 1)) (xe_lenX (by rfl) T.len (xe_var (pv 0))) rfl) (xe_int1 (by rfl) T.int (xe_ixX (xe_var (pv 0)) (xe_var (pv 1)))) (xe_add (xe_mul xe_int (xe_var (pv 1))) xe_int)) (fun v1 => (xs_set (i := 3) (xe_mod (xe_max2 rfl (by rfl) T.max xe_int (xe_sub (xe_abs (by rfl) T.abs (xe_var (pv 2))) (xe_pow xe_int xe_int))) (xe_mul (xe_pow xe_int xe_int) (xe_pow xe_int xe_int))) (fun v12 => (xs_retN (xn_lst (xa_consL (xe_var (pv 3)) (xa_consL (xe_add (xe_add (xe_add (xe_mul (xe_mod (xe_abs (by rfl) T.abs (xe_var (pv 2))) xe_int) xe_int) (xe_mul xe_int (xe_var (pv 1)))) (xe_mul xe_int (xe_intB (by rfl) T.int (xe_cmpD cd_lt (xe_var (pv 2)) xe_int rfl)))) xe_int) (xa_consL xe_int xa_nilL)))))) sclaw_dice.nd rfl (.inl rfl) rfl rfl)) sclaw_dice.nd rfl (.inl rfl) rfl rfl)
  case hg =>
    intro a
    simp only [m_law_dice, o_law_dice, w_law_dice, ofO_rt, ofO_rtN, ofO_bind, ofO_some, ofO_if, ofO_up, ofO_lc, ofO_lca, ofO_lc2, ofO_for, ofO_while, ofO_bindF, ofO_no, ofO_optM]
abbrev slaw_roll : Stmt := top 37
abbrev Nlaw_roll : List Str := ["_law_dice_here", "_law_total", "_law_one", "_law_two", "_law_found"]
theorem sclaw_roll : FnScope ["_law_dice_here", "_law_total", "_law_one", "_law_two", "_law_found"] ["_law_dice_here", "_law_total"] (defScope slaw_roll) := ⟨rfl, rfl, rfl, by decide +kernel, rfl, by decide +kernel, by decide +kernel⟩
def w_law_roll (a : Int × Unit) : W (Fl Int Empty Unit) :=
  ((((W.ret (0 : Int)).bind fun j1 => (W.get.bind fun g2 => ofO (L2.atI g2 j1))).bind fun p3 => ((W.ret (0 : Int)).bind fun q4 => (ofO (some (decide (q4 < p3)))))).bind fun b5 => (if b5 = true then upF ((((W.ret (0 : Int)).bind fun j7 => (W.get.bind fun g8 => ofO (L2.atI g8 j7))).bind fun p9 => ((W.ret a.1).bind fun q10 => (ofO (modC p9 q10)))).bind fun (v6 : Int) => ((((W.ret (0 : Int)).bind fun j11 => (W.get.bind fun g12 => ofO (L2.atI g12 j11))).bind fun p13 => ((W.ret a.1).bind fun q14 => (ofO (divC p13 q14)))).bind fun v15 => ((W.ret (0 : Int)).bind fun j16 => ((W.gset j16 v15).bind fun _ => ((W.ret v6).bind fun x17 => (W.ret (Fl.rt x17))))))) else ((((W.ret (2 : Int)).bind fun j18 => (W.get.bind fun g19 => ofO (L2.atI g19 j18))).bind fun p20 => ((W.ret (1 : Int)).bind fun q21 => (W.ret (p20 + q21)))).bind fun v22 => ((W.ret (2 : Int)).bind fun j23 => ((W.gset j23 v22).bind fun _ => (((((W.ret (1 : Int)).bind fun j25 => (W.get.bind fun g26 => ofO (L2.atI g26 j25))).bind fun p31 => (((W.ret (99990001 : Int)).bind fun p29 => (((W.ret (2 : Int)).bind fun j27 => (W.get.bind fun g28 => ofO (L2.atI g28 j27))).bind fun q30 => (ofO (mulC p29 q30)))).bind fun q32 => (W.ret (p31 + q32)))).bind fun p33 => ((W.ret (2305843009213693403 : Int)).bind fun q34 => (ofO (modC p33 q34)))).bind fun (v24 : Int) => (((((((W.ret v24).bind fun p36 => ((W.ret v24).bind fun q37 => (ofO (mulC p36 q37)))).bind fun p42 => (((W.ret (83 : Int)).bind fun p40 => (((W.ret (2 : Int)).bind fun j38 => (W.get.bind fun g39 => ofO (L2.atI g39 j38))).bind fun q41 => (ofO (mulC p40 q41)))).bind fun q43 => (W.ret (p42 + q43)))).bind fun p44 => ((W.ret (2305843009213693373 : Int)).bind fun q45 => (ofO (modC p44 q45)))).bind fun p46 => ((W.ret (8675327 : Int)).bind fun q47 => (ofO (mulC p46 q47)))).bind fun p48 => ((W.ret v24).bind fun q49 => (W.ret (p48 + q49)))).bind fun (v35 : Int) => ((((W.ret v35).bind fun p50 => ((W.ret (65539 : Int)).bind fun q51 => (ofO (divC p50 q51)))).bind fun p52 => ((W.ret a.1).bind fun q53 => (ofO (modC p52 q53)))).bind fun x54 => (W.ret (Fl.rt x54))))))))))
def m_law_roll (a : Int × Unit) : W Int := rtOf (w_law_roll a)
theorem k_law_roll {f : Addr} {fd : FuncData} (F : Fun K "_law_roll" "_law_roll" slaw_roll f fd) (T : Txt K mg) {π : Around → Prop} (sπ : Stb π) : FnP π P w K mg base CX0 1 f fd ["_law_dice_here", "_law_total"] (SpD (pC qI p0).ra qI m_law_roll) := by
  refine fn_okD (p := (pC qI p0)) (m := w_law_roll) (pn := (fun z _ => nomatch z)) (pl := fun _ _ => []) (env := fun a => [.im qI a.1, .un, .un, .un]) 3 sπ F sclaw_roll rfl rfl (fun _ => rfl) ?hb ?hg
  case hb =>
    intro cdv A outer s H E hp hr C d a hA
    unfold w_law_roll
    exact (xs_ifx (xt_cmpD cd_gt (xe_gix (pv 0) xe_int) xe_int rfl) (xs_set (i := 4) (xe_mod (xe_int1 (by rfl) T.int (xe_gix (pv 0) xe_int)) (xe_var (pv 1))) (fun v6 => (xs_gset (xe_fdiv (xe_gix (pv 0) xe_int) (xe_var (pv 1))) (pv 0) xe_int (xs_ret (xe_var (pv 4))))) sclaw_roll.nd rfl (.inl rfl) rfl rfl) (xs_gset (xe_add (xe_gix (pv 0) xe_int) xe_int) (pv 0) xe_int (xs_set (i := 2) (xe_mod (xe_int1 (by rfl) T.int (xe_add (xe_gix (pv 0) xe_int) (xe_mul xe_int (xe_gix (pv 0) xe_int)))) xe_int) (fun v24 => (xs_set (i := 3) (xe_add (xe_mul (xe_mod (xe_int1 (by rfl) T.int (xe_add (xe_mul (xe_var (pv 2)) (xe_var (pv 2))) (xe_mul xe_int (xe_gix (pv 0) xe_int)))) xe_int) xe_int) (xe_var (pv 2))) (fun v35 => (xs_ret (xe_mod (xe_int1 (by rfl) T.int (xe_fdiv (xe_var (pv 3)) xe_int)) (xe_var (pv 1))))) sclaw_roll.nd rfl (.inl rfl) rfl rfl)) sclaw_roll.nd rfl (.inl rfl) rfl rfl)))
  case hg => exact fun _ => rfl
abbrev slaw_pick : Stmt := top 38
abbrev Nlaw_pick : List Str := ["_law_dice_here", "_law_items"]
theorem sclaw_pick : FnScope ["_law_dice_here", "_law_items"] ["_law_dice_here", "_law_items"] (defScope slaw_pick) := ⟨rfl, rfl, rfl, by decide +kernel, rfl, by decide +kernel, by decide +kernel⟩
def w_law_pick (a : (List Int) × Unit) : W (Fl Int Empty Unit) :=
  (((W.ret a.1).bind fun x5 => (((((W.ret a.1).bind fun x1 => (W.ret (x1.length : Int))).bind fun x2 => ((W.ret ()).bind fun y3 => (W.ret (x2, y3)))).bind fun a4 => (m_law_roll a4)).bind fun i6 => (ofO (L2.atI x5 i6)))).bind fun x7 => (W.ret (Fl.rt x7)))
def m_law_pick (a : (List Int) × Unit) : W Int := rtOf (w_law_pick a)
theorem k_law_pick {f : Addr} {fd : FuncData} (F : Fun K "_law_pick" "_law_pick" slaw_pick f fd) (T : Txt K mg) {π : Around → Prop} (sπ : Stb π) (h_law_roll : Has P w K mg base π "_law_roll" 1 ["_law_dice_here", "_law_total"] (SpD (pC qI p0).ra qI m_law_roll)) : FnP π P w K mg base CX0 2 f fd ["_law_dice_here", "_law_items"] (SpD (pC (qL qI) p0).ra qI m_law_pick) := by
  refine fn_okD (p := (pC (qL qI) p0)) (m := w_law_pick) (pn := (fun z _ => nomatch z)) (pl := fun _ _ => []) (env := fun a => [.im (qL qI) a.1]) 0 sπ F sclaw_pick rfl rfl (fun _ => rfl) ?hb ?hg
  case hb =>
    intro cdv A outer s H E hp hr C d a hA
    unfold w_law_pick
    exact (xs_ret (xe_ix (xq_im (xe_var (pv 1))) (xe_callDH h_law_roll hp hr (by decide) (by rfl) (pv 0) (xa_cons (xe_len (by rfl) T.len (xq_im (xe_var (pv 1)))) xa_nil))))
  case hg => exact fun _ => rfl
abbrev slaw_gcd : Stmt := top 39
abbrev Nlaw_gcd : List Str := ["_law_one", "_law_other"]
theorem sclaw_gcd : FnScope ["_law_one", "_law_other"] ["_law_one", "_law_other"] (defScope slaw_gcd) := ⟨rfl, rfl, rfl, by decide +kernel, rfl, by decide +kernel, by decide +kernel⟩
def w_law_gcd (a : Int × Int × Unit) : W (Fl Int Empty Unit) :=
  (((W.ret a.1).bind fun x3 => (W.ret (x3.natAbs : Int))).bind fun (v1 : Int) => (((W.ret a.2.1).bind fun x4 => (W.ret (x4.natAbs : Int))).bind fun (v2 : Int) => (bindF (whileL (fun (s5 : (Int × Int)) => ((W.ret s5.2).bind fun p6 => ((W.ret (0 : Int)).bind fun q7 => (ofO (some (decide (q7 < p6))))))) (fun (s5 : (Int × Int)) => ((W.ret s5.2).bind fun (v8 : Int) => (((W.ret s5.1).bind fun p10 => ((W.ret s5.2).bind fun q11 => (ofO (modC p10 q11)))).bind fun (v9 : Int) => (W.ret (Fl.nx (v8, v9)))))) 5000 (v1, v2)) (fun (s5 : (Int × Int)) => ((W.ret s5.1).bind fun x12 => (W.ret (Fl.rt x12)))))))
def o_law_gcd (a : Int × Int × Unit) : Option (Fl Int Empty Unit) :=
  (((some a.1).bind fun x3 => (some (x3.natAbs : Int))).bind fun (v1 : Int) => (((some a.2.1).bind fun x4 => (some (x4.natAbs : Int))).bind fun (v2 : Int) => (bindFO (whileO (fun (s5 : (Int × Int)) => ((some s5.2).bind fun p6 => ((some (0 : Int)).bind fun q7 => (some (decide (q7 < p6)))))) (fun (s5 : (Int × Int)) => ((some s5.2).bind fun (v8 : Int) => (((some s5.1).bind fun p10 => ((some s5.2).bind fun q11 => (modC p10 q11))).bind fun (v9 : Int) => (some (Fl.nx (v8, v9)))))) 5000 (v1, v2)) (fun (s5 : (Int × Int)) => ((some s5.1).bind fun x12 => (some (Fl.rt x12)))))))
def m_law_gcd (a : Int × Int × Unit) : Option Int := rtO (o_law_gcd a)
theorem k_law_gcd {f : Addr} {fd : FuncData} (F : Fun K "_law_gcd" "_law_gcd" slaw_gcd f fd) (T : Txt K mg) {π : Around → Prop} (sπ : Stb π) : FnP π P w K mg base CX0 1 f fd ["_law_one", "_law_other"] (SpF (pC qI (pC qI p0)).ra qI m_law_gcd) := by
  refine fn_okF (p := (pC qI (pC qI p0))) (m := w_law_gcd) (pn := (fun z _ => nomatch z)) (pl := fun _ _ => []) (env := fun a => [.im qI a.1, .im qI a.2.1]) 0 sπ F sclaw_gcd rfl rfl (fun _ => rfl) ?hb ?hg
  case hb =>
    intro cdv A outer s H E hp hr C a hA
    unfold w_law_gcd
    exact (xs_par (env := fun g => [.im qI a.1, .im qI a.2.1]) (i := 0) (j := 1) (xe_abs (by rfl) T.abs (xe_var (pv 0))) (xe_abs (by rfl) T.abs (xe_var (pv 1))) (fun v1 v2 => (xs_while (s0 := (v1, v2)) (pt := fun (s5 : (Int × Int)) g => [.im qI s5.1, .im qI s5.2]) PassesOwn.never (fun _ => (.keep (.keep .nil))) (fun s5 => (xt_cmpD cd_gt (xe_var (pv 1)) xe_int rfl)) (fun s5 => (xs_par (env := fun g => [.im qI s5.1, .im qI s5.2]) (i := 0) (j := 1) (xe_var (pv 1)) (xe_mod (xe_int1 (by rfl) T.int (xe_var (pv 0))) (xe_var (pv 1))) (fun v8 v9 => (xs_nil (fun _ => (.keep (.keep .nil))))) rfl sclaw_gcd.nd rfl rfl (by decide) rfl rfl rfl)) (fun s5 => (xs_ret (xe_var (pv 0)))))) rfl sclaw_gcd.nd rfl rfl (by decide) rfl rfl rfl)
  case hg =>
    intro a
    simp only [m_law_gcd, o_law_gcd, w_law_gcd, ofO_rt, ofO_rtN, ofO_bind, ofO_some, ofO_if, ofO_up, ofO_lc, ofO_lca, ofO_lc2, ofO_for, ofO_while, ofO_bindF, ofO_no, ofO_optM]
abbrev slaw_fraction : Stmt := top 40
abbrev Nlaw_fraction : List Str := ["_law_top", "_law_bottom", "_law_shared"]
theorem sclaw_fraction : FnScope ["_law_top", "_law_bottom", "_law_shared"] ["_law_top", "_law_bottom"] (defScope slaw_fraction) := ⟨rfl, rfl, rfl, by decide +kernel, rfl, by decide +kernel, by decide +kernel⟩
def w_law_fraction (a : Int × Int × Unit) : W (Fl (Int × Int) Empty Unit) :=
  ((((W.ret a.1).bind fun x4 => (((W.ret a.2.1).bind fun x2 => ((W.ret ()).bind fun y3 => (W.ret (x2, y3)))).bind fun y5 => (W.ret (x4, y5)))).bind fun a6 => (ofO (m_law_gcd a6))).bind fun (v1 : Int) => (((W.ret a.2.1).bind fun p7 => ((W.ret (0 : Int)).bind fun q8 => (ofO (some (decide (p7 < q8)))))).bind fun b9 => bindF (if b9 = true then (((W.ret v1).bind fun p12 => (W.ret (-p12))).bind fun (v11 : Int) => (W.ret (Fl.nx v11))) else (W.ret (Fl.nx v1))) (fun (s10 : Int) => ((((W.ret a.1).bind fun p13 => ((W.ret s10).bind fun q14 => (ofO (divC p13 q14)))).bind fun x17 => (((W.ret a.2.1).bind fun p15 => ((W.ret s10).bind fun q16 => (ofO (divC p15 q16)))).bind fun x18 => (W.ret (x17, x18)))).bind fun x19 => (W.ret (Fl.rt x19))))))
def o_law_fraction (a : Int × Int × Unit) : Option (Fl (Int × Int) Empty Unit) :=
  ((((some a.1).bind fun x4 => (((some a.2.1).bind fun x2 => ((some ()).bind fun y3 => (some (x2, y3)))).bind fun y5 => (some (x4, y5)))).bind fun a6 => (m_law_gcd a6)).bind fun (v1 : Int) => (((some a.2.1).bind fun p7 => ((some (0 : Int)).bind fun q8 => (some (decide (p7 < q8))))).bind fun b9 => bindFO (if b9 = true then (((some v1).bind fun p12 => (some (-p12))).bind fun (v11 : Int) => (some (Fl.nx v11))) else (some (Fl.nx v1))) (fun (s10 : Int) => ((((some a.1).bind fun p13 => ((some s10).bind fun q14 => (divC p13 q14))).bind fun x17 => (((some a.2.1).bind fun p15 => ((some s10).bind fun q16 => (divC p15 q16))).bind fun x18 => (some (x17, x18)))).bind fun x19 => (some (Fl.rt x19))))))
def m_law_fraction (a : Int × Int × Unit) : Option (Int × Int) := rtO (o_law_fraction a)
theorem k_law_fraction {f : Addr} {fd : FuncData} (F : Fun K "_law_fraction" "_law_fraction" slaw_fraction f fd) (T : Txt K mg) {π : Around → Prop} (sπ : Stb π) (h_law_gcd : Has P w K mg base π "_law_gcd" 1 ["_law_one", "_law_other"] (SpF (pC qI (pC qI p0)).ra qI m_law_gcd)) : FnP π P w K mg base CX0 2 f fd ["_law_top", "_law_bottom"] (SpF (pC qI (pC qI p0)).ra (qP qI qI) m_law_fraction) := by
  refine fn_okF (p := (pC qI (pC qI p0))) (m := w_law_fraction) (pn := (fun z _ => nomatch z)) (pl := fun _ _ => []) (env := fun a => [.im qI a.1, .im qI a.2.1, .un]) 1 sπ F sclaw_fraction rfl rfl (fun _ => rfl) ?hb ?hg
  case hb =>
    intro cdv A outer s H E hp hr C a hA
    unfold w_law_fraction
    exact (xs_set (i := 2) (xe_callH h_law_gcd hp hr (by decide) (by rfl) (xa_cons (xe_var (pv 0)) (xa_cons (xe_var (pv 1)) xa_nil))) (fun v1 => (xs_if (pt := fun (s10 : Int) g => [.im qI a.1, .im qI a.2.1, .im qI s10]) (xt_cmpD cd_lt (xe_var (pv 1)) xe_int rfl) (xs_set (i := 2) (xe_neg (xe_var (pv 2))) (fun v11 => (xs_nil (fun _ => (.keep (.keep (.keep .nil)))))) sclaw_fraction.nd rfl (.inl rfl) rfl rfl) (xs_nil (fun _ => (.keep (.keep (.keep .nil))))) (fun s10 => (xs_ret (xe_tup2 (xe_fdiv (xe_var (pv 0)) (xe_var (pv 2))) (xe_fdiv (xe_var (pv 1)) (xe_var (pv 2)))))))) sclaw_fraction.nd rfl (.inl rfl) rfl rfl)
  case hg =>
    intro a
    simp only [m_law_fraction, o_law_fraction, w_law_fraction, ofO_rt, ofO_rtN, ofO_bind, ofO_some, ofO_if, ofO_up, ofO_lc, ofO_lca, ofO_lc2, ofO_for, ofO_while, ofO_bindF, ofO_no, ofO_optM]
abbrev slaw_nb_drawn : Stmt := top 46
abbrev Nlaw_nb_drawn : List Str := ["_law_dice_here", "_law_most", "_law_top"]
theorem sclaw_nb_drawn : FnScope ["_law_dice_here", "_law_most", "_law_top"] ["_law_dice_here"] (defScope slaw_nb_drawn) := ⟨rfl, rfl, rfl, by decide +kernel, rfl, by decide +kernel, by decide +kernel⟩
def w_law_nb_drawn (a : Unit) : W (Fl PyData Empty Unit) :=
  ((((((W.ret (3 : Int)).bind fun x16 => (((W.ret (12 : Int)).bind fun x14 => ((((W.ret (10 : Int)).bind fun p2 => ((W.ret (9 : Int)).bind fun q3 => (ofO (powC p2 q3)))).bind fun x12 => (((((W.ret (10 : Int)).bind fun p4 => ((W.ret (60 : Int)).bind fun q5 => (ofO (powC p4 q5)))).bind fun p8 => (((W.ret (10 : Int)).bind fun p6 => ((W.ret (10 : Int)).bind fun q7 => (ofO (powC p6 q7)))).bind fun q9 => (ofO (mulC p8 q9)))).bind fun x10 => ((W.ret []).bind fun y11 => (W.ret (x10 :: y11)))).bind fun y13 => (W.ret (x12 :: y13)))).bind fun y15 => (W.ret (x14 :: y15)))).bind fun y17 => (W.ret (x16 :: y17)))).bind fun x18 => (ofO (lenK x18))).bind fun x19 => ((W.ret ()).bind fun y20 => (W.ret (x19, y20)))).bind fun a21 => (m_law_pick a21)).bind fun (v1 : Int) => (((((((W.ret (2 : Int)).bind fun p23 => ((W.ret v1).bind fun q24 => (ofO (mulC p23 q24)))).bind fun p25 => ((W.ret (1 : Int)).bind fun q26 => (W.ret (p25 + q26)))).bind fun x27 => ((W.ret ()).bind fun y28 => (W.ret (x27, y28)))).bind fun a29 => (m_law_roll a29)).bind fun p30 => ((W.ret v1).bind fun q31 => (W.ret (p30 - q31)))).bind fun (v22 : Int) => (((((W.ret (3 : Int)).bind fun x32 => ((W.ret ()).bind fun y33 => (W.ret (x32, y33)))).bind fun a34 => (m_law_roll a34)).bind fun p35 => ((W.ret (0 : Int)).bind fun q36 => (ofO (some (decide (p35 = q36)))))).bind fun b37 => (if b37 = true then upF (((W.ret v22).bind fun x38 => (W.ret (eI.enc x38))).bind fun x39 => (W.ret (Fl.rt x39))) else (((((W.ret v22).bind fun x61 => ((((W.ret (1 : Int)).bind fun p57 => ((((((((W.ret (1 : Int)).bind fun x48 => (((W.ret (4 : Int)).bind fun x46 => (((W.ret (12 : Int)).bind fun x44 => ((((W.ret (10 : Int)).bind fun p40 => ((W.ret (40 : Int)).bind fun q41 => (ofO (powC p40 q41)))).bind fun x42 => ((W.ret []).bind fun y43 => (W.ret (x42 :: y43)))).bind fun y45 => (W.ret (x44 :: y45)))).bind fun y47 => (W.ret (x46 :: y47)))).bind fun y49 => (W.ret (x48 :: y49)))).bind fun x50 => (ofO (lenK x50))).bind fun x51 => ((W.ret ()).bind fun y52 => (W.ret (x51, y52)))).bind fun a53 => (m_law_pick a53)).bind fun x54 => ((W.ret ()).bind fun y55 => (W.ret (x54, y55)))).bind fun a56 => (m_law_roll a56)).bind fun q58 => (W.ret (p57 + q58)))).bind fun x59 => ((W.ret ()).bind fun y60 => (W.ret (x59, y60)))).bind fun y62 => (W.ret (x61, y62)))).bind fun a63 => (ofO (m_law_fraction a63))).bind fun x64 => (W.ret ((eP eI eI).enc x64))).bind fun x65 => (W.ret (Fl.rt x65)))))))
def m_law_nb_drawn (a : Unit) : W PyData := rtOf (w_law_nb_drawn a)
theorem k_law_nb_drawn {f : Addr} {fd : FuncData} (F : Fun K "_law_nb_drawn" "_law_nb_drawn" slaw_nb_drawn f fd) (T : Txt K mg) {π : Around → Prop} (sπ : Stb π) (h_law_fraction : Has P w K mg base π "_law_fraction" 2 ["_law_top", "_law_bottom"] (SpF (pC qI (pC qI p0)).ra (qP qI qI) m_law_fraction)) (h_law_pick : Has P w K mg base π "_law_pick" 2 ["_law_dice_here", "_law_items"] (SpD (pC (qL qI) p0).ra qI m_law_pick)) (h_law_roll : Has P w K mg base π "_law_roll" 1 ["_law_dice_here", "_law_total"] (SpD (pC qI p0).ra qI m_law_roll)) : FnP π P w K mg base CX0 3 f fd ["_law_dice_here"] (SpD p0.ra qV m_law_nb_drawn) := by
  refine fn_okD (p := p0) (m := w_law_nb_drawn) (pn := (fun z _ => nomatch z)) (pl := fun _ _ => []) (env := fun a => [.un, .un]) 2 sπ F sclaw_nb_drawn rfl rfl (fun _ => rfl) ?hb ?hg
  case hb =>
    intro cdv A outer s H E hp hr C d a hA
    unfold w_law_nb_drawn
    exact (xs_set (i := 1) (xe_callDH h_law_pick hp hr (by decide) (by rfl) (pv 0) (xa_cons (xe_N (xn_lst (xa_consL xe_int (xa_consL xe_int (xa_consL (xe_pow xe_int xe_int) (xa_consL (xe_mul (xe_pow xe_int xe_int) (xe_pow xe_int xe_int)) xa_nilL)))))) xa_nil)) (fun v1 => (xs_set (i := 2) (xe_sub (xe_callDH h_law_roll hp hr (by decide) (by rfl) (pv 0) (xa_cons (xe_add (xe_mul xe_int (xe_var (pv 1))) xe_int) xa_nil)) (xe_var (pv 1))) (fun v22 => (xs_ifx (xt_cmpD cd_eqI (xe_callDH h_law_roll hp hr (by decide) (by rfl) (pv 0) (xa_cons xe_int xa_nil)) xe_int rfl) (xs_ret (xe_enc eI (xe_var (pv 2)))) (xs_ret (xe_enc (eP eI eI) (xe_callH h_law_fraction hp hr (by decide) (by rfl) (xa_cons (xe_var (pv 2)) (xa_cons (xe_add xe_int (xe_callDH h_law_roll hp hr (by decide) (by rfl) (pv 0) (xa_cons (xe_callDH h_law_pick hp hr (by decide) (by rfl) (pv 0) (xa_cons (xe_N (xn_lst (xa_consL xe_int (xa_consL xe_int (xa_consL xe_int (xa_consL (xe_pow xe_int xe_int) xa_nilL)))))) xa_nil)) xa_nil))) xa_nil))))))) sclaw_nb_drawn.nd rfl (.inl rfl) rfl rfl)) sclaw_nb_drawn.nd rfl (.inl rfl) rfl rfl)
  case hg => exact fun _ => rfl
abbrev slaw_nb_pair : Stmt := top 47
abbrev Nlaw_nb_pair : List Str := ["_law_number"]
theorem sclaw_nb_pair : FnScope ["_law_number"] ["_law_number"] (defScope slaw_nb_pair) := ⟨rfl, rfl, rfl, by decide +kernel, rfl, by decide +kernel, by decide +kernel⟩
def w_law_nb_pair (a : PyData × Unit) : W (Fl (Int × Int) Empty Unit) :=
  ((((W.ret a.1).bind fun x1 => (W.ret (isIntV x1))).bind fun p6 => (if p6 = true then (((W.ret a.1).bind fun x2 => (ofO (eI.dec x2))).bind fun x3 => ((W.ret (1 : Int)).bind fun x4 => (W.ret (x3, x4)))) else ((W.ret a.1).bind fun x5 => (ofO ((eP eI eI).dec x5))))).bind fun x7 => (W.ret (Fl.rt x7)))
def o_law_nb_pair (a : PyData × Unit) : Option (Fl (Int × Int) Empty Unit) :=
  ((((some a.1).bind fun x1 => (some (isIntV x1))).bind fun p6 => (if p6 = true then (((some a.1).bind fun x2 => (eI.dec x2)).bind fun x3 => ((some (1 : Int)).bind fun x4 => (some (x3, x4)))) else ((some a.1).bind fun x5 => ((eP eI eI).dec x5)))).bind fun x7 => (some (Fl.rt x7)))
def m_law_nb_pair (a : PyData × Unit) : Option (Int × Int) := rtO (o_law_nb_pair a)
theorem k_law_nb_pair {f : Addr} {fd : FuncData} (F : Fun K "_law_nb_pair" "_law_nb_pair" slaw_nb_pair f fd) (T : Txt K mg) {π : Around → Prop} (sπ : Stb π) : FnP π P w K mg base CX0 1 f fd ["_law_number"] (SpF (pC qV p0).ra (qP qI qI) m_law_nb_pair) := by
  refine fn_okF (p := (pC qV p0)) (m := w_law_nb_pair) (pn := (fun z _ => nomatch z)) (pl := fun _ _ => []) (env := fun a => [.im qV a.1]) 0 sπ F sclaw_nb_pair rfl rfl (fun _ => rfl) ?hb ?hg
  case hb =>
    intro cdv A outer s H E hp hr C a hA
    unfold w_law_nb_pair
    exact (xs_ret (xe_if (xt_val (xe_isiV (f := isIntV) (n := "int") (by rfl) T.isinstance (xe_var (pv 0)) (by rfl) T.int (by decide +kernel) kInt)) (xe_tup2 (xe_dec eI (xe_var (pv 0))) xe_int) (xe_dec (eP eI eI) (xe_var (pv 0)))))
  case hg =>
    intro a
    simp only [m_law_nb_pair, o_law_nb_pair, w_law_nb_pair, ofO_rt, ofO_rtN, ofO_bind, ofO_some, ofO_if, ofO_up, ofO_lc, ofO_lca, ofO_lc2, ofO_for, ofO_while, ofO_bindF, ofO_no, ofO_optM]
abbrev sis_whole : Stmt := top 10
abbrev Nis_whole : List Str := ["value"]
theorem scis_whole : FnScope ["value"] ["value"] (defScope sis_whole) := ⟨rfl, rfl, rfl, by decide +kernel, rfl, by decide +kernel, by decide +kernel⟩
def w_is_whole (a : PyData × Unit) : W (Fl Bool Empty Unit) :=
  ((((W.ret a.1).bind fun x1 => (W.ret (isIntV x1))).bind fun p4 => (if p4 = true then (((W.ret a.1).bind fun x2 => (W.ret (isBoolV x2))).bind fun p3 => (W.ret (!p3))) else (W.ret false))).bind fun x5 => (W.ret (Fl.rt x5)))
def o_is_whole (a : PyData × Unit) : Option (Fl Bool Empty Unit) :=
  ((((some a.1).bind fun x1 => (some (isIntV x1))).bind fun p4 => (if p4 = true then (((some a.1).bind fun x2 => (some (isBoolV x2))).bind fun p3 => (some (!p3))) else (some false))).bind fun x5 => (some (Fl.rt x5)))
def m_is_whole (a : PyData × Unit) : Option Bool := rtO (o_is_whole a)
theorem k_is_whole {f : Addr} {fd : FuncData} (F : Fun K "is_whole" "is_whole" sis_whole f fd) (T : Txt K mg) {π : Around → Prop} (sπ : Stb π) : FnP π P w K mg base CX0 1 f fd ["value"] (SpF (pC qV p0).ra qB m_is_whole) := by
  refine fn_okF (p := (pC qV p0)) (m := w_is_whole) (pn := (fun z _ => nomatch z)) (pl := fun _ _ => []) (env := fun a => [.im qV a.1]) 0 sπ F scis_whole rfl rfl (fun _ => rfl) ?hb ?hg
  case hb =>
    intro cdv A outer s H E hp hr C a hA
    unfold w_is_whole
    exact (xs_ret (xe_andB (xe_isiV (f := isIntV) (n := "int") (by rfl) T.isinstance (xe_var (pv 0)) (by rfl) T.int (by decide +kernel) kInt) (xe_one (xe_not (xe_isiV (f := isBoolV) (n := "bool") (by rfl) T.isinstance (xe_var (pv 0)) (by rfl) T.bool (by decide +kernel) kBool)))))
  case hg =>
    intro a
    simp only [m_is_whole, o_is_whole, w_is_whole, ofO_rt, ofO_rtN, ofO_bind, ofO_some, ofO_if, ofO_up, ofO_lc, ofO_lca, ofO_lc2, ofO_for, ofO_while, ofO_bindF, ofO_no, ofO_optM]
abbrev sis_fraction : Stmt := top 13
abbrev Nis_fraction : List Str := ["value", "top", "bottom"]
theorem scis_fraction : FnScope ["value", "top", "bottom"] ["value"] (defScope sis_fraction) := ⟨rfl, rfl, rfl, by decide +kernel, rfl, by decide +kernel, by decide +kernel⟩
def w_is_fraction (a : PyData × Unit) : W (Fl Bool Empty Unit) :=
  (((((W.ret a.1).bind fun x1 => (W.ret (isTupV x1))).bind fun b2 => (W.ret (!b2))).bind fun p7 => (if p7 = true then W.ret true else ((((W.ret a.1).bind fun x3 => (ofO ((eT eV).dec x3))).bind fun x4 => (W.ret (x4.length : Int))).bind fun p5 => ((W.ret (2 : Int)).bind fun q6 => (ofO (some (!decide (p5 = q6)))))))).bind fun b8 => (if b8 = true then upF ((W.ret false).bind fun x9 => (W.ret (Fl.rt x9))) else (((W.ret a.1).bind fun x10 => (ofO ((eP eV eV).dec x10))).bind fun (v11 : (PyData × PyData)) => (((((W.ret v11.1).bind fun x12 => ((W.ret ()).bind fun y13 => (W.ret (x12, y13)))).bind fun a14 => (ofO (m_is_whole a14))).bind fun p29 => (if p29 = true then ((((W.ret v11.2).bind fun x15 => ((W.ret ()).bind fun y16 => (W.ret (x15, y16)))).bind fun a17 => (ofO (m_is_whole a17))).bind fun p28 => (if p28 = true then ((((W.ret v11.2).bind fun x20 => (ofO (eI.dec x20))).bind fun p18 => ((W.ret (1 : Int)).bind fun q19 => (ofO (some (decide (q19 ≤ p18)))))).bind fun p27 => (if p27 = true then ((((W.ret v11.1).bind fun x21 => (ofO (eI.dec x21))).bind fun i23 => (((W.ret v11.2).bind fun x22 => (ofO (eI.dec x22))).bind fun j24 => (ofO (some (gcdC i23 j24))))).bind fun p25 => ((W.ret (1 : Int)).bind fun q26 => (ofO (some (decide (p25 = q26)))))) else (W.ret false))) else (W.ret false))) else (W.ret false))).bind fun x30 => (W.ret (Fl.rt x30))))))
def o_is_fraction (a : PyData × Unit) : Option (Fl Bool Empty Unit) :=
  (((((some a.1).bind fun x1 => (some (isTupV x1))).bind fun b2 => (some (!b2))).bind fun p7 => (if p7 = true then some true else ((((some a.1).bind fun x3 => ((eT eV).dec x3)).bind fun x4 => (some (x4.length : Int))).bind fun p5 => ((some (2 : Int)).bind fun q6 => (some (!decide (p5 = q6))))))).bind fun b8 => (if b8 = true then upO ((some false).bind fun x9 => (some (Fl.rt x9))) else (((some a.1).bind fun x10 => ((eP eV eV).dec x10)).bind fun (v11 : (PyData × PyData)) => (((((some v11.1).bind fun x12 => ((some ()).bind fun y13 => (some (x12, y13)))).bind fun a14 => (m_is_whole a14)).bind fun p29 => (if p29 = true then ((((some v11.2).bind fun x15 => ((some ()).bind fun y16 => (some (x15, y16)))).bind fun a17 => (m_is_whole a17)).bind fun p28 => (if p28 = true then ((((some v11.2).bind fun x20 => (eI.dec x20)).bind fun p18 => ((some (1 : Int)).bind fun q19 => (some (decide (q19 ≤ p18))))).bind fun p27 => (if p27 = true then ((((some v11.1).bind fun x21 => (eI.dec x21)).bind fun i23 => (((some v11.2).bind fun x22 => (eI.dec x22)).bind fun j24 => (some (gcdC i23 j24)))).bind fun p25 => ((some (1 : Int)).bind fun q26 => (some (decide (p25 = q26))))) else (some false))) else (some false))) else (some false))).bind fun x30 => (some (Fl.rt x30))))))
def m_is_fraction (a : PyData × Unit) : Option Bool := rtO (o_is_fraction a)
theorem k_is_fraction {f : Addr} {fd : FuncData} (F : Fun K "is_fraction" "is_fraction" sis_fraction f fd) (T : Txt K mg) {π : Around → Prop} (sπ : Stb π) (h_is_whole : Has P w K mg base π "is_whole" 1 ["value"] (SpF (pC qV p0).ra qB m_is_whole)) : FnP π P w K mg base CX0 2 f fd ["value"] (SpF (pC qV p0).ra qB m_is_fraction) := by
  refine fn_okF (p := (pC qV p0)) (m := w_is_fraction) (pn := (fun z _ => nomatch z)) (pl := fun _ _ => []) (env := fun a => [.im qV a.1, .un, .un]) 2 sπ F scis_fraction rfl rfl (fun _ => rfl) ?hb ?hg
  case hb =>
    intro cdv A outer s H E hp hr C a hA
    unfold w_is_fraction
    exact (xs_ifx (PW.pt (xw_or (xt_not (xt_val (xe_isiV (f := isTupV) (n := "tuple") (by rfl) T.isinstance (xe_var (pv 0)) (by rfl) T.tuple (by decide +kernel) kTup))) (xw_or1 (xt_cmpD cd_neI (xe_len (by rfl) T.len (xq_im (xe_dec (eT eV) (xe_var (pv 0))))) xe_int rfl)))) (xs_ret xe_bl) (xs_asg (up := (uP (uN 1 qV) (uN 2 qV))) (xe_dec (eP eV eV) (xe_var (pv 0))) (xg_pair rfl (xg_name (pg_name (i := 1) scis_fraction.nd rfl (by first | exact .inl rfl | exact .inr rfl))) (xg_name (pg_name (i := 2) scis_fraction.nd rfl (by first | exact .inl rfl | exact .inr rfl)))) (fun v11 => (xs_ret (xe_andB (xe_callH h_is_whole hp hr (by decide) (by rfl) (xa_cons (xe_var (pv 1)) xa_nil)) (xe_andB (xe_callH h_is_whole hp hr (by decide) (by rfl) (xa_cons (xe_var (pv 2)) xa_nil)) (xe_andB (xe_cmpD cd_ge (xe_dec eI (xe_var (pv 2))) xe_int rfl) (xe_one (xe_cmpD cd_eqI (xe_gcd (by rfl) T.gcd_m (xe_dec eI (xe_var (pv 1))) (xe_dec eI (xe_var (pv 2)))) xe_int rfl)))))))))
  case hg =>
    intro a
    simp only [m_is_fraction, o_is_fraction, w_is_fraction, ofO_rt, ofO_rtN, ofO_bind, ofO_some, ofO_if, ofO_up, ofO_lc, ofO_lca, ofO_lc2, ofO_for, ofO_while, ofO_bindF, ofO_no, ofO_optM]
abbrev sis_number : Stmt := top 14
abbrev Nis_number : List Str := ["value"]
theorem scis_number : FnScope ["value"] ["value"] (defScope sis_number) := ⟨rfl, rfl, rfl, by decide +kernel, rfl, by decide +kernel, by decide +kernel⟩
def w_is_number (a : PyData × Unit) : W (Fl Bool Empty Unit) :=
  (((((W.ret a.1).bind fun x1 => ((W.ret ()).bind fun y2 => (W.ret (x1, y2)))).bind fun a3 => (ofO (m_is_whole a3))).bind fun p7 => (if p7 = true then (W.ret true) else (((W.ret a.1).bind fun x4 => ((W.ret ()).bind fun y5 => (W.ret (x4, y5)))).bind fun a6 => (ofO (m_is_fraction a6))))).bind fun x8 => (W.ret (Fl.rt x8)))
def o_is_number (a : PyData × Unit) : Option (Fl Bool Empty Unit) :=
  (((((some a.1).bind fun x1 => ((some ()).bind fun y2 => (some (x1, y2)))).bind fun a3 => (m_is_whole a3)).bind fun p7 => (if p7 = true then (some true) else (((some a.1).bind fun x4 => ((some ()).bind fun y5 => (some (x4, y5)))).bind fun a6 => (m_is_fraction a6)))).bind fun x8 => (some (Fl.rt x8)))
def m_is_number (a : PyData × Unit) : Option Bool := rtO (o_is_number a)
theorem k_is_number {f : Addr} {fd : FuncData} (F : Fun K "is_number" "is_number" sis_number f fd) (T : Txt K mg) {π : Around → Prop} (sπ : Stb π) (h_is_fraction : Has P w K mg base π "is_fraction" 2 ["value"] (SpF (pC qV p0).ra qB m_is_fraction)) (h_is_whole : Has P w K mg base π "is_whole" 1 ["value"] (SpF (pC qV p0).ra qB m_is_whole)) : FnP π P w K mg base CX0 3 f fd ["value"] (SpF (pC qV p0).ra qB m_is_number) := by
  refine fn_okF (p := (pC qV p0)) (m := w_is_number) (pn := (fun z _ => nomatch z)) (pl := fun _ _ => []) (env := fun a => [.im qV a.1]) 0 sπ F scis_number rfl rfl (fun _ => rfl) ?hb ?hg
  case hb =>
    intro cdv A outer s H E hp hr C a hA
    unfold w_is_number
    exact (xs_ret (xe_orB (xe_callH h_is_whole hp hr (by decide) (by rfl) (xa_cons (xe_var (pv 0)) xa_nil)) (xe_one (xe_callH h_is_fraction hp hr (by decide) (by rfl) (xa_cons (xe_var (pv 0)) xa_nil)))))
  case hg =>
    intro a
    simp only [m_is_number, o_is_number, w_is_number, ofO_rt, ofO_rtN, ofO_bind, ofO_some, ofO_if, ofO_up, ofO_lc, ofO_lca, ofO_lc2, ofO_for, ofO_while, ofO_bindF, ofO_no, ofO_optM]
abbrev scheck_number : Stmt := top 18
abbrev Ncheck_number : List Str := ["value"]
theorem sccheck_number : FnScope ["value"] ["value"] (defScope scheck_number) := ⟨rfl, rfl, rfl, by decide +kernel, rfl, by decide +kernel, by decide +kernel⟩
def w_check_number (a : PyData × Unit) : W (Fl Unit Unit Unit) :=
  (((((W.ret a.1).bind fun x1 => ((W.ret ()).bind fun y2 => (W.ret (x1, y2)))).bind fun a3 => (ofO (m_is_number a3))).bind fun b4 => (W.ret (!b4))).bind fun b5 => (if b5 = true then upF W.no else (W.ret (Fl.nx ()))))
def o_check_number (a : PyData × Unit) : Option (Fl Unit Unit Unit) :=
  (((((some a.1).bind fun x1 => ((some ()).bind fun y2 => (some (x1, y2)))).bind fun a3 => (m_is_number a3)).bind fun b4 => (some (!b4))).bind fun b5 => (if b5 = true then upO none else (some (Fl.nx ()))))
def m_check_number (a : PyData × Unit) : Option Unit := rtNO (o_check_number a)
theorem k_check_number {f : Addr} {fd : FuncData} (F : Fun K "check_number" "check_number" scheck_number f fd) (T : Txt K mg) {π : Around → Prop} (sπ : Stb π) (h_is_number : Has P w K mg base π "is_number" 3 ["value"] (SpF (pC qV p0).ra qB m_is_number)) : FnP π P w K mg base CX0 4 f fd ["value"] (SpF (pC qV p0).ra qN m_check_number) := by
  refine fn_okN (p := (pC qV p0)) (m := w_check_number) (pn := (fun _ g => [.un])) (pl := fun _ _ => []) (env := fun a => [.im qV a.1]) 0 sπ F sccheck_number rfl rfl (fun _ => rfl) ?hb ?hg
  case hb =>
    intro cdv A outer s H E hp hr C a hA
    unfold w_check_number
    exact (xs_ifx (xt_not (xt_val (xe_callH h_is_number hp hr (by decide) (by rfl) (xa_cons (xe_var (pv 0)) xa_nil)))) xs_never (xs_nil (fun _ => (.drop .nil))))
  case hg =>
    intro a
    simp only [m_check_number, o_check_number, w_check_number, ofO_rt, ofO_rtN, ofO_bind, ofO_some, ofO_if, ofO_up, ofO_lc, ofO_lca, ofO_lc2, ofO_for, ofO_while, ofO_bindF, ofO_no, ofO_optM]
abbrev spair_of : Stmt := top 19
abbrev Npair_of : List Str := ["number"]
theorem scpair_of : FnScope ["number"] ["number"] (defScope spair_of) := ⟨rfl, rfl, rfl, by decide +kernel, rfl, by decide +kernel, by decide +kernel⟩
def w_pair_of (a : PyData × Unit) : W (Fl (Int × Int) Empty Unit) :=
  (((W.ret a.1).bind fun x1 => (W.ret (isTupV x1))).bind fun b2 => (if b2 = true then upF (((W.ret a.1).bind fun x3 => (ofO ((eP eI eI).dec x3))).bind fun x4 => (W.ret (Fl.rt x4))) else ((((W.ret a.1).bind fun x5 => (ofO (eI.dec x5))).bind fun x6 => ((W.ret (1 : Int)).bind fun x7 => (W.ret (x6, x7)))).bind fun x8 => (W.ret (Fl.rt x8)))))
def o_pair_of (a : PyData × Unit) : Option (Fl (Int × Int) Empty Unit) :=
  (((some a.1).bind fun x1 => (some (isTupV x1))).bind fun b2 => (if b2 = true then upO (((some a.1).bind fun x3 => ((eP eI eI).dec x3)).bind fun x4 => (some (Fl.rt x4))) else ((((some a.1).bind fun x5 => (eI.dec x5)).bind fun x6 => ((some (1 : Int)).bind fun x7 => (some (x6, x7)))).bind fun x8 => (some (Fl.rt x8)))))
def m_pair_of (a : PyData × Unit) : Option (Int × Int) := rtO (o_pair_of a)
theorem k_pair_of {f : Addr} {fd : FuncData} (F : Fun K "pair_of" "pair_of" spair_of f fd) (T : Txt K mg) {π : Around → Prop} (sπ : Stb π) : FnP π P w K mg base CX0 1 f fd ["number"] (SpF (pC qV p0).ra (qP qI qI) m_pair_of) := by
  refine fn_okF (p := (pC qV p0)) (m := w_pair_of) (pn := (fun z _ => nomatch z)) (pl := fun _ _ => []) (env := fun a => [.im qV a.1]) 0 sπ F scpair_of rfl rfl (fun _ => rfl) ?hb ?hg
  case hb =>
    intro cdv A outer s H E hp hr C a hA
    unfold w_pair_of
    exact (xs_ifx (xt_val (xe_isiV (f := isTupV) (n := "tuple") (by rfl) T.isinstance (xe_var (pv 0)) (by rfl) T.tuple (by decide +kernel) kTup)) (xs_ret (xe_dec (eP eI eI) (xe_var (pv 0)))) (xs_ret (xe_tup2 (xe_dec eI (xe_var (pv 0))) xe_int)))
  case hg =>
    intro a
    simp only [m_pair_of, o_pair_of, w_pair_of, ofO_rt, ofO_rtN, ofO_bind, ofO_some, ofO_if, ofO_up, ofO_lc, ofO_lca, ofO_lc2, ofO_for, ofO_while, ofO_bindF, ofO_no, ofO_optM]
abbrev sreduced : Stmt := top 20
abbrev Nreduced : List Str := ["top", "bottom", "shared"]
theorem screduced : FnScope ["top", "bottom", "shared"] ["top", "bottom"] (defScope sreduced) := ⟨rfl, rfl, rfl, by decide +kernel, rfl, by decide +kernel, by decide +kernel⟩
def w_reduced (a : Int × Int × Unit) : W (Fl (Int × Int) Empty Unit) :=
  (((W.ret a.1).bind fun i2 => ((W.ret a.2.1).bind fun j3 => (ofO (some (gcdC i2 j3))))).bind fun (v1 : Int) => (((W.ret a.2.1).bind fun p4 => ((W.ret (0 : Int)).bind fun q5 => (ofO (some (decide (p4 < q5)))))).bind fun b6 => bindF (if b6 = true then (((W.ret v1).bind fun p9 => (W.ret (-p9))).bind fun (v8 : Int) => (W.ret (Fl.nx v8))) else (W.ret (Fl.nx v1))) (fun (s7 : Int) => ((((W.ret a.1).bind fun p10 => ((W.ret s7).bind fun q11 => (ofO (divC p10 q11)))).bind fun x14 => (((W.ret a.2.1).bind fun p12 => ((W.ret s7).bind fun q13 => (ofO (divC p12 q13)))).bind fun x15 => (W.ret (x14, x15)))).bind fun x16 => (W.ret (Fl.rt x16))))))
def o_reduced (a : Int × Int × Unit) : Option (Fl (Int × Int) Empty Unit) :=
  (((some a.1).bind fun i2 => ((some a.2.1).bind fun j3 => (some (gcdC i2 j3)))).bind fun (v1 : Int) => (((some a.2.1).bind fun p4 => ((some (0 : Int)).bind fun q5 => (some (decide (p4 < q5))))).bind fun b6 => bindFO (if b6 = true then (((some v1).bind fun p9 => (some (-p9))).bind fun (v8 : Int) => (some (Fl.nx v8))) else (some (Fl.nx v1))) (fun (s7 : Int) => ((((some a.1).bind fun p10 => ((some s7).bind fun q11 => (divC p10 q11))).bind fun x14 => (((some a.2.1).bind fun p12 => ((some s7).bind fun q13 => (divC p12 q13))).bind fun x15 => (some (x14, x15)))).bind fun x16 => (some (Fl.rt x16))))))
def m_reduced (a : Int × Int × Unit) : Option (Int × Int) := rtO (o_reduced a)
theorem k_reduced {f : Addr} {fd : FuncData} (F : Fun K "reduced" "reduced" sreduced f fd) (T : Txt K mg) {π : Around → Prop} (sπ : Stb π) : FnP π P w K mg base CX0 1 f fd ["top", "bottom"] (SpF (pC qI (pC qI p0)).ra (qP qI qI) m_reduced) := by
  refine fn_okF (p := (pC qI (pC qI p0))) (m := w_reduced) (pn := (fun z _ => nomatch z)) (pl := fun _ _ => []) (env := fun a => [.im qI a.1, .im qI a.2.1, .un]) 1 sπ F screduced rfl rfl (fun _ => rfl) ?hb ?hg
  case hb =>
    intro cdv A outer s H E hp hr C a hA
    unfold w_reduced
    exact (xs_set (i := 2) (xe_gcd (by rfl) T.gcd_m (xe_var (pv 0)) (xe_var (pv 1))) (fun v1 => (xs_if (pt := fun (s7 : Int) g => [.im qI a.1, .im qI a.2.1, .im qI s7]) (xt_cmpD cd_lt (xe_var (pv 1)) xe_int rfl) (xs_set (i := 2) (xe_neg (xe_var (pv 2))) (fun v8 => (xs_nil (fun _ => (.keep (.keep (.keep .nil)))))) screduced.nd rfl (.inl rfl) rfl rfl) (xs_nil (fun _ => (.keep (.keep (.keep .nil))))) (fun s7 => (xs_ret (xe_tup2 (xe_fdiv (xe_var (pv 0)) (xe_var (pv 2))) (xe_fdiv (xe_var (pv 1)) (xe_var (pv 2)))))))) screduced.nd rfl (.inl rfl) rfl rfl)
  case hg =>
    intro a
    simp only [m_reduced, o_reduced, w_reduced, ofO_rt, ofO_rtN, ofO_bind, ofO_some, ofO_if, ofO_up, ofO_lc, ofO_lca, ofO_lc2, ofO_for, ofO_while, ofO_bindF, ofO_no, ofO_optM]
abbrev ssum_of : Stmt := top 21
abbrev Nsum_of : List Str := ["one", "other"]
theorem scsum_of : FnScope ["one", "other"] ["one", "other"] (defScope ssum_of) := ⟨rfl, rfl, rfl, by decide +kernel, rfl, by decide +kernel, by decide +kernel⟩
def w_sum_of (a : (List Int) × (List Int) × Unit) : W (Fl (Int × Int) Empty Unit) :=
  (((((((W.ret a.1).bind fun x1 => ((W.ret (0 : Int)).bind fun i2 => (ofO (L2.atI x1 i2)))).bind fun p5 => (((W.ret a.2.1).bind fun x3 => ((W.ret (1 : Int)).bind fun i4 => (ofO (L2.atI x3 i4)))).bind fun q6 => (ofO (mulC p5 q6)))).bind fun p13 => ((((W.ret a.2.1).bind fun x7 => ((W.ret (0 : Int)).bind fun i8 => (ofO (L2.atI x7 i8)))).bind fun p11 => (((W.ret a.1).bind fun x9 => ((W.ret (1 : Int)).bind fun i10 => (ofO (L2.atI x9 i10)))).bind fun q12 => (ofO (mulC p11 q12)))).bind fun q14 => (W.ret (p13 + q14)))).bind fun x23 => (((((W.ret a.1).bind fun x15 => ((W.ret (1 : Int)).bind fun i16 => (ofO (L2.atI x15 i16)))).bind fun p19 => (((W.ret a.2.1).bind fun x17 => ((W.ret (1 : Int)).bind fun i18 => (ofO (L2.atI x17 i18)))).bind fun q20 => (ofO (mulC p19 q20)))).bind fun x21 => ((W.ret ()).bind fun y22 => (W.ret (x21, y22)))).bind fun y24 => (W.ret (x23, y24)))).bind fun a25 => (ofO (m_reduced a25))).bind fun x26 => (W.ret (Fl.rt x26)))
def o_sum_of (a : (List Int) × (List Int) × Unit) : Option (Fl (Int × Int) Empty Unit) :=
  (((((((some a.1).bind fun x1 => ((some (0 : Int)).bind fun i2 => (L2.atI x1 i2))).bind fun p5 => (((some a.2.1).bind fun x3 => ((some (1 : Int)).bind fun i4 => (L2.atI x3 i4))).bind fun q6 => (mulC p5 q6))).bind fun p13 => ((((some a.2.1).bind fun x7 => ((some (0 : Int)).bind fun i8 => (L2.atI x7 i8))).bind fun p11 => (((some a.1).bind fun x9 => ((some (1 : Int)).bind fun i10 => (L2.atI x9 i10))).bind fun q12 => (mulC p11 q12))).bind fun q14 => (some (p13 + q14)))).bind fun x23 => (((((some a.1).bind fun x15 => ((some (1 : Int)).bind fun i16 => (L2.atI x15 i16))).bind fun p19 => (((some a.2.1).bind fun x17 => ((some (1 : Int)).bind fun i18 => (L2.atI x17 i18))).bind fun q20 => (mulC p19 q20))).bind fun x21 => ((some ()).bind fun y22 => (some (x21, y22)))).bind fun y24 => (some (x23, y24)))).bind fun a25 => (m_reduced a25)).bind fun x26 => (some (Fl.rt x26)))
def m_sum_of (a : (List Int) × (List Int) × Unit) : Option (Int × Int) := rtO (o_sum_of a)
theorem k_sum_of {f : Addr} {fd : FuncData} (F : Fun K "sum_of" "sum_of" ssum_of f fd) (T : Txt K mg) {π : Around → Prop} (sπ : Stb π) (h_reduced : Has P w K mg base π "reduced" 1 ["top", "bottom"] (SpF (pC qI (pC qI p0)).ra (qP qI qI) m_reduced)) : FnP π P w K mg base CX0 2 f fd ["one", "other"] (SpF (pC (qT qI) (pC (qT qI) p0)).ra (qP qI qI) m_sum_of) := by
  refine fn_okF (p := (pC (qT qI) (pC (qT qI) p0))) (m := w_sum_of) (pn := (fun z _ => nomatch z)) (pl := fun _ _ => []) (env := fun a => [.im (qT qI) a.1, .im (qT qI) a.2.1]) 0 sπ F scsum_of rfl rfl (fun _ => rfl) ?hb ?hg
  case hb =>
    intro cdv A outer s H E hp hr C a hA
    unfold w_sum_of
    exact (xs_ret (xe_callH h_reduced hp hr (by decide) (by rfl) (xa_cons (xe_add (xe_mul (xe_ix (xq_im (xe_var (pv 0))) xe_int) (xe_ix (xq_im (xe_var (pv 1))) xe_int)) (xe_mul (xe_ix (xq_im (xe_var (pv 1))) xe_int) (xe_ix (xq_im (xe_var (pv 0))) xe_int))) (xa_cons (xe_mul (xe_ix (xq_im (xe_var (pv 0))) xe_int) (xe_ix (xq_im (xe_var (pv 1))) xe_int)) xa_nil))))
  case hg =>
    intro a
    simp only [m_sum_of, o_sum_of, w_sum_of, ofO_rt, ofO_rtN, ofO_bind, ofO_some, ofO_if, ofO_up, ofO_lc, ofO_lca, ofO_lc2, ofO_for, ofO_while, ofO_bindF, ofO_no, ofO_optM]
abbrev sadded : Stmt := top 25
abbrev Nadded : List Str := ["one", "other"]
theorem scadded : FnScope ["one", "other"] ["one", "other"] (defScope sadded) := ⟨rfl, rfl, rfl, by decide +kernel, rfl, by decide +kernel, by decide +kernel⟩
def w_added (a : PyData × PyData × Unit) : W (Fl (Int × Int) Empty Unit) :=
  ((((W.ret a.1).bind fun x1 => ((W.ret ()).bind fun y2 => (W.ret (x1, y2)))).bind fun a3 => (ofO (m_check_number a3))).bind fun _v4 => ((((W.ret a.2.1).bind fun x5 => ((W.ret ()).bind fun y6 => (W.ret (x5, y6)))).bind fun a7 => (ofO (m_check_number a7))).bind fun _v8 => (((((((W.ret a.1).bind fun x9 => ((W.ret ()).bind fun y10 => (W.ret (x9, y10)))).bind fun a11 => (ofO (m_pair_of a11))).bind fun x15 => (W.ret [x15.1, x15.2])).bind fun x19 => ((((((W.ret a.2.1).bind fun x12 => ((W.ret ()).bind fun y13 => (W.ret (x12, y13)))).bind fun a14 => (ofO (m_pair_of a14))).bind fun x16 => (W.ret [x16.1, x16.2])).bind fun x17 => ((W.ret ()).bind fun y18 => (W.ret (x17, y18)))).bind fun y20 => (W.ret (x19, y20)))).bind fun a21 => (ofO (m_sum_of a21))).bind fun x22 => (W.ret (Fl.rt x22)))))
def o_added (a : PyData × PyData × Unit) : Option (Fl (Int × Int) Empty Unit) :=
  ((((some a.1).bind fun x1 => ((some ()).bind fun y2 => (some (x1, y2)))).bind fun a3 => (m_check_number a3)).bind fun _v4 => ((((some a.2.1).bind fun x5 => ((some ()).bind fun y6 => (some (x5, y6)))).bind fun a7 => (m_check_number a7)).bind fun _v8 => (((((((some a.1).bind fun x9 => ((some ()).bind fun y10 => (some (x9, y10)))).bind fun a11 => (m_pair_of a11)).bind fun x15 => (some [x15.1, x15.2])).bind fun x19 => ((((((some a.2.1).bind fun x12 => ((some ()).bind fun y13 => (some (x12, y13)))).bind fun a14 => (m_pair_of a14)).bind fun x16 => (some [x16.1, x16.2])).bind fun x17 => ((some ()).bind fun y18 => (some (x17, y18)))).bind fun y20 => (some (x19, y20)))).bind fun a21 => (m_sum_of a21)).bind fun x22 => (some (Fl.rt x22)))))
def m_added (a : PyData × PyData × Unit) : Option (Int × Int) := rtO (o_added a)
theorem k_added {f : Addr} {fd : FuncData} (F : Fun K "added" "added" sadded f fd) (T : Txt K mg) {π : Around → Prop} (sπ : Stb π) (h_check_number : Has P w K mg base π "check_number" 4 ["value"] (SpF (pC qV p0).ra qN m_check_number)) (h_pair_of : Has P w K mg base π "pair_of" 1 ["number"] (SpF (pC qV p0).ra (qP qI qI) m_pair_of)) (h_sum_of : Has P w K mg base π "sum_of" 2 ["one", "other"] (SpF (pC (qT qI) (pC (qT qI) p0)).ra (qP qI qI) m_sum_of)) : FnP π P w K mg base CX0 5 f fd ["one", "other"] (SpF (pC qV (pC qV p0)).ra (qP qI qI) m_added) := by
  refine fn_okF (p := (pC qV (pC qV p0))) (m := w_added) (pn := (fun z _ => nomatch z)) (pl := fun _ _ => []) (env := fun a => [.im qV a.1, .im qV a.2.1]) 0 sπ F scadded rfl rfl (fun _ => rfl) ?hb ?hg
  case hb =>
    intro cdv A outer s H E hp hr C a hA
    unfold w_added
    exact (xs_exp (xe_callH h_check_number hp hr (by decide) (by rfl) (xa_cons (xe_var (pv 0)) xa_nil)) (fun _v4 => (xs_exp (xe_callH h_check_number hp hr (by decide) (by rfl) (xa_cons (xe_var (pv 1)) xa_nil)) (fun _v8 => (xs_ret (xe_callH h_sum_of hp hr (by decide) (by rfl) (xa_cons (xe_row2 (xe_callH h_pair_of hp hr (by decide) (by rfl) (xa_cons (xe_var (pv 0)) xa_nil))) (xa_cons (xe_row2 (xe_callH h_pair_of hp hr (by decide) (by rfl) (xa_cons (xe_var (pv 1)) xa_nil))) xa_nil))))))))
  case hg =>
    intro a
    simp only [m_added, o_added, w_added, ofO_rt, ofO_rtN, ofO_bind, ofO_some, ofO_if, ofO_up, ofO_lc, ofO_lca, ofO_lc2, ofO_for, ofO_while, ofO_bindF, ofO_no, ofO_optM]
abbrev sproduct_of : Stmt := top 22
abbrev Nproduct_of : List Str := ["one", "other"]
theorem scproduct_of : FnScope ["one", "other"] ["one", "other"] (defScope sproduct_of) := ⟨rfl, rfl, rfl, by decide +kernel, rfl, by decide +kernel, by decide +kernel⟩
def w_product_of (a : (List Int) × (List Int) × Unit) : W (Fl (Int × Int) Empty Unit) :=
  ((((((W.ret a.1).bind fun x1 => ((W.ret (0 : Int)).bind fun i2 => (ofO (L2.atI x1 i2)))).bind fun p5 => (((W.ret a.2.1).bind fun x3 => ((W.ret (0 : Int)).bind fun i4 => (ofO (L2.atI x3 i4)))).bind fun q6 => (ofO (mulC p5 q6)))).bind fun x15 => (((((W.ret a.1).bind fun x7 => ((W.ret (1 : Int)).bind fun i8 => (ofO (L2.atI x7 i8)))).bind fun p11 => (((W.ret a.2.1).bind fun x9 => ((W.ret (1 : Int)).bind fun i10 => (ofO (L2.atI x9 i10)))).bind fun q12 => (ofO (mulC p11 q12)))).bind fun x13 => ((W.ret ()).bind fun y14 => (W.ret (x13, y14)))).bind fun y16 => (W.ret (x15, y16)))).bind fun a17 => (ofO (m_reduced a17))).bind fun x18 => (W.ret (Fl.rt x18)))
def o_product_of (a : (List Int) × (List Int) × Unit) : Option (Fl (Int × Int) Empty Unit) :=
  ((((((some a.1).bind fun x1 => ((some (0 : Int)).bind fun i2 => (L2.atI x1 i2))).bind fun p5 => (((some a.2.1).bind fun x3 => ((some (0 : Int)).bind fun i4 => (L2.atI x3 i4))).bind fun q6 => (mulC p5 q6))).bind fun x15 => (((((some a.1).bind fun x7 => ((some (1 : Int)).bind fun i8 => (L2.atI x7 i8))).bind fun p11 => (((some a.2.1).bind fun x9 => ((some (1 : Int)).bind fun i10 => (L2.atI x9 i10))).bind fun q12 => (mulC p11 q12))).bind fun x13 => ((some ()).bind fun y14 => (some (x13, y14)))).bind fun y16 => (some (x15, y16)))).bind fun a17 => (m_reduced a17)).bind fun x18 => (some (Fl.rt x18)))
def m_product_of (a : (List Int) × (List Int) × Unit) : Option (Int × Int) := rtO (o_product_of a)
theorem k_product_of {f : Addr} {fd : FuncData} (F : Fun K "product_of" "product_of" sproduct_of f fd) (T : Txt K mg) {π : Around → Prop} (sπ : Stb π) (h_reduced : Has P w K mg base π "reduced" 1 ["top", "bottom"] (SpF (pC qI (pC qI p0)).ra (qP qI qI) m_reduced)) : FnP π P w K mg base CX0 2 f fd ["one", "other"] (SpF (pC (qT qI) (pC (qT qI) p0)).ra (qP qI qI) m_product_of) := by
  refine fn_okF (p := (pC (qT qI) (pC (qT qI) p0))) (m := w_product_of) (pn := (fun z _ => nomatch z)) (pl := fun _ _ => []) (env := fun a => [.im (qT qI) a.1, .im (qT qI) a.2.1]) 0 sπ F scproduct_of rfl rfl (fun _ => rfl) ?hb ?hg
  case hb =>
    intro cdv A outer s H E hp hr C a hA
    unfold w_product_of
    exact (xs_ret (xe_callH h_reduced hp hr (by decide) (by rfl) (xa_cons (xe_mul (xe_ix (xq_im (xe_var (pv 0))) xe_int) (xe_ix (xq_im (xe_var (pv 1))) xe_int)) (xa_cons (xe_mul (xe_ix (xq_im (xe_var (pv 0))) xe_int) (xe_ix (xq_im (xe_var (pv 1))) xe_int)) xa_nil))))
  case hg =>
    intro a
    simp only [m_product_of, o_product_of, w_product_of, ofO_rt, ofO_rtN, ofO_bind, ofO_some, ofO_if, ofO_up, ofO_lc, ofO_lca, ofO_lc2, ofO_for, ofO_while, ofO_bindF, ofO_no, ofO_optM]
abbrev smultiplied : Stmt := top 26
abbrev Nmultiplied : List Str := ["one", "other"]
theorem scmultiplied : FnScope ["one", "other"] ["one", "other"] (defScope smultiplied) := ⟨rfl, rfl, rfl, by decide +kernel, rfl, by decide +kernel, by decide +kernel⟩
def w_multiplied (a : PyData × PyData × Unit) : W (Fl (Int × Int) Empty Unit) :=
  ((((W.ret a.1).bind fun x1 => ((W.ret ()).bind fun y2 => (W.ret (x1, y2)))).bind fun a3 => (ofO (m_check_number a3))).bind fun _v4 => ((((W.ret a.2.1).bind fun x5 => ((W.ret ()).bind fun y6 => (W.ret (x5, y6)))).bind fun a7 => (ofO (m_check_number a7))).bind fun _v8 => (((((((W.ret a.1).bind fun x9 => ((W.ret ()).bind fun y10 => (W.ret (x9, y10)))).bind fun a11 => (ofO (m_pair_of a11))).bind fun x15 => (W.ret [x15.1, x15.2])).bind fun x19 => ((((((W.ret a.2.1).bind fun x12 => ((W.ret ()).bind fun y13 => (W.ret (x12, y13)))).bind fun a14 => (ofO (m_pair_of a14))).bind fun x16 => (W.ret [x16.1, x16.2])).bind fun x17 => ((W.ret ()).bind fun y18 => (W.ret (x17, y18)))).bind fun y20 => (W.ret (x19, y20)))).bind fun a21 => (ofO (m_product_of a21))).bind fun x22 => (W.ret (Fl.rt x22)))))
def o_multiplied (a : PyData × PyData × Unit) : Option (Fl (Int × Int) Empty Unit) :=
  ((((some a.1).bind fun x1 => ((some ()).bind fun y2 => (some (x1, y2)))).bind fun a3 => (m_check_number a3)).bind fun _v4 => ((((some a.2.1).bind fun x5 => ((some ()).bind fun y6 => (some (x5, y6)))).bind fun a7 => (m_check_number a7)).bind fun _v8 => (((((((some a.1).bind fun x9 => ((some ()).bind fun y10 => (some (x9, y10)))).bind fun a11 => (m_pair_of a11)).bind fun x15 => (some [x15.1, x15.2])).bind fun x19 => ((((((some a.2.1).bind fun x12 => ((some ()).bind fun y13 => (some (x12, y13)))).bind fun a14 => (m_pair_of a14)).bind fun x16 => (some [x16.1, x16.2])).bind fun x17 => ((some ()).bind fun y18 => (some (x17, y18)))).bind fun y20 => (some (x19, y20)))).bind fun a21 => (m_product_of a21)).bind fun x22 => (some (Fl.rt x22)))))
def m_multiplied (a : PyData × PyData × Unit) : Option (Int × Int) := rtO (o_multiplied a)
theorem k_multiplied {f : Addr} {fd : FuncData} (F : Fun K "multiplied" "multiplied" smultiplied f fd) (T : Txt K mg) {π : Around → Prop} (sπ : Stb π) (h_check_number : Has P w K mg base π "check_number" 4 ["value"] (SpF (pC qV p0).ra qN m_check_number)) (h_pair_of : Has P w K mg base π "pair_of" 1 ["number"] (SpF (pC qV p0).ra (qP qI qI) m_pair_of)) (h_product_of : Has P w K mg base π "product_of" 2 ["one", "other"] (SpF (pC (qT qI) (pC (qT qI) p0)).ra (qP qI qI) m_product_of)) : FnP π P w K mg base CX0 5 f fd ["one", "other"] (SpF (pC qV (pC qV p0)).ra (qP qI qI) m_multiplied) := by
  refine fn_okF (p := (pC qV (pC qV p0))) (m := w_multiplied) (pn := (fun z _ => nomatch z)) (pl := fun _ _ => []) (env := fun a => [.im qV a.1, .im qV a.2.1]) 0 sπ F scmultiplied rfl rfl (fun _ => rfl) ?hb ?hg
  case hb =>
    intro cdv A outer s H E hp hr C a hA
    unfold w_multiplied
    exact (xs_exp (xe_callH h_check_number hp hr (by decide) (by rfl) (xa_cons (xe_var (pv 0)) xa_nil)) (fun _v4 => (xs_exp (xe_callH h_check_number hp hr (by decide) (by rfl) (xa_cons (xe_var (pv 1)) xa_nil)) (fun _v8 => (xs_ret (xe_callH h_product_of hp hr (by decide) (by rfl) (xa_cons (xe_row2 (xe_callH h_pair_of hp hr (by decide) (by rfl) (xa_cons (xe_var (pv 0)) xa_nil))) (xa_cons (xe_row2 (xe_callH h_pair_of hp hr (by decide) (by rfl) (xa_cons (xe_var (pv 1)) xa_nil))) xa_nil))))))))
  case hg =>
    intro a
    simp only [m_multiplied, o_multiplied, w_multiplied, ofO_rt, ofO_rtN, ofO_bind, ofO_some, ofO_if, ofO_up, ofO_lc, ofO_lca, ofO_lc2, ofO_for, ofO_while, ofO_bindF, ofO_no, ofO_optM]
abbrev slaw_plus : Stmt := top 41
abbrev Nlaw_plus : List Str := ["_law_one", "_law_other"]
theorem sclaw_plus : FnScope ["_law_one", "_law_other"] ["_law_one", "_law_other"] (defScope slaw_plus) := ⟨rfl, rfl, rfl, by decide +kernel, rfl, by decide +kernel, by decide +kernel⟩
def w_law_plus (a : (List Int) × (List Int) × Unit) : W (Fl (Int × Int) Empty Unit) :=
  (((((((W.ret a.1).bind fun x1 => ((W.ret (0 : Int)).bind fun i2 => (ofO (L2.atI x1 i2)))).bind fun p5 => (((W.ret a.2.1).bind fun x3 => ((W.ret (1 : Int)).bind fun i4 => (ofO (L2.atI x3 i4)))).bind fun q6 => (ofO (mulC p5 q6)))).bind fun p13 => ((((W.ret a.2.1).bind fun x7 => ((W.ret (0 : Int)).bind fun i8 => (ofO (L2.atI x7 i8)))).bind fun p11 => (((W.ret a.1).bind fun x9 => ((W.ret (1 : Int)).bind fun i10 => (ofO (L2.atI x9 i10)))).bind fun q12 => (ofO (mulC p11 q12)))).bind fun q14 => (W.ret (p13 + q14)))).bind fun x23 => (((((W.ret a.1).bind fun x15 => ((W.ret (1 : Int)).bind fun i16 => (ofO (L2.atI x15 i16)))).bind fun p19 => (((W.ret a.2.1).bind fun x17 => ((W.ret (1 : Int)).bind fun i18 => (ofO (L2.atI x17 i18)))).bind fun q20 => (ofO (mulC p19 q20)))).bind fun x21 => ((W.ret ()).bind fun y22 => (W.ret (x21, y22)))).bind fun y24 => (W.ret (x23, y24)))).bind fun a25 => (ofO (m_law_fraction a25))).bind fun x26 => (W.ret (Fl.rt x26)))
def o_law_plus (a : (List Int) × (List Int) × Unit) : Option (Fl (Int × Int) Empty Unit) :=
  (((((((some a.1).bind fun x1 => ((some (0 : Int)).bind fun i2 => (L2.atI x1 i2))).bind fun p5 => (((some a.2.1).bind fun x3 => ((some (1 : Int)).bind fun i4 => (L2.atI x3 i4))).bind fun q6 => (mulC p5 q6))).bind fun p13 => ((((some a.2.1).bind fun x7 => ((some (0 : Int)).bind fun i8 => (L2.atI x7 i8))).bind fun p11 => (((some a.1).bind fun x9 => ((some (1 : Int)).bind fun i10 => (L2.atI x9 i10))).bind fun q12 => (mulC p11 q12))).bind fun q14 => (some (p13 + q14)))).bind fun x23 => (((((some a.1).bind fun x15 => ((some (1 : Int)).bind fun i16 => (L2.atI x15 i16))).bind fun p19 => (((some a.2.1).bind fun x17 => ((some (1 : Int)).bind fun i18 => (L2.atI x17 i18))).bind fun q20 => (mulC p19 q20))).bind fun x21 => ((some ()).bind fun y22 => (some (x21, y22)))).bind fun y24 => (some (x23, y24)))).bind fun a25 => (m_law_fraction a25)).bind fun x26 => (some (Fl.rt x26)))
def m_law_plus (a : (List Int) × (List Int) × Unit) : Option (Int × Int) := rtO (o_law_plus a)
theorem k_law_plus {f : Addr} {fd : FuncData} (F : Fun K "_law_plus" "_law_plus" slaw_plus f fd) (T : Txt K mg) {π : Around → Prop} (sπ : Stb π) (h_law_fraction : Has P w K mg base π "_law_fraction" 2 ["_law_top", "_law_bottom"] (SpF (pC qI (pC qI p0)).ra (qP qI qI) m_law_fraction)) : FnP π P w K mg base CX0 3 f fd ["_law_one", "_law_other"] (SpF (pC (qT qI) (pC (qT qI) p0)).ra (qP qI qI) m_law_plus) := by
  refine fn_okF (p := (pC (qT qI) (pC (qT qI) p0))) (m := w_law_plus) (pn := (fun z _ => nomatch z)) (pl := fun _ _ => []) (env := fun a => [.im (qT qI) a.1, .im (qT qI) a.2.1]) 0 sπ F sclaw_plus rfl rfl (fun _ => rfl) ?hb ?hg
  case hb =>
    intro cdv A outer s H E hp hr C a hA
    unfold w_law_plus
    exact (xs_ret (xe_callH h_law_fraction hp hr (by decide) (by rfl) (xa_cons (xe_add (xe_mul (xe_ix (xq_im (xe_var (pv 0))) xe_int) (xe_ix (xq_im (xe_var (pv 1))) xe_int)) (xe_mul (xe_ix (xq_im (xe_var (pv 1))) xe_int) (xe_ix (xq_im (xe_var (pv 0))) xe_int))) (xa_cons (xe_mul (xe_ix (xq_im (xe_var (pv 0))) xe_int) (xe_ix (xq_im (xe_var (pv 1))) xe_int)) xa_nil))))
  case hg =>
    intro a
    simp only [m_law_plus, o_law_plus, w_law_plus, ofO_rt, ofO_rtN, ofO_bind, ofO_some, ofO_if, ofO_up, ofO_lc, ofO_lca, ofO_lc2, ofO_for, ofO_while, ofO_bindF, ofO_no, ofO_optM]
abbrev slaw_times : Stmt := top 42
abbrev Nlaw_times : List Str := ["_law_one", "_law_other"]
theorem sclaw_times : FnScope ["_law_one", "_law_other"] ["_law_one", "_law_other"] (defScope slaw_times) := ⟨rfl, rfl, rfl, by decide +kernel, rfl, by decide +kernel, by decide +kernel⟩
def w_law_times (a : (List Int) × (List Int) × Unit) : W (Fl (Int × Int) Empty Unit) :=
  ((((((W.ret a.1).bind fun x1 => ((W.ret (0 : Int)).bind fun i2 => (ofO (L2.atI x1 i2)))).bind fun p5 => (((W.ret a.2.1).bind fun x3 => ((W.ret (0 : Int)).bind fun i4 => (ofO (L2.atI x3 i4)))).bind fun q6 => (ofO (mulC p5 q6)))).bind fun x15 => (((((W.ret a.1).bind fun x7 => ((W.ret (1 : Int)).bind fun i8 => (ofO (L2.atI x7 i8)))).bind fun p11 => (((W.ret a.2.1).bind fun x9 => ((W.ret (1 : Int)).bind fun i10 => (ofO (L2.atI x9 i10)))).bind fun q12 => (ofO (mulC p11 q12)))).bind fun x13 => ((W.ret ()).bind fun y14 => (W.ret (x13, y14)))).bind fun y16 => (W.ret (x15, y16)))).bind fun a17 => (ofO (m_law_fraction a17))).bind fun x18 => (W.ret (Fl.rt x18)))
def o_law_times (a : (List Int) × (List Int) × Unit) : Option (Fl (Int × Int) Empty Unit) :=
  ((((((some a.1).bind fun x1 => ((some (0 : Int)).bind fun i2 => (L2.atI x1 i2))).bind fun p5 => (((some a.2.1).bind fun x3 => ((some (0 : Int)).bind fun i4 => (L2.atI x3 i4))).bind fun q6 => (mulC p5 q6))).bind fun x15 => (((((some a.1).bind fun x7 => ((some (1 : Int)).bind fun i8 => (L2.atI x7 i8))).bind fun p11 => (((some a.2.1).bind fun x9 => ((some (1 : Int)).bind fun i10 => (L2.atI x9 i10))).bind fun q12 => (mulC p11 q12))).bind fun x13 => ((some ()).bind fun y14 => (some (x13, y14)))).bind fun y16 => (some (x15, y16)))).bind fun a17 => (m_law_fraction a17)).bind fun x18 => (some (Fl.rt x18)))
def m_law_times (a : (List Int) × (List Int) × Unit) : Option (Int × Int) := rtO (o_law_times a)
theorem k_law_times {f : Addr} {fd : FuncData} (F : Fun K "_law_times" "_law_times" slaw_times f fd) (T : Txt K mg) {π : Around → Prop} (sπ : Stb π) (h_law_fraction : Has P w K mg base π "_law_fraction" 2 ["_law_top", "_law_bottom"] (SpF (pC qI (pC qI p0)).ra (qP qI qI) m_law_fraction)) : FnP π P w K mg base CX0 3 f fd ["_law_one", "_law_other"] (SpF (pC (qT qI) (pC (qT qI) p0)).ra (qP qI qI) m_law_times) := by
  refine fn_okF (p := (pC (qT qI) (pC (qT qI) p0))) (m := w_law_times) (pn := (fun z _ => nomatch z)) (pl := fun _ _ => []) (env := fun a => [.im (qT qI) a.1, .im (qT qI) a.2.1]) 0 sπ F sclaw_times rfl rfl (fun _ => rfl) ?hb ?hg
  case hb =>
    intro cdv A outer s H E hp hr C a hA
    unfold w_law_times
    exact (xs_ret (xe_callH h_law_fraction hp hr (by decide) (by rfl) (xa_cons (xe_mul (xe_ix (xq_im (xe_var (pv 0))) xe_int) (xe_ix (xq_im (xe_var (pv 1))) xe_int)) (xa_cons (xe_mul (xe_ix (xq_im (xe_var (pv 0))) xe_int) (xe_ix (xq_im (xe_var (pv 1))) xe_int)) xa_nil))))
  case hg =>
    intro a
    simp only [m_law_times, o_law_times, w_law_times, ofO_rt, ofO_rtN, ofO_bind, ofO_some, ofO_if, ofO_up, ofO_lc, ofO_lca, ofO_lc2, ofO_for, ofO_while, ofO_bindF, ofO_no, ofO_optM]
abbrev sdivided : Stmt := top 27
abbrev Ndivided : List Str := ["one", "other", "by", "shared"]
theorem scdivided : FnScope ["one", "other", "by", "shared"] ["one", "other"] (defScope sdivided) := ⟨rfl, rfl, rfl, by decide +kernel, rfl, by decide +kernel, by decide +kernel⟩
def w_divided (a : PyData × PyData × Unit) : W (Fl (Int × Int) Empty Unit) :=
  ((((W.ret a.1).bind fun x1 => ((W.ret ()).bind fun y2 => (W.ret (x1, y2)))).bind fun a3 => (ofO (m_check_number a3))).bind fun _v4 => ((((W.ret a.2.1).bind fun x5 => ((W.ret ()).bind fun y6 => (W.ret (x5, y6)))).bind fun a7 => (ofO (m_check_number a7))).bind fun _v8 => ((((W.ret a.2.1).bind fun x10 => ((W.ret ()).bind fun y11 => (W.ret (x10, y11)))).bind fun a12 => (ofO (m_pair_of a12))).bind fun (v9 : (Int × Int)) => (((((W.ret v9).bind fun x13 => (W.ret [x13.1, x13.2])).bind fun x14 => ((W.ret (0 : Int)).bind fun i15 => (ofO (L2.atI x14 i15)))).bind fun p16 => ((W.ret (0 : Int)).bind fun q17 => (ofO (some (decide (p16 = q17)))))).bind fun b18 => (if b18 = true then upF W.no else ((((W.ret a.1).bind fun x20 => ((W.ret ()).bind fun y21 => (W.ret (x20, y21)))).bind fun a22 => (ofO (m_pair_of a22))).bind fun (v19 : (Int × Int)) => (((((((W.ret v19).bind fun x23 => (W.ret [x23.1, x23.2])).bind fun x24 => ((W.ret (0 : Int)).bind fun i25 => (ofO (L2.atI x24 i25)))).bind fun p29 => ((((W.ret v9).bind fun x26 => (W.ret [x26.1, x26.2])).bind fun x27 => ((W.ret (1 : Int)).bind fun i28 => (ofO (L2.atI x27 i28)))).bind fun q30 => (ofO (mulC p29 q30)))).bind fun x41 => ((((((W.ret v19).bind fun x31 => (W.ret [x31.1, x31.2])).bind fun x32 => ((W.ret (1 : Int)).bind fun i33 => (ofO (L2.atI x32 i33)))).bind fun p37 => ((((W.ret v9).bind fun x34 => (W.ret [x34.1, x34.2])).bind fun x35 => ((W.ret (0 : Int)).bind fun i36 => (ofO (L2.atI x35 i36)))).bind fun q38 => (ofO (mulC p37 q38)))).bind fun x39 => ((W.ret ()).bind fun y40 => (W.ret (x39, y40)))).bind fun y42 => (W.ret (x41, y42)))).bind fun a43 => (ofO (m_reduced a43))).bind fun x44 => (W.ret (Fl.rt x44)))))))))
def o_divided (a : PyData × PyData × Unit) : Option (Fl (Int × Int) Empty Unit) :=
  ((((some a.1).bind fun x1 => ((some ()).bind fun y2 => (some (x1, y2)))).bind fun a3 => (m_check_number a3)).bind fun _v4 => ((((some a.2.1).bind fun x5 => ((some ()).bind fun y6 => (some (x5, y6)))).bind fun a7 => (m_check_number a7)).bind fun _v8 => ((((some a.2.1).bind fun x10 => ((some ()).bind fun y11 => (some (x10, y11)))).bind fun a12 => (m_pair_of a12)).bind fun (v9 : (Int × Int)) => (((((some v9).bind fun x13 => (some [x13.1, x13.2])).bind fun x14 => ((some (0 : Int)).bind fun i15 => (L2.atI x14 i15))).bind fun p16 => ((some (0 : Int)).bind fun q17 => (some (decide (p16 = q17))))).bind fun b18 => (if b18 = true then upO none else ((((some a.1).bind fun x20 => ((some ()).bind fun y21 => (some (x20, y21)))).bind fun a22 => (m_pair_of a22)).bind fun (v19 : (Int × Int)) => (((((((some v19).bind fun x23 => (some [x23.1, x23.2])).bind fun x24 => ((some (0 : Int)).bind fun i25 => (L2.atI x24 i25))).bind fun p29 => ((((some v9).bind fun x26 => (some [x26.1, x26.2])).bind fun x27 => ((some (1 : Int)).bind fun i28 => (L2.atI x27 i28))).bind fun q30 => (mulC p29 q30))).bind fun x41 => ((((((some v19).bind fun x31 => (some [x31.1, x31.2])).bind fun x32 => ((some (1 : Int)).bind fun i33 => (L2.atI x32 i33))).bind fun p37 => ((((some v9).bind fun x34 => (some [x34.1, x34.2])).bind fun x35 => ((some (0 : Int)).bind fun i36 => (L2.atI x35 i36))).bind fun q38 => (mulC p37 q38))).bind fun x39 => ((some ()).bind fun y40 => (some (x39, y40)))).bind fun y42 => (some (x41, y42)))).bind fun a43 => (m_reduced a43)).bind fun x44 => (some (Fl.rt x44)))))))))
def m_divided (a : PyData × PyData × Unit) : Option (Int × Int) := rtO (o_divided a)
theorem k_divided {f : Addr} {fd : FuncData} (F : Fun K "divided" "divided" sdivided f fd) (T : Txt K mg) {π : Around → Prop} (sπ : Stb π) (h_check_number : Has P w K mg base π "check_number" 4 ["value"] (SpF (pC qV p0).ra qN m_check_number)) (h_pair_of : Has P w K mg base π "pair_of" 1 ["number"] (SpF (pC qV p0).ra (qP qI qI) m_pair_of)) (h_reduced : Has P w K mg base π "reduced" 1 ["top", "bottom"] (SpF (pC qI (pC qI p0)).ra (qP qI qI) m_reduced)) : FnP π P w K mg base CX0 5 f fd ["one", "other"] (SpF (pC qV (pC qV p0)).ra (qP qI qI) m_divided) := by
  refine fn_okF (p := (pC qV (pC qV p0))) (m := w_divided) (pn := (fun z _ => nomatch z)) (pl := fun _ _ => []) (env := fun a => [.im qV a.1, .im qV a.2.1, .un, .un]) 2 sπ F scdivided rfl rfl (fun _ => rfl) ?hb ?hg
  case hb =>
    intro cdv A outer s H E hp hr C a hA
    unfold w_divided
    exact (xs_exp (xe_callH h_check_number hp hr (by decide) (by rfl) (xa_cons (xe_var (pv 0)) xa_nil)) (fun _v4 => (xs_exp (xe_callH h_check_number hp hr (by decide) (by rfl) (xa_cons (xe_var (pv 1)) xa_nil)) (fun _v8 => (xs_set (i := 2) (xe_callH h_pair_of hp hr (by decide) (by rfl) (xa_cons (xe_var (pv 1)) xa_nil)) (fun v9 => (xs_ifx (xt_cmpD cd_eqI (xe_ix (xq_im (xe_row2 (xe_var (pv 2)))) xe_int) xe_int rfl) xs_never (xs_set (i := 3) (xe_callH h_pair_of hp hr (by decide) (by rfl) (xa_cons (xe_var (pv 0)) xa_nil)) (fun v19 => (xs_ret (xe_callH h_reduced hp hr (by decide) (by rfl) (xa_cons (xe_mul (xe_ix (xq_im (xe_row2 (xe_var (pv 3)))) xe_int) (xe_ix (xq_im (xe_row2 (xe_var (pv 2)))) xe_int)) (xa_cons (xe_mul (xe_ix (xq_im (xe_row2 (xe_var (pv 3)))) xe_int) (xe_ix (xq_im (xe_row2 (xe_var (pv 2)))) xe_int)) xa_nil))))) scdivided.nd rfl (.inl rfl) rfl rfl))) scdivided.nd rfl (.inl rfl) rfl rfl)))))
  case hg =>
    intro a
    simp only [m_divided, o_divided, w_divided, ofO_rt, ofO_rtN, ofO_bind, ofO_some, ofO_if, ofO_up, ofO_lc, ofO_lca, ofO_lc2, ofO_for, ofO_while, ofO_bindF, ofO_no, ofO_optM]
abbrev slaw_power : Stmt := top 43
abbrev Nlaw_power : List Str := ["_law_number", "_law_exponent", "_law_found", "_law_turn"]
theorem sclaw_power : FnScope ["_law_number", "_law_exponent", "_law_found", "_law_turn"] ["_law_number", "_law_exponent"] (defScope slaw_power) := ⟨rfl, rfl, rfl, by decide +kernel, rfl, by decide +kernel, by decide +kernel⟩
def w_law_power (a : Int × Int × Unit) : W (Fl Int Empty Unit) :=
  ((W.ret (1 : Int)).bind fun (v1 : Int) => (((W.ret a.2.1).bind fun i2 => (ofO (rngC 0 i2))).bind fun xs9 => bindF (forL (fun (s3 : Int) (x4 : Int) => (((W.ret s3).bind fun p6 => ((W.ret a.1).bind fun q7 => (ofO (mulC p6 q7)))).bind fun (v5 : Int) => (W.ret (Fl.nx v5)))) xs9 v1) (fun (s3 : Int) => ((W.ret s3).bind fun x8 => (W.ret (Fl.rt x8))))))
def o_law_power (a : Int × Int × Unit) : Option (Fl Int Empty Unit) :=
  ((some (1 : Int)).bind fun (v1 : Int) => (((some a.2.1).bind fun i2 => (rngC 0 i2)).bind fun xs9 => bindFO (forO (fun (s3 : Int) (x4 : Int) => (((some s3).bind fun p6 => ((some a.1).bind fun q7 => (mulC p6 q7))).bind fun (v5 : Int) => (some (Fl.nx v5)))) xs9 v1) (fun (s3 : Int) => ((some s3).bind fun x8 => (some (Fl.rt x8))))))
def m_law_power (a : Int × Int × Unit) : Option Int := rtO (o_law_power a)
theorem k_law_power {f : Addr} {fd : FuncData} (F : Fun K "_law_power" "_law_power" slaw_power f fd) (T : Txt K mg) {π : Around → Prop} (sπ : Stb π) : FnP π P w K mg base CX0 1 f fd ["_law_number", "_law_exponent"] (SpF (pC qI (pC qI p0)).ra qI m_law_power) := by
  refine fn_okF (p := (pC qI (pC qI p0))) (m := w_law_power) (pn := (fun z _ => nomatch z)) (pl := fun _ _ => []) (env := fun a => [.im qI a.1, .im qI a.2.1, .un, .un]) 2 sπ F sclaw_power rfl rfl (fun _ => rfl) ?hb ?hg
  case hb =>
    intro cdv A outer s H E hp hr C a hA
    unfold w_law_power
    exact (xs_set (i := 2) xe_int (fun v1 => (xs_for (s0 := v1) (up := (uN 3 qI)) (pt := fun (s3 : Int) g => [.im qI a.1, .im qI a.2.1, .im qI s3, .un]) PassesOwn.never rfl (xi_rng1 (by rfl) T.range (xe_var (pv 1))) (xg_name (pg_name (i := 3) sclaw_power.nd rfl (by first | exact .inl rfl | exact .inr rfl))) (fun _ => (.keep (.keep (.keep (.keep .nil))))) (fun s3 x4 => (xs_set (i := 2) (xe_mul (xe_var (pv 2)) (xe_var (pv 0))) (fun v5 => (xs_nil (fun _ => (.keep (.keep (.keep (.drop .nil))))))) sclaw_power.nd rfl (.inl rfl) rfl rfl)) (fun s3 => (xs_ret (xe_var (pv 2)))))) sclaw_power.nd rfl (.inl rfl) rfl rfl)
  case hg =>
    intro a
    simp only [m_law_power, o_law_power, w_law_power, ofO_rt, ofO_rtN, ofO_bind, ofO_some, ofO_if, ofO_up, ofO_lc, ofO_lca, ofO_lc2, ofO_for, ofO_while, ofO_bindF, ofO_no, ofO_optM]
abbrev slaw_nb_power : Stmt := top 48
abbrev Nlaw_nb_power : List Str := ["_law_pair", "_law_exponent"]
theorem sclaw_nb_power : FnScope ["_law_pair", "_law_exponent"] ["_law_pair", "_law_exponent"] (defScope slaw_nb_power) := ⟨rfl, rfl, rfl, by decide +kernel, rfl, by decide +kernel, by decide +kernel⟩
def w_law_nb_power (a : (List Int) × Int × Unit) : W (Fl (Int × Int) Empty Unit) :=
  ((((((W.ret a.1).bind fun x1 => ((W.ret (0 : Int)).bind fun i2 => (ofO (L2.atI x1 i2)))).bind fun x5 => (((W.ret a.2.1).bind fun x3 => ((W.ret ()).bind fun y4 => (W.ret (x3, y4)))).bind fun y6 => (W.ret (x5, y6)))).bind fun a7 => (ofO (m_law_power a7))).bind fun x15 => (((((W.ret a.1).bind fun x8 => ((W.ret (1 : Int)).bind fun i9 => (ofO (L2.atI x8 i9)))).bind fun x12 => (((W.ret a.2.1).bind fun x10 => ((W.ret ()).bind fun y11 => (W.ret (x10, y11)))).bind fun y13 => (W.ret (x12, y13)))).bind fun a14 => (ofO (m_law_power a14))).bind fun x16 => (W.ret (x15, x16)))).bind fun x17 => (W.ret (Fl.rt x17)))
def o_law_nb_power (a : (List Int) × Int × Unit) : Option (Fl (Int × Int) Empty Unit) :=
  ((((((some a.1).bind fun x1 => ((some (0 : Int)).bind fun i2 => (L2.atI x1 i2))).bind fun x5 => (((some a.2.1).bind fun x3 => ((some ()).bind fun y4 => (some (x3, y4)))).bind fun y6 => (some (x5, y6)))).bind fun a7 => (m_law_power a7)).bind fun x15 => (((((some a.1).bind fun x8 => ((some (1 : Int)).bind fun i9 => (L2.atI x8 i9))).bind fun x12 => (((some a.2.1).bind fun x10 => ((some ()).bind fun y11 => (some (x10, y11)))).bind fun y13 => (some (x12, y13)))).bind fun a14 => (m_law_power a14)).bind fun x16 => (some (x15, x16)))).bind fun x17 => (some (Fl.rt x17)))
def m_law_nb_power (a : (List Int) × Int × Unit) : Option (Int × Int) := rtO (o_law_nb_power a)
theorem k_law_nb_power {f : Addr} {fd : FuncData} (F : Fun K "_law_nb_power" "_law_nb_power" slaw_nb_power f fd) (T : Txt K mg) {π : Around → Prop} (sπ : Stb π) (h_law_power : Has P w K mg base π "_law_power" 1 ["_law_number", "_law_exponent"] (SpF (pC qI (pC qI p0)).ra qI m_law_power)) : FnP π P w K mg base CX0 2 f fd ["_law_pair", "_law_exponent"] (SpF (pC (qT qI) (pC qI p0)).ra (qP qI qI) m_law_nb_power) := by
  refine fn_okF (p := (pC (qT qI) (pC qI p0))) (m := w_law_nb_power) (pn := (fun z _ => nomatch z)) (pl := fun _ _ => []) (env := fun a => [.im (qT qI) a.1, .im qI a.2.1]) 0 sπ F sclaw_nb_power rfl rfl (fun _ => rfl) ?hb ?hg
  case hb =>
    intro cdv A outer s H E hp hr C a hA
    unfold w_law_nb_power
    exact (xs_ret (xe_tup2 (xe_callH h_law_power hp hr (by decide) (by rfl) (xa_cons (xe_ix (xq_im (xe_var (pv 0))) xe_int) (xa_cons (xe_var (pv 1)) xa_nil))) (xe_callH h_law_power hp hr (by decide) (by rfl) (xa_cons (xe_ix (xq_im (xe_var (pv 0))) xe_int) (xa_cons (xe_var (pv 1)) xa_nil)))))
  case hg =>
    intro a
    simp only [m_law_nb_power, o_law_nb_power, w_law_nb_power, ofO_rt, ofO_rtN, ofO_bind, ofO_some, ofO_if, ofO_up, ofO_lc, ofO_lca, ofO_lc2, ofO_for, ofO_while, ofO_bindF, ofO_no, ofO_optM]
abbrev sis_integer : Stmt := top 11
abbrev Nis_integer : List Str := ["value"]
theorem scis_integer : FnScope ["value"] ["value"] (defScope sis_integer) := ⟨rfl, rfl, rfl, by decide +kernel, rfl, by decide +kernel, by decide +kernel⟩
def w_is_integer (a : PyData × Unit) : W (Fl Bool Empty Unit) :=
  (((((W.ret a.1).bind fun x1 => ((W.ret ()).bind fun y2 => (W.ret (x1, y2)))).bind fun a3 => (ofO (m_is_whole a3))).bind fun p10 => (if p10 = true then (((W.ret (1000000000000000000000000000000000000000000000000000000000000 : Int)).bind fun p4 => (W.ret (-p4))).bind fun p6 => (((W.ret a.1).bind fun x5 => (ofO (eI.dec x5))).bind fun q7 => ((ofO (some (decide (p6 < q7)))).bind fun t9 => (if t9 = true then ((W.ret (1000000000000000000000000000000000000000000000000000000000000 : Int)).bind fun u8 => (ofO (some (decide (q7 < u8))))) else W.ret false)))) else (W.ret false))).bind fun x11 => (W.ret (Fl.rt x11)))
def o_is_integer (a : PyData × Unit) : Option (Fl Bool Empty Unit) :=
  (((((some a.1).bind fun x1 => ((some ()).bind fun y2 => (some (x1, y2)))).bind fun a3 => (m_is_whole a3)).bind fun p10 => (if p10 = true then (((some (1000000000000000000000000000000000000000000000000000000000000 : Int)).bind fun p4 => (some (-p4))).bind fun p6 => (((some a.1).bind fun x5 => (eI.dec x5)).bind fun q7 => ((some (decide (p6 < q7))).bind fun t9 => (if t9 = true then ((some (1000000000000000000000000000000000000000000000000000000000000 : Int)).bind fun u8 => (some (decide (q7 < u8)))) else some false)))) else (some false))).bind fun x11 => (some (Fl.rt x11)))
def m_is_integer (a : PyData × Unit) : Option Bool := rtO (o_is_integer a)
theorem k_is_integer {f : Addr} {fd : FuncData} (F : Fun K "is_integer" "is_integer" sis_integer f fd) (T : Txt K mg) {π : Around → Prop} (sπ : Stb π) (h_is_whole : Has P w K mg base π "is_whole" 1 ["value"] (SpF (pC qV p0).ra qB m_is_whole)) : FnP π P w K mg base CX0 2 f fd ["value"] (SpF (pC qV p0).ra qB m_is_integer) := by
  refine fn_okF (p := (pC qV p0)) (m := w_is_integer) (pn := (fun z _ => nomatch z)) (pl := fun _ _ => []) (env := fun a => [.im qV a.1]) 0 sπ F scis_integer rfl rfl (fun _ => rfl) ?hb ?hg
  case hb =>
    intro cdv A outer s H E hp hr C a hA
    unfold w_is_integer
    exact (xs_ret (xe_andB (xe_callH h_is_whole hp hr (by decide) (by rfl) (xa_cons (xe_var (pv 0)) xa_nil)) (xe_one (xe_chainD cd_lt cd_lt (xe_neg (xe_gintE (by rfl) T.g_FIRST_TOO_LONG_)) (xe_dec eI (xe_var (pv 0))) (xe_gintE (by rfl) T.g_FIRST_TOO_LONG_)))))
  case hg =>
    intro a
    simp only [m_is_integer, o_is_integer, w_is_integer, ofO_rt, ofO_rtN, ofO_bind, ofO_some, ofO_if, ofO_up, ofO_lc, ofO_lca, ofO_lc2, ofO_for, ofO_while, ofO_bindF, ofO_no, ofO_optM]
abbrev sis_count : Stmt := top 15
abbrev Nis_count : List Str := ["value", "low", "high"]
theorem scis_count : FnScope ["value", "low", "high"] ["value", "low", "high"] (defScope sis_count) := ⟨rfl, rfl, rfl, by decide +kernel, rfl, by decide +kernel, by decide +kernel⟩
def w_is_count (a : Int × Int × Int × Unit) : W (Fl Bool Empty Unit) :=
  ((((((W.ret a.1).bind fun x1 => (W.ret (eI.enc x1))).bind fun x2 => ((W.ret ()).bind fun y3 => (W.ret (x2, y3)))).bind fun a4 => (ofO (m_is_integer a4))).bind fun p9 => (if p9 = true then ((W.ret a.2.1).bind fun p5 => ((W.ret a.1).bind fun q6 => ((ofO (some (decide (p5 ≤ q6)))).bind fun t8 => (if t8 = true then ((W.ret a.2.2.1).bind fun u7 => (ofO (some (decide (q6 ≤ u7))))) else W.ret false)))) else (W.ret false))).bind fun x10 => (W.ret (Fl.rt x10)))
def o_is_count (a : Int × Int × Int × Unit) : Option (Fl Bool Empty Unit) :=
  ((((((some a.1).bind fun x1 => (some (eI.enc x1))).bind fun x2 => ((some ()).bind fun y3 => (some (x2, y3)))).bind fun a4 => (m_is_integer a4)).bind fun p9 => (if p9 = true then ((some a.2.1).bind fun p5 => ((some a.1).bind fun q6 => ((some (decide (p5 ≤ q6))).bind fun t8 => (if t8 = true then ((some a.2.2.1).bind fun u7 => (some (decide (q6 ≤ u7)))) else some false)))) else (some false))).bind fun x10 => (some (Fl.rt x10)))
def m_is_count (a : Int × Int × Int × Unit) : Option Bool := rtO (o_is_count a)
theorem k_is_count {f : Addr} {fd : FuncData} (F : Fun K "is_count" "is_count" sis_count f fd) (T : Txt K mg) {π : Around → Prop} (sπ : Stb π) (h_is_integer : Has P w K mg base π "is_integer" 2 ["value"] (SpF (pC qV p0).ra qB m_is_integer)) : FnP π P w K mg base CX0 3 f fd ["value", "low", "high"] (SpF (pC qI (pC qI (pC qI p0))).ra qB m_is_count) := by
  refine fn_okF (p := (pC qI (pC qI (pC qI p0)))) (m := w_is_count) (pn := (fun z _ => nomatch z)) (pl := fun _ _ => []) (env := fun a => [.im qI a.1, .im qI a.2.1, .im qI a.2.2.1]) 0 sπ F scis_count rfl rfl (fun _ => rfl) ?hb ?hg
  case hb =>
    intro cdv A outer s H E hp hr C a hA
    unfold w_is_count
    exact (xs_ret (xe_andB (xe_callH h_is_integer hp hr (by decide) (by rfl) (xa_cons (xe_enc eI (xe_var (pv 0))) xa_nil)) (xe_one (xe_chainD cd_le cd_le (xe_var (pv 1)) (xe_var (pv 0)) (xe_var (pv 2))))))
  case hg =>
    intro a
    simp only [m_is_count, o_is_count, w_is_count, ofO_rt, ofO_rtN, ofO_bind, ofO_some, ofO_if, ofO_up, ofO_lc, ofO_lca, ofO_lc2, ofO_for, ofO_while, ofO_bindF, ofO_no, ofO_optM]
abbrev scheck_count : Stmt := top 16
abbrev Ncheck_count : List Str := ["value", "low", "high"]
theorem sccheck_count : FnScope ["value", "low", "high"] ["value", "low", "high"] (defScope scheck_count) := ⟨rfl, rfl, rfl, by decide +kernel, rfl, by decide +kernel, by decide +kernel⟩
def w_check_count (a : Int × Int × Int × Unit) : W (Fl Unit Unit Unit) :=
  (((((W.ret a.1).bind fun x5 => (((W.ret a.2.1).bind fun x3 => (((W.ret a.2.2.1).bind fun x1 => ((W.ret ()).bind fun y2 => (W.ret (x1, y2)))).bind fun y4 => (W.ret (x3, y4)))).bind fun y6 => (W.ret (x5, y6)))).bind fun a7 => (ofO (m_is_count a7))).bind fun b8 => (W.ret (!b8))).bind fun b9 => (if b9 = true then upF W.no else (W.ret (Fl.nx ()))))
def o_check_count (a : Int × Int × Int × Unit) : Option (Fl Unit Unit Unit) :=
  (((((some a.1).bind fun x5 => (((some a.2.1).bind fun x3 => (((some a.2.2.1).bind fun x1 => ((some ()).bind fun y2 => (some (x1, y2)))).bind fun y4 => (some (x3, y4)))).bind fun y6 => (some (x5, y6)))).bind fun a7 => (m_is_count a7)).bind fun b8 => (some (!b8))).bind fun b9 => (if b9 = true then upO none else (some (Fl.nx ()))))
def m_check_count (a : Int × Int × Int × Unit) : Option Unit := rtNO (o_check_count a)
theorem k_check_count {f : Addr} {fd : FuncData} (F : Fun K "check_count" "check_count" scheck_count f fd) (T : Txt K mg) {π : Around → Prop} (sπ : Stb π) (h_is_count : Has P w K mg base π "is_count" 3 ["value", "low", "high"] (SpF (pC qI (pC qI (pC qI p0))).ra qB m_is_count)) : FnP π P w K mg base CX0 4 f fd ["value", "low", "high"] (SpF (pC qI (pC qI (pC qI p0))).ra qN m_check_count) := by
  refine fn_okN (p := (pC qI (pC qI (pC qI p0)))) (m := w_check_count) (pn := (fun _ g => [.un, .un, .un])) (pl := fun _ _ => []) (env := fun a => [.im qI a.1, .im qI a.2.1, .im qI a.2.2.1]) 0 sπ F sccheck_count rfl rfl (fun _ => rfl) ?hb ?hg
  case hb =>
    intro cdv A outer s H E hp hr C a hA
    unfold w_check_count
    exact (xs_ifx (xt_not (xt_val (xe_callH h_is_count hp hr (by decide) (by rfl) (xa_cons (xe_var (pv 0)) (xa_cons (xe_var (pv 1)) (xa_cons (xe_var (pv 2)) xa_nil)))))) xs_never (xs_nil (fun _ => (.drop (.drop (.drop .nil))))))
  case hg =>
    intro a
    simp only [m_check_count, o_check_count, w_check_count, ofO_rt, ofO_rtN, ofO_bind, ofO_some, ofO_if, ofO_up, ofO_lc, ofO_lca, ofO_lc2, ofO_for, ofO_while, ofO_bindF, ofO_no, ofO_optM]
abbrev swhole_power : Stmt := top 23
abbrev Nwhole_power : List Str := ["base", "many", "made"]
theorem scwhole_power : FnScope ["base", "many", "made"] ["base", "many"] (defScope swhole_power) := ⟨rfl, rfl, rfl, by decide +kernel, rfl, by decide +kernel, by decide +kernel⟩
def w_whole_power (a : Int × Int × Unit) : W (Fl Int Empty Unit) :=
  ((W.ret (1 : Int)).bind fun (v1 : Int) => (bindF (whileL (fun (s2 : (Int × Int × Int)) => ((W.ret s2.2.1).bind fun p3 => ((W.ret (0 : Int)).bind fun q4 => (ofO (some (decide (q4 < p3))))))) (fun (s2 : (Int × Int × Int)) => ((((W.ret s2.2.1).bind fun p5 => ((W.ret (2 : Int)).bind fun q6 => (ofO (modC p5 q6)))).bind fun p7 => ((W.ret (1 : Int)).bind fun q8 => (ofO (some (decide (p7 = q8)))))).bind fun b9 => bindF (if b9 = true then (((W.ret s2.2.2).bind fun p12 => ((W.ret s2.1).bind fun q13 => (ofO (mulC p12 q13)))).bind fun (v11 : Int) => (W.ret (Fl.nx v11))) else (W.ret (Fl.nx s2.2.2))) (fun (s10 : Int) => (((W.ret s2.2.1).bind fun p15 => ((W.ret (2 : Int)).bind fun q16 => (ofO (divC p15 q16)))).bind fun (v14 : Int) => (((W.ret v14).bind fun p17 => ((W.ret (0 : Int)).bind fun q18 => (ofO (some (decide (q18 < p17)))))).bind fun b19 => bindF (if b19 = true then (((W.ret s2.1).bind fun p22 => ((W.ret s2.1).bind fun q23 => (ofO (mulC p22 q23)))).bind fun (v21 : Int) => (W.ret (Fl.nx v21))) else (W.ret (Fl.nx s2.1))) (fun (s20 : Int) => (W.ret (Fl.nx (s20, v14, s10))))))))) 100 (a.1, a.2.1, v1)) (fun (s2 : (Int × Int × Int)) => ((W.ret s2.2.2).bind fun x24 => (W.ret (Fl.rt x24))))))
def o_whole_power (a : Int × Int × Unit) : Option (Fl Int Empty Unit) :=
  ((some (1 : Int)).bind fun (v1 : Int) => (bindFO (whileO (fun (s2 : (Int × Int × Int)) => ((some s2.2.1).bind fun p3 => ((some (0 : Int)).bind fun q4 => (some (decide (q4 < p3)))))) (fun (s2 : (Int × Int × Int)) => ((((some s2.2.1).bind fun p5 => ((some (2 : Int)).bind fun q6 => (modC p5 q6))).bind fun p7 => ((some (1 : Int)).bind fun q8 => (some (decide (p7 = q8))))).bind fun b9 => bindFO (if b9 = true then (((some s2.2.2).bind fun p12 => ((some s2.1).bind fun q13 => (mulC p12 q13))).bind fun (v11 : Int) => (some (Fl.nx v11))) else (some (Fl.nx s2.2.2))) (fun (s10 : Int) => (((some s2.2.1).bind fun p15 => ((some (2 : Int)).bind fun q16 => (divC p15 q16))).bind fun (v14 : Int) => (((some v14).bind fun p17 => ((some (0 : Int)).bind fun q18 => (some (decide (q18 < p17))))).bind fun b19 => bindFO (if b19 = true then (((some s2.1).bind fun p22 => ((some s2.1).bind fun q23 => (mulC p22 q23))).bind fun (v21 : Int) => (some (Fl.nx v21))) else (some (Fl.nx s2.1))) (fun (s20 : Int) => (some (Fl.nx (s20, v14, s10))))))))) 100 (a.1, a.2.1, v1)) (fun (s2 : (Int × Int × Int)) => ((some s2.2.2).bind fun x24 => (some (Fl.rt x24))))))
def m_whole_power (a : Int × Int × Unit) : Option Int := rtO (o_whole_power a)
theorem k_whole_power {f : Addr} {fd : FuncData} (F : Fun K "whole_power" "whole_power" swhole_power f fd) (T : Txt K mg) {π : Around → Prop} (sπ : Stb π) : FnP π P w K mg base CX0 1 f fd ["base", "many"] (SpF (pC qI (pC qI p0)).ra qI m_whole_power) := by
  refine fn_okF (p := (pC qI (pC qI p0))) (m := w_whole_power) (pn := (fun z _ => nomatch z)) (pl := fun _ _ => []) (env := fun a => [.im qI a.1, .im qI a.2.1, .un]) 1 sπ F scwhole_power rfl rfl (fun _ => rfl) ?hb ?hg
  case hb =>
    intro cdv A outer s H E hp hr C a hA
    unfold w_whole_power
    exact (xs_set (i := 2) xe_int (fun v1 => (xs_while (s0 := (a.1, a.2.1, v1)) (pt := fun (s2 : (Int × Int × Int)) g => [.im qI s2.1, .im qI s2.2.1, .im qI s2.2.2]) PassesOwn.never (fun _ => (.keep (.keep (.keep .nil)))) (fun s2 => (xt_cmpD cd_gt (xe_var (pv 1)) xe_int rfl)) (fun s2 => (xs_if (pt := fun (s10 : Int) g => [.im qI s2.1, .im qI s2.2.1, .im qI s10]) (xt_cmpD cd_eqI (xe_mod (xe_var (pv 1)) xe_int) xe_int rfl) (xs_set (i := 2) (xe_mul (xe_var (pv 2)) (xe_var (pv 0))) (fun v11 => (xs_nil (fun _ => (.keep (.keep (.keep .nil)))))) scwhole_power.nd rfl (.inl rfl) rfl rfl) (xs_nil (fun _ => (.keep (.keep (.keep .nil))))) (fun s10 => (xs_set (i := 1) (xe_fdiv (xe_var (pv 1)) xe_int) (fun v14 => (xs_if (pt := fun (s20 : Int) g => [.im qI s20, .im qI v14, .im qI s10]) (xt_cmpD cd_gt (xe_var (pv 1)) xe_int rfl) (xs_set (i := 0) (xe_mul (xe_var (pv 0)) (xe_var (pv 0))) (fun v21 => (xs_nil (fun _ => (.keep (.keep (.keep .nil)))))) scwhole_power.nd rfl (.inl rfl) rfl rfl) (xs_nil (fun _ => (.keep (.keep (.keep .nil))))) (fun s20 => (xs_nil (fun _ => (.keep (.keep (.keep .nil)))))))) scwhole_power.nd rfl (.inl rfl) rfl rfl)))) (fun s2 => (xs_ret (xe_var (pv 2)))))) scwhole_power.nd rfl (.inl rfl) rfl rfl)
  case hg =>
    intro a
    simp only [m_whole_power, o_whole_power, w_whole_power, ofO_rt, ofO_rtN, ofO_bind, ofO_some, ofO_if, ofO_up, ofO_lc, ofO_lca, ofO_lc2, ofO_for, ofO_while, ofO_bindF, ofO_no, ofO_optM]
abbrev spower_of : Stmt := top 28
abbrev Npower_of : List Str := ["number", "many", "top", "bottom"]
theorem scpower_of : FnScope ["number", "many", "top", "bottom"] ["number", "many"] (defScope spower_of) := ⟨rfl, rfl, rfl, by decide +kernel, rfl, by decide +kernel, by decide +kernel⟩
def w_power_of (a : PyData × Int × Unit) : W (Fl (Int × Int) Empty Unit) :=
  ((((W.ret a.1).bind fun x1 => ((W.ret ()).bind fun y2 => (W.ret (x1, y2)))).bind fun a3 => (ofO (m_check_number a3))).bind fun _v4 => ((((W.ret a.2.1).bind fun x10 => ((((W.ret (1000 : Int)).bind fun p5 => (W.ret (-p5))).bind fun x8 => (((W.ret (1000 : Int)).bind fun x6 => ((W.ret ()).bind fun y7 => (W.ret (x6, y7)))).bind fun y9 => (W.ret (x8, y9)))).bind fun y11 => (W.ret (x10, y11)))).bind fun a12 => (ofO (m_check_count a12))).bind fun _v13 => ((((W.ret a.1).bind fun x14 => ((W.ret ()).bind fun y15 => (W.ret (x14, y15)))).bind fun a16 => (ofO (m_pair_of a16))).bind fun (v17 : (Int × Int)) => (((W.ret a.2.1).bind fun p18 => ((W.ret (0 : Int)).bind fun q19 => (ofO (some (decide (q19 ≤ p18)))))).bind fun b20 => (if b20 = true then upF (((((W.ret v17.1).bind fun x23 => (((W.ret a.2.1).bind fun x21 => ((W.ret ()).bind fun y22 => (W.ret (x21, y22)))).bind fun y24 => (W.ret (x23, y24)))).bind fun a25 => (ofO (m_whole_power a25))).bind fun x31 => ((((W.ret v17.2).bind fun x28 => (((W.ret a.2.1).bind fun x26 => ((W.ret ()).bind fun y27 => (W.ret (x26, y27)))).bind fun y29 => (W.ret (x28, y29)))).bind fun a30 => (ofO (m_whole_power a30))).bind fun x32 => (W.ret (x31, x32)))).bind fun x33 => (W.ret (Fl.rt x33))) else (((W.ret v17.1).bind fun p34 => ((W.ret (0 : Int)).bind fun q35 => (ofO (some (decide (p34 = q35)))))).bind fun b36 => (if b36 = true then upF W.no else ((((((W.ret v17.2).bind fun x40 => ((((W.ret a.2.1).bind fun p37 => (W.ret (-p37))).bind fun x38 => ((W.ret ()).bind fun y39 => (W.ret (x38, y39)))).bind fun y41 => (W.ret (x40, y41)))).bind fun a42 => (ofO (m_whole_power a42))).bind fun x51 => (((((W.ret v17.1).bind fun x46 => ((((W.ret a.2.1).bind fun p43 => (W.ret (-p43))).bind fun x44 => ((W.ret ()).bind fun y45 => (W.ret (x44, y45)))).bind fun y47 => (W.ret (x46, y47)))).bind fun a48 => (ofO (m_whole_power a48))).bind fun x49 => ((W.ret ()).bind fun y50 => (W.ret (x49, y50)))).bind fun y52 => (W.ret (x51, y52)))).bind fun a53 => (ofO (m_reduced a53))).bind fun x54 => (W.ret (Fl.rt x54))))))))))
def o_power_of (a : PyData × Int × Unit) : Option (Fl (Int × Int) Empty Unit) :=
  ((((some a.1).bind fun x1 => ((some ()).bind fun y2 => (some (x1, y2)))).bind fun a3 => (m_check_number a3)).bind fun _v4 => ((((some a.2.1).bind fun x10 => ((((some (1000 : Int)).bind fun p5 => (some (-p5))).bind fun x8 => (((some (1000 : Int)).bind fun x6 => ((some ()).bind fun y7 => (some (x6, y7)))).bind fun y9 => (some (x8, y9)))).bind fun y11 => (some (x10, y11)))).bind fun a12 => (m_check_count a12)).bind fun _v13 => ((((some a.1).bind fun x14 => ((some ()).bind fun y15 => (some (x14, y15)))).bind fun a16 => (m_pair_of a16)).bind fun (v17 : (Int × Int)) => (((some a.2.1).bind fun p18 => ((some (0 : Int)).bind fun q19 => (some (decide (q19 ≤ p18))))).bind fun b20 => (if b20 = true then upO (((((some v17.1).bind fun x23 => (((some a.2.1).bind fun x21 => ((some ()).bind fun y22 => (some (x21, y22)))).bind fun y24 => (some (x23, y24)))).bind fun a25 => (m_whole_power a25)).bind fun x31 => ((((some v17.2).bind fun x28 => (((some a.2.1).bind fun x26 => ((some ()).bind fun y27 => (some (x26, y27)))).bind fun y29 => (some (x28, y29)))).bind fun a30 => (m_whole_power a30)).bind fun x32 => (some (x31, x32)))).bind fun x33 => (some (Fl.rt x33))) else (((some v17.1).bind fun p34 => ((some (0 : Int)).bind fun q35 => (some (decide (p34 = q35))))).bind fun b36 => (if b36 = true then upO none else ((((((some v17.2).bind fun x40 => ((((some a.2.1).bind fun p37 => (some (-p37))).bind fun x38 => ((some ()).bind fun y39 => (some (x38, y39)))).bind fun y41 => (some (x40, y41)))).bind fun a42 => (m_whole_power a42)).bind fun x51 => (((((some v17.1).bind fun x46 => ((((some a.2.1).bind fun p43 => (some (-p43))).bind fun x44 => ((some ()).bind fun y45 => (some (x44, y45)))).bind fun y47 => (some (x46, y47)))).bind fun a48 => (m_whole_power a48)).bind fun x49 => ((some ()).bind fun y50 => (some (x49, y50)))).bind fun y52 => (some (x51, y52)))).bind fun a53 => (m_reduced a53)).bind fun x54 => (some (Fl.rt x54))))))))))
def m_power_of (a : PyData × Int × Unit) : Option (Int × Int) := rtO (o_power_of a)
theorem k_power_of {f : Addr} {fd : FuncData} (F : Fun K "power_of" "power_of" spower_of f fd) (T : Txt K mg) {π : Around → Prop} (sπ : Stb π) (h_check_count : Has P w K mg base π "check_count" 4 ["value", "low", "high"] (SpF (pC qI (pC qI (pC qI p0))).ra qN m_check_count)) (h_check_number : Has P w K mg base π "check_number" 4 ["value"] (SpF (pC qV p0).ra qN m_check_number)) (h_pair_of : Has P w K mg base π "pair_of" 1 ["number"] (SpF (pC qV p0).ra (qP qI qI) m_pair_of)) (h_reduced : Has P w K mg base π "reduced" 1 ["top", "bottom"] (SpF (pC qI (pC qI p0)).ra (qP qI qI) m_reduced)) (h_whole_power : Has P w K mg base π "whole_power" 1 ["base", "many"] (SpF (pC qI (pC qI p0)).ra qI m_whole_power)) : FnP π P w K mg base CX0 5 f fd ["number", "many"] (SpF (pC qV (pC qI p0)).ra (qP qI qI) m_power_of) := by
  refine fn_okF (p := (pC qV (pC qI p0))) (m := w_power_of) (pn := (fun z _ => nomatch z)) (pl := fun _ _ => []) (env := fun a => [.im qV a.1, .im qI a.2.1, .un, .un]) 2 sπ F scpower_of rfl rfl (fun _ => rfl) ?hb ?hg
  case hb =>
    intro cdv A outer s H E hp hr C a hA
    unfold w_power_of
    exact (xs_exp (xe_callH h_check_number hp hr (by decide) (by rfl) (xa_cons (xe_var (pv 0)) xa_nil)) (fun _v4 => (xs_exp (xe_callH h_check_count hp hr (by decide) (by rfl) (xa_cons (xe_var (pv 1)) (xa_cons (xe_neg (xe_gintE (by rfl) T.MAX_RAISED_)) (xa_cons (xe_gintE (by rfl) T.MAX_RAISED_) xa_nil)))) (fun _v13 => (xs_asg (up := (uP (uN 2 qI) (uN 3 qI))) (xe_callH h_pair_of hp hr (by decide) (by rfl) (xa_cons (xe_var (pv 0)) xa_nil)) (xg_pair rfl (xg_name (pg_name (i := 2) scpower_of.nd rfl (by first | exact .inl rfl | exact .inr rfl))) (xg_name (pg_name (i := 3) scpower_of.nd rfl (by first | exact .inl rfl | exact .inr rfl)))) (fun v17 => (xs_ifx (xt_cmpD cd_ge (xe_var (pv 1)) xe_int rfl) (xs_ret (xe_tup2 (xe_callH h_whole_power hp hr (by decide) (by rfl) (xa_cons (xe_var (pv 2)) (xa_cons (xe_var (pv 1)) xa_nil))) (xe_callH h_whole_power hp hr (by decide) (by rfl) (xa_cons (xe_var (pv 3)) (xa_cons (xe_var (pv 1)) xa_nil))))) (xs_ifx (xt_cmpD cd_eqI (xe_var (pv 2)) xe_int rfl) xs_never (xs_ret (xe_callH h_reduced hp hr (by decide) (by rfl) (xa_cons (xe_callH h_whole_power hp hr (by decide) (by rfl) (xa_cons (xe_var (pv 3)) (xa_cons (xe_neg (xe_var (pv 1))) xa_nil))) (xa_cons (xe_callH h_whole_power hp hr (by decide) (by rfl) (xa_cons (xe_var (pv 2)) (xa_cons (xe_neg (xe_var (pv 1))) xa_nil))) xa_nil))))))))))))
  case hg =>
    intro a
    simp only [m_power_of, o_power_of, w_power_of, ofO_rt, ofO_rtN, ofO_bind, ofO_some, ofO_if, ofO_up, ofO_lc, ofO_lca, ofO_lc2, ofO_for, ofO_while, ofO_bindF, ofO_no, ofO_optM]
abbrev sfraction : Stmt := top 24
abbrev Nfraction : List Str := ["top", "bottom"]
theorem scfraction : FnScope ["top", "bottom"] ["top", "bottom"] (defScope sfraction) := ⟨rfl, rfl, rfl, by decide +kernel, rfl, by decide +kernel, by decide +kernel⟩
def w_fraction (a : Int × Int × Unit) : W (Fl (Int × Int) Empty Unit) :=
  ((((((W.ret a.1).bind fun x1 => (W.ret (eI.enc x1))).bind fun x2 => ((W.ret ()).bind fun y3 => (W.ret (x2, y3)))).bind fun a4 => (ofO (m_is_whole a4))).bind fun b5 => (W.ret (!b5))).bind fun b6 => (if b6 = true then upF W.no else (((((((W.ret a.2.1).bind fun x7 => (W.ret (eI.enc x7))).bind fun x8 => ((W.ret ()).bind fun y9 => (W.ret (x8, y9)))).bind fun a10 => (ofO (m_is_whole a10))).bind fun b11 => (W.ret (!b11))).bind fun p14 => (if p14 = true then W.ret true else ((W.ret a.2.1).bind fun p12 => ((W.ret (0 : Int)).bind fun q13 => (ofO (some (decide (p12 = q13)))))))).bind fun b15 => (if b15 = true then upF W.no else ((((W.ret a.1).bind fun x18 => (((W.ret a.2.1).bind fun x16 => ((W.ret ()).bind fun y17 => (W.ret (x16, y17)))).bind fun y19 => (W.ret (x18, y19)))).bind fun a20 => (ofO (m_reduced a20))).bind fun x21 => (W.ret (Fl.rt x21)))))))
def o_fraction (a : Int × Int × Unit) : Option (Fl (Int × Int) Empty Unit) :=
  ((((((some a.1).bind fun x1 => (some (eI.enc x1))).bind fun x2 => ((some ()).bind fun y3 => (some (x2, y3)))).bind fun a4 => (m_is_whole a4)).bind fun b5 => (some (!b5))).bind fun b6 => (if b6 = true then upO none else (((((((some a.2.1).bind fun x7 => (some (eI.enc x7))).bind fun x8 => ((some ()).bind fun y9 => (some (x8, y9)))).bind fun a10 => (m_is_whole a10)).bind fun b11 => (some (!b11))).bind fun p14 => (if p14 = true then some true else ((some a.2.1).bind fun p12 => ((some (0 : Int)).bind fun q13 => (some (decide (p12 = q13))))))).bind fun b15 => (if b15 = true then upO none else ((((some a.1).bind fun x18 => (((some a.2.1).bind fun x16 => ((some ()).bind fun y17 => (some (x16, y17)))).bind fun y19 => (some (x18, y19)))).bind fun a20 => (m_reduced a20)).bind fun x21 => (some (Fl.rt x21)))))))
def m_fraction (a : Int × Int × Unit) : Option (Int × Int) := rtO (o_fraction a)
theorem k_fraction {f : Addr} {fd : FuncData} (F : Fun K "fraction" "fraction" sfraction f fd) (T : Txt K mg) {π : Around → Prop} (sπ : Stb π) (h_is_whole : Has P w K mg base π "is_whole" 1 ["value"] (SpF (pC qV p0).ra qB m_is_whole)) (h_reduced : Has P w K mg base π "reduced" 1 ["top", "bottom"] (SpF (pC qI (pC qI p0)).ra (qP qI qI) m_reduced)) : FnP π P w K mg base CX0 2 f fd ["top", "bottom"] (SpF (pC qI (pC qI p0)).ra (qP qI qI) m_fraction) := by
  refine fn_okF (p := (pC qI (pC qI p0))) (m := w_fraction) (pn := (fun z _ => nomatch z)) (pl := fun _ _ => []) (env := fun a => [.im qI a.1, .im qI a.2.1]) 0 sπ F scfraction rfl rfl (fun _ => rfl) ?hb ?hg
  case hb =>
    intro cdv A outer s H E hp hr C a hA
    unfold w_fraction
    exact (xs_ifx (xt_not (xt_val (xe_callH h_is_whole hp hr (by decide) (by rfl) (xa_cons (xe_enc eI (xe_var (pv 0))) xa_nil)))) xs_never (xs_ifx (PW.pt (xw_or (xt_not (xt_val (xe_callH h_is_whole hp hr (by decide) (by rfl) (xa_cons (xe_enc eI (xe_var (pv 1))) xa_nil)))) (xw_or1 (xt_cmpD cd_eqI (xe_var (pv 1)) xe_int rfl)))) xs_never (xs_ret (xe_callH h_reduced hp hr (by decide) (by rfl) (xa_cons (xe_var (pv 0)) (xa_cons (xe_var (pv 1)) xa_nil))))))
  case hg =>
    intro a
    simp only [m_fraction, o_fraction, w_fraction, ofO_rt, ofO_rtN, ofO_bind, ofO_some, ofO_if, ofO_up, ofO_lc, ofO_lca, ofO_lc2, ofO_for, ofO_while, ofO_bindF, ofO_no, ofO_optM]
abbrev spair_text : Stmt := top 34
abbrev Npair_text : List Str := ["pair", "top", "bottom"]
theorem scpair_text : FnScope ["pair", "top", "bottom"] ["pair"] (defScope spair_text) := ⟨rfl, rfl, rfl, by decide +kernel, rfl, by decide +kernel, by decide +kernel⟩
def w_pair_text (a : (List Int) × Unit) : W (Fl Str Empty Unit) :=
  (((W.ret a.1).bind fun x1 => (ofO (two x1))).bind fun (v2 : (Int × Int)) => (((W.ret v2.2).bind fun p3 => ((W.ret (1 : Int)).bind fun q4 => (ofO (some (decide (p3 = q4)))))).bind fun b5 => (if b5 = true then upF (((W.ret v2.1).bind fun x6 => (ofO (strC x6))).bind fun x7 => (W.ret (Fl.rt x7))) else (((W.ret v2.1).bind fun i8 => ((ofO (strC i8)).bind fun s9 => ((W.ret ("/" : Str)).bind fun y10 => ((ofO (catSC s9 y10)).bind fun u11 => ((W.ret v2.2).bind fun j12 => ((ofO (strC j12)).bind fun t13 => (ofO (catSC u11 t13)))))))).bind fun x14 => (W.ret (Fl.rt x14))))))
def o_pair_text (a : (List Int) × Unit) : Option (Fl Str Empty Unit) :=
  (((some a.1).bind fun x1 => (two x1)).bind fun (v2 : (Int × Int)) => (((some v2.2).bind fun p3 => ((some (1 : Int)).bind fun q4 => (some (decide (p3 = q4))))).bind fun b5 => (if b5 = true then upO (((some v2.1).bind fun x6 => (strC x6)).bind fun x7 => (some (Fl.rt x7))) else (((some v2.1).bind fun i8 => ((strC i8).bind fun s9 => ((some ("/" : Str)).bind fun y10 => ((catSC s9 y10).bind fun u11 => ((some v2.2).bind fun j12 => ((strC j12).bind fun t13 => (catSC u11 t13))))))).bind fun x14 => (some (Fl.rt x14))))))
def m_pair_text (a : (List Int) × Unit) : Option Str := rtO (o_pair_text a)
theorem k_pair_text {f : Addr} {fd : FuncData} (F : Fun K "pair_text" "pair_text" spair_text f fd) (T : Txt K mg) {π : Around → Prop} (sπ : Stb π) : FnP π P w K mg base CX0 1 f fd ["pair"] (SpF (pC (qT qI) p0).ra qS m_pair_text) := by
  refine fn_okF (p := (pC (qT qI) p0)) (m := w_pair_text) (pn := (fun z _ => nomatch z)) (pl := fun _ _ => []) (env := fun a => [.im (qT qI) a.1, .un, .un]) 2 sπ F scpair_text rfl rfl (fun _ => rfl) ?hb ?hg
  case hb =>
    intro cdv A outer s H E hp hr C a hA
    unfold w_pair_text
    exact (xs_asg (up := (uP (uN 1 qI) (uN 2 qI))) (xe_unT2 (xe_var (pv 0))) (xg_pair rfl (xg_name (pg_name (i := 1) scpair_text.nd rfl (by first | exact .inl rfl | exact .inr rfl))) (xg_name (pg_name (i := 2) scpair_text.nd rfl (by first | exact .inl rfl | exact .inr rfl)))) (fun v2 => (xs_ifx (xt_cmpD cd_eqI (xe_var (pv 2)) xe_int rfl) (xs_ret (xe_strI (by rfl) T.str (xe_var (pv 1)))) (xs_ret (xe_fs3 (xe_var (pv 1)) xe_str (xe_var (pv 2)))))))
  case hg =>
    intro a
    simp only [m_pair_text, o_pair_text, w_pair_text, ofO_rt, ofO_rtN, ofO_bind, ofO_some, ofO_if, ofO_up, ofO_lc, ofO_lca, ofO_lc2, ofO_for, ofO_while, ofO_bindF, ofO_no, ofO_optM]
abbrev snumber_text : Stmt := top 33
abbrev Nnumber_text : List Str := ["number"]
theorem scnumber_text : FnScope ["number"] ["number"] (defScope snumber_text) := ⟨rfl, rfl, rfl, by decide +kernel, rfl, by decide +kernel, by decide +kernel⟩
def w_number_text (a : PyData × Unit) : W (Fl Str Empty Unit) :=
  ((((W.ret a.1).bind fun x1 => ((W.ret ()).bind fun y2 => (W.ret (x1, y2)))).bind fun a3 => (ofO (m_check_number a3))).bind fun _v4 => (((((((W.ret a.1).bind fun x5 => ((W.ret ()).bind fun y6 => (W.ret (x5, y6)))).bind fun a7 => (ofO (m_pair_of a7))).bind fun x8 => (W.ret [x8.1, x8.2])).bind fun x9 => ((W.ret ()).bind fun y10 => (W.ret (x9, y10)))).bind fun a11 => (ofO (m_pair_text a11))).bind fun x12 => (W.ret (Fl.rt x12))))
def o_number_text (a : PyData × Unit) : Option (Fl Str Empty Unit) :=
  ((((some a.1).bind fun x1 => ((some ()).bind fun y2 => (some (x1, y2)))).bind fun a3 => (m_check_number a3)).bind fun _v4 => (((((((some a.1).bind fun x5 => ((some ()).bind fun y6 => (some (x5, y6)))).bind fun a7 => (m_pair_of a7)).bind fun x8 => (some [x8.1, x8.2])).bind fun x9 => ((some ()).bind fun y10 => (some (x9, y10)))).bind fun a11 => (m_pair_text a11)).bind fun x12 => (some (Fl.rt x12))))
def m_number_text (a : PyData × Unit) : Option Str := rtO (o_number_text a)
theorem k_number_text {f : Addr} {fd : FuncData} (F : Fun K "number_text" "number_text" snumber_text f fd) (T : Txt K mg) {π : Around → Prop} (sπ : Stb π) (h_check_number : Has P w K mg base π "check_number" 4 ["value"] (SpF (pC qV p0).ra qN m_check_number)) (h_pair_of : Has P w K mg base π "pair_of" 1 ["number"] (SpF (pC qV p0).ra (qP qI qI) m_pair_of)) (h_pair_text : Has P w K mg base π "pair_text" 1 ["pair"] (SpF (pC (qT qI) p0).ra qS m_pair_text)) : FnP π P w K mg base CX0 5 f fd ["number"] (SpF (pC qV p0).ra qS m_number_text) := by
  refine fn_okF (p := (pC qV p0)) (m := w_number_text) (pn := (fun z _ => nomatch z)) (pl := fun _ _ => []) (env := fun a => [.im qV a.1]) 0 sπ F scnumber_text rfl rfl (fun _ => rfl) ?hb ?hg
  case hb =>
    intro cdv A outer s H E hp hr C a hA
    unfold w_number_text
    exact (xs_exp (xe_callH h_check_number hp hr (by decide) (by rfl) (xa_cons (xe_var (pv 0)) xa_nil)) (fun _v4 => (xs_ret (xe_callH h_pair_text hp hr (by decide) (by rfl) (xa_cons (xe_row2 (xe_callH h_pair_of hp hr (by decide) (by rfl) (xa_cons (xe_var (pv 0)) xa_nil))) xa_nil)))))
  case hg =>
    intro a
    simp only [m_number_text, o_number_text, w_number_text, ofO_rt, ofO_rtN, ofO_bind, ofO_some, ofO_if, ofO_up, ofO_lc, ofO_lca, ofO_lc2, ofO_for, ofO_while, ofO_bindF, ofO_no, ofO_optM]
abbrev slaw_text : Stmt := top 49
abbrev Nlaw_text : List Str := ["_law_pair"]
theorem sclaw_text : FnScope ["_law_pair"] ["_law_pair"] (defScope slaw_text) := ⟨rfl, rfl, rfl, by decide +kernel, rfl, by decide +kernel, by decide +kernel⟩
def w_law_text (a : (List Int) × Unit) : W (Fl Str Empty Unit) :=
  (((((W.ret a.1).bind fun x1 => ((W.ret (1 : Int)).bind fun i2 => (ofO (L2.atI x1 i2)))).bind fun p3 => ((W.ret (1 : Int)).bind fun q4 => (ofO (some (decide (p3 = q4)))))).bind fun p18 => (if p18 = true then (((W.ret a.1).bind fun x5 => ((W.ret (0 : Int)).bind fun i6 => (ofO (L2.atI x5 i6)))).bind fun x7 => (ofO (strC x7))) else (((((W.ret a.1).bind fun x8 => ((W.ret (0 : Int)).bind fun i9 => (ofO (L2.atI x8 i9)))).bind fun x10 => (ofO (strC x10))).bind fun p11 => ((W.ret ("/" : Str)).bind fun q12 => (ofO (catSC p11 q12)))).bind fun p16 => ((((W.ret a.1).bind fun x13 => ((W.ret (1 : Int)).bind fun i14 => (ofO (L2.atI x13 i14)))).bind fun x15 => (ofO (strC x15))).bind fun q17 => (ofO (catSC p16 q17)))))).bind fun x19 => (W.ret (Fl.rt x19)))
def o_law_text (a : (List Int) × Unit) : Option (Fl Str Empty Unit) :=
  (((((some a.1).bind fun x1 => ((some (1 : Int)).bind fun i2 => (L2.atI x1 i2))).bind fun p3 => ((some (1 : Int)).bind fun q4 => (some (decide (p3 = q4))))).bind fun p18 => (if p18 = true then (((some a.1).bind fun x5 => ((some (0 : Int)).bind fun i6 => (L2.atI x5 i6))).bind fun x7 => (strC x7)) else (((((some a.1).bind fun x8 => ((some (0 : Int)).bind fun i9 => (L2.atI x8 i9))).bind fun x10 => (strC x10)).bind fun p11 => ((some ("/" : Str)).bind fun q12 => (catSC p11 q12))).bind fun p16 => ((((some a.1).bind fun x13 => ((some (1 : Int)).bind fun i14 => (L2.atI x13 i14))).bind fun x15 => (strC x15)).bind fun q17 => (catSC p16 q17))))).bind fun x19 => (some (Fl.rt x19)))
def m_law_text (a : (List Int) × Unit) : Option Str := rtO (o_law_text a)
theorem k_law_text {f : Addr} {fd : FuncData} (F : Fun K "_law_text" "_law_text" slaw_text f fd) (T : Txt K mg) {π : Around → Prop} (sπ : Stb π) : FnP π P w K mg base CX0 1 f fd ["_law_pair"] (SpF (pC (qT qI) p0).ra qS m_law_text) := by
  refine fn_okF (p := (pC (qT qI) p0)) (m := w_law_text) (pn := (fun z _ => nomatch z)) (pl := fun _ _ => []) (env := fun a => [.im (qT qI) a.1]) 0 sπ F sclaw_text rfl rfl (fun _ => rfl) ?hb ?hg
  case hb =>
    intro cdv A outer s H E hp hr C a hA
    unfold w_law_text
    exact (xs_ret (xe_if (xt_cmpD cd_eqI (xe_ix (xq_im (xe_var (pv 0))) xe_int) xe_int rfl) (xe_strI (by rfl) T.str (xe_ix (xq_im (xe_var (pv 0))) xe_int)) (xe_catS (xe_catS (xe_strI (by rfl) T.str (xe_ix (xq_im (xe_var (pv 0))) xe_int)) xe_str) (xe_strI (by rfl) T.str (xe_ix (xq_im (xe_var (pv 0))) xe_int)))))
  case hg =>
    intro a
    simp only [m_law_text, o_law_text, w_law_text, ofO_rt, ofO_rtN, ofO_bind, ofO_some, ofO_if, ofO_up, ofO_lc, ofO_lca, ofO_lc2, ofO_for, ofO_while, ofO_bindF, ofO_no, ofO_optM]
abbrev slaw_sums_right : Stmt := top 50
abbrev Nlaw_sums_right : List Str := ["_law_dice_here", "_law_told", "_law_due", "_law_over", "_law_power_here", "_law_scale", "_law_one", "_law_other", "_law_first", "_law_last", "_law_wide"]
theorem sclaw_sums_right : FnScope ["_law_dice_here", "_law_told", "_law_due", "_law_over", "_law_power_here", "_law_scale", "_law_one", "_law_other", "_law_first", "_law_last", "_law_wide"] ["_law_dice_here"] (defScope slaw_sums_right) := ⟨rfl, rfl, rfl, by decide +kernel, rfl, by decide +kernel, by decide +kernel⟩
def w_law_sums_right (a : Unit) : W (Fl Bool Empty Unit) :=
  (((W.ret ()).bind fun a3 => (m_law_nb_drawn a3)).bind fun (v1 : PyData) => (((W.ret ()).bind fun a4 => (m_law_nb_drawn a4)).bind fun (v2 : PyData) => ((((W.ret v1).bind fun x5 => ((W.ret ()).bind fun y6 => (W.ret (x5, y6)))).bind fun a7 => (ofO (m_law_nb_pair a7))).bind fun (v16 : (Int × Int)) => ((((W.ret v2).bind fun x8 => ((W.ret ()).bind fun y9 => (W.ret (x8, y9)))).bind fun a10 => (ofO (m_law_nb_pair a10))).bind fun (v17 : (Int × Int)) => (((((W.ret (17 : Int)).bind fun x11 => ((W.ret ()).bind fun y12 => (W.ret (x11, y12)))).bind fun a13 => (m_law_roll a13)).bind fun p14 => ((W.ret (8 : Int)).bind fun q15 => (W.ret (p14 - q15)))).bind fun (v18 : Int) => ((((((W.ret v1).bind fun x22 => (((W.ret v2).bind fun x20 => ((W.ret ()).bind fun y21 => (W.ret (x20, y21)))).bind fun y23 => (W.ret (x22, y23)))).bind fun a24 => (ofO (m_added a24))).bind fun x57 => (((((W.ret v1).bind fun x27 => (((W.ret v2).bind fun x25 => ((W.ret ()).bind fun y26 => (W.ret (x25, y26)))).bind fun y28 => (W.ret (x27, y28)))).bind fun a29 => (ofO (m_multiplied a29))).bind fun x55 => ((((((W.ret v16).bind fun x30 => (W.ret ((eP eI eI).enc x30))).bind fun x33 => (((W.ret v2).bind fun x31 => ((W.ret ()).bind fun y32 => (W.ret (x31, y32)))).bind fun y34 => (W.ret (x33, y34)))).bind fun a35 => (ofO (m_added a35))).bind fun x53 => (((((W.ret v1).bind fun x39 => ((((W.ret v17).bind fun x36 => (W.ret ((eP eI eI).enc x36))).bind fun x37 => ((W.ret ()).bind fun y38 => (W.ret (x37, y38)))).bind fun y40 => (W.ret (x39, y40)))).bind fun a41 => (ofO (m_multiplied a41))).bind fun x51 => ((((((W.ret v17).bind fun x42 => (W.ret ((eP eI eI).enc x42))).bind fun x46 => ((((W.ret v16).bind fun x43 => (W.ret ((eP eI eI).enc x43))).bind fun x44 => ((W.ret ()).bind fun y45 => (W.ret (x44, y45)))).bind fun y47 => (W.ret (x46, y47)))).bind fun a48 => (ofO (m_added a48))).bind fun x49 => ((W.ret []).bind fun y50 => (W.ret (x49 :: y50)))).bind fun y52 => (W.ret (x51 :: y52)))).bind fun y54 => (W.ret (x53 :: y54)))).bind fun y56 => (W.ret (x55 :: y56)))).bind fun y58 => (W.ret (x57 :: y58)))).bind fun x59 => (ofO (lenK x59))).bind fun (v19 : (List (Int × Int))) => (((((((W.ret v16).bind fun x61 => (W.ret [x61.1, x61.2])).bind fun x65 => ((((W.ret v17).bind fun x62 => (W.ret [x62.1, x62.2])).bind fun x63 => ((W.ret ()).bind fun y64 => (W.ret (x63, y64)))).bind fun y66 => (W.ret (x65, y66)))).bind fun a67 => (ofO (m_law_plus a67))).bind fun x77 => ((((((W.ret v16).bind fun x68 => (W.ret [x68.1, x68.2])).bind fun x72 => ((((W.ret v17).bind fun x69 => (W.ret [x69.1, x69.2])).bind fun x70 => ((W.ret ()).bind fun y71 => (W.ret (x70, y71)))).bind fun y73 => (W.ret (x72, y73)))).bind fun a74 => (ofO (m_law_times a74))).bind fun x75 => ((W.ret []).bind fun y76 => (W.ret (x75 :: y76)))).bind fun y78 => (W.ret (x77 :: y78)))).bind fun x79 => (ofO (lenK x79))).bind fun (v60 : (List (Int × Int))) => ((((W.ret v19).bind fun p88 => ((((W.ret v60).bind fun p80 => ((W.ret v60).bind fun q81 => (ofO (catC p80 q81)))).bind fun p86 => (((W.ret v60).bind fun x83 => ((W.ret (none : Option Int)).bind fun l84 => (((W.ret (1 : Int)).bind fun x82 => (W.ret (some x82))).bind fun h85 => (W.ret (cutL x83 l84 h85))))).bind fun q87 => (ofO (catC p86 q87)))).bind fun q89 => (ofO (some (!PyData.eqv ((dL (dP dI dI)).d p88) ((dL (dP dI dI)).d q89)))))).bind fun p107 => (if p107 = true then W.ret true else (((((W.ret v1).bind fun x90 => ((W.ret ()).bind fun y91 => (W.ret (x90, y91)))).bind fun a92 => (ofO (m_is_number a92))).bind fun b93 => (W.ret (!b93))).bind fun p106 => (if p106 = true then W.ret true else ((((((W.ret v16).bind fun x94 => (W.ret ((eP eI eI).enc x94))).bind fun x95 => ((W.ret ()).bind fun y96 => (W.ret (x95, y96)))).bind fun a97 => (ofO (m_is_fraction a97))).bind fun b98 => (W.ret (!b98))).bind fun p105 => (if p105 = true then W.ret true else ((((W.ret v1).bind fun x99 => ((W.ret ()).bind fun y100 => (W.ret (x99, y100)))).bind fun a101 => (ofO (m_is_fraction a101))).bind fun p103 => (((W.ret v1).bind fun x102 => (W.ret (isTupV x102))).bind fun q104 => (ofO (some (!PyData.eqv (dB.d p103) (dB.d q104)))))))))))).bind fun b108 => (if b108 = true then upF ((W.ret false).bind fun x109 => (W.ret (Fl.rt x109))) else ((((((W.ret v17).bind fun x111 => (W.ret [x111.1, x111.2])).bind fun x112 => ((W.ret (0 : Int)).bind fun i113 => (ofO (L2.atI x112 i113)))).bind fun p114 => ((W.ret (0 : Int)).bind fun q115 => (ofO (some (!decide (p114 = q115)))))).bind fun p139 => (if p139 = true then (((((((W.ret v16).bind fun x116 => (W.ret [x116.1, x116.2])).bind fun x117 => ((W.ret (0 : Int)).bind fun i118 => (ofO (L2.atI x117 i118)))).bind fun p122 => ((((W.ret v17).bind fun x119 => (W.ret [x119.1, x119.2])).bind fun x120 => ((W.ret (1 : Int)).bind fun i121 => (ofO (L2.atI x120 i121)))).bind fun q123 => (ofO (mulC p122 q123)))).bind fun x134 => ((((((W.ret v16).bind fun x124 => (W.ret [x124.1, x124.2])).bind fun x125 => ((W.ret (1 : Int)).bind fun i126 => (ofO (L2.atI x125 i126)))).bind fun p130 => ((((W.ret v17).bind fun x127 => (W.ret [x127.1, x127.2])).bind fun x128 => ((W.ret (0 : Int)).bind fun i129 => (ofO (L2.atI x128 i129)))).bind fun q131 => (ofO (mulC p130 q131)))).bind fun x132 => ((W.ret ()).bind fun y133 => (W.ret (x132, y133)))).bind fun y135 => (W.ret (x134, y135)))).bind fun a136 => (ofO (m_law_fraction a136))).bind fun x137 => (W.ret ((eP eI eI).enc x137))) else ((W.ret ()).bind fun x138 => (W.ret (eN.enc x138))))).bind fun (v110 : PyData) => ((((W.ret v110).bind fun x140 => (W.ret (!isNonV x140))).bind fun p150 => (if p150 = true then (((((W.ret v1).bind fun x143 => (((W.ret v2).bind fun x141 => ((W.ret ()).bind fun y142 => (W.ret (x141, y142)))).bind fun y144 => (W.ret (x143, y144)))).bind fun a145 => (ofO (m_divided a145))).bind fun x148 => (W.ret ((dP dI dI).d x148))).bind fun p146 => (((W.ret v110).bind fun x149 => (ofO (cleanO x149))).bind fun q147 => (ofO ((eqC p146 q147).bind fun b => some !b)))) else W.ret false)).bind fun b151 => (if b151 = true then upF ((W.ret false).bind fun x152 => (W.ret (Fl.rt x152))) else (((((W.ret v16).bind fun x155 => (W.ret [x155.1, x155.2])).bind fun x158 => ((((W.ret v18).bind fun x154 => (W.ret (x154.natAbs : Int))).bind fun x156 => ((W.ret ()).bind fun y157 => (W.ret (x156, y157)))).bind fun y159 => (W.ret (x158, y159)))).bind fun a160 => (ofO (m_law_nb_power a160))).bind fun (v153 : (Int × Int)) => ((((W.ret v18).bind fun p161 => ((W.ret (0 : Int)).bind fun q162 => (ofO (some (decide (q162 ≤ p161)))))).bind fun p170 => (if p170 = true then ((((W.ret v1).bind fun x165 => (((W.ret v18).bind fun x163 => ((W.ret ()).bind fun y164 => (W.ret (x163, y164)))).bind fun y166 => (W.ret (x165, y166)))).bind fun a167 => (ofO (m_power_of a167))).bind fun p168 => ((W.ret v153).bind fun q169 => (ofO (some (!PyData.eqv ((dP dI dI).d p168) ((dP dI dI).d q169)))))) else W.ret false)).bind fun b171 => (if b171 = true then upF ((W.ret false).bind fun x172 => (W.ret (Fl.rt x172))) else ((((W.ret v18).bind fun p173 => ((W.ret (0 : Int)).bind fun q174 => (ofO (some (decide (p173 < q174)))))).bind fun p199 => (if p199 = true then (((((W.ret v16).bind fun x175 => (W.ret [x175.1, x175.2])).bind fun x176 => ((W.ret (0 : Int)).bind fun i177 => (ofO (L2.atI x176 i177)))).bind fun p178 => ((W.ret (0 : Int)).bind fun q179 => (ofO (some (!decide (p178 = q179)))))).bind fun p198 => (if p198 = true then ((((W.ret v1).bind fun x182 => (((W.ret v18).bind fun x180 => ((W.ret ()).bind fun y181 => (W.ret (x180, y181)))).bind fun y183 => (W.ret (x182, y183)))).bind fun a184 => (ofO (m_power_of a184))).bind fun p196 => ((((((W.ret v153).bind fun x185 => (W.ret [x185.1, x185.2])).bind fun x186 => ((W.ret (1 : Int)).bind fun i187 => (ofO (L2.atI x186 i187)))).bind fun x193 => (((((W.ret v153).bind fun x188 => (W.ret [x188.1, x188.2])).bind fun x189 => ((W.ret (0 : Int)).bind fun i190 => (ofO (L2.atI x189 i190)))).bind fun x191 => ((W.ret ()).bind fun y192 => (W.ret (x191, y192)))).bind fun y194 => (W.ret (x193, y194)))).bind fun a195 => (ofO (m_law_fraction a195))).bind fun q197 => (ofO (some (!PyData.eqv ((dP dI dI).d p196) ((dP dI dI).d q197)))))) else W.ret false)) else W.ret false)).bind fun b200 => (if b200 = true then upF ((W.ret false).bind fun x201 => (W.ret (Fl.rt x201))) else (((((W.ret (99 : Int)).bind fun x203 => ((W.ret ()).bind fun y204 => (W.ret (x203, y204)))).bind fun a205 => (m_law_roll a205)).bind fun p206 => ((W.ret (49 : Int)).bind fun q207 => (W.ret (p206 - q207)))).bind fun (v202 : Int) => ((((W.ret v202).bind fun p209 => ((W.ret (0 : Int)).bind fun q210 => (ofO (some (!decide (p209 = q210)))))).bind fun p211 => (if p211 = true then (W.ret v202) else (W.ret (7 : Int)))).bind fun (v208 : Int) => (((((((((W.ret v16).bind fun x212 => (W.ret [x212.1, x212.2])).bind fun x213 => ((W.ret (0 : Int)).bind fun i214 => (ofO (L2.atI x213 i214)))).bind fun p215 => ((W.ret v208).bind fun q216 => (ofO (mulC p215 q216)))).bind fun x224 => ((((((W.ret v16).bind fun x217 => (W.ret [x217.1, x217.2])).bind fun x218 => ((W.ret (1 : Int)).bind fun i219 => (ofO (L2.atI x218 i219)))).bind fun p220 => ((W.ret v208).bind fun q221 => (ofO (mulC p220 q221)))).bind fun x222 => ((W.ret ()).bind fun y223 => (W.ret (x222, y223)))).bind fun y225 => (W.ret (x224, y225)))).bind fun a226 => (ofO (m_fraction a226))).bind fun p227 => ((W.ret v16).bind fun q228 => (ofO (some (!PyData.eqv ((dP dI dI).d p227) ((dP dI dI).d q228)))))).bind fun p238 => (if p238 = true then W.ret true else ((((W.ret v1).bind fun x229 => ((W.ret ()).bind fun y230 => (W.ret (x229, y230)))).bind fun a231 => (ofO (m_number_text a231))).bind fun p236 => (((((W.ret v16).bind fun x232 => (W.ret [x232.1, x232.2])).bind fun x233 => ((W.ret ()).bind fun y234 => (W.ret (x233, y234)))).bind fun a235 => (ofO (m_law_text a235))).bind fun q237 => (ofO (some (!decide (p236 = q237)))))))).bind fun b239 => (if b239 = true then upF ((W.ret false).bind fun x240 => (W.ret (Fl.rt x240))) else (((((((W.ret v16).bind fun x241 => (W.ret ((eP eI eI).enc x241))).bind fun x242 => ((W.ret ()).bind fun y243 => (W.ret (x242, y243)))).bind fun a244 => (ofO (m_number_text a244))).bind fun p249 => (((((W.ret v16).bind fun x245 => (W.ret [x245.1, x245.2])).bind fun x246 => ((W.ret ()).bind fun y247 => (W.ret (x246, y247)))).bind fun a248 => (ofO (m_law_text a248))).bind fun q250 => (ofO (some (decide (p249 = q250)))))).bind fun p268 => (if p268 = true then ((((W.ret v1).bind fun x261 => ((((((((W.ret (1 : Int)).bind fun p251 => (W.ret (-p251))).bind fun x252 => (W.ret (eI.enc x252))).bind fun x255 => (((W.ret v1).bind fun x253 => ((W.ret ()).bind fun y254 => (W.ret (x253, y254)))).bind fun y256 => (W.ret (x255, y256)))).bind fun a257 => (ofO (m_multiplied a257))).bind fun x258 => (W.ret ((eP eI eI).enc x258))).bind fun x259 => ((W.ret ()).bind fun y260 => (W.ret (x259, y260)))).bind fun y262 => (W.ret (x261, y262)))).bind fun a263 => (ofO (m_added a263))).bind fun p266 => (((W.ret (0 : Int)).bind fun x264 => ((W.ret (1 : Int)).bind fun x265 => (W.ret (x264, x265)))).bind fun q267 => (ofO (some (PyData.eqv ((dP dI dI).d p266) ((dP dI dI).d q267)))))) else (W.ret false))).bind fun x269 => (W.ret (Fl.rt x269))))))))))))))))))))))))
def m_law_sums_right (a : Unit) : W Bool := rtOf (w_law_sums_right a)
theorem k_law_sums_right {f : Addr} {fd : FuncData} (F : Fun K "_law_sums_right" "_law_sums_right" slaw_sums_right f fd) (T : Txt K mg) {π : Around → Prop} (sπ : Stb π) (h_added : Has P w K mg base π "added" 5 ["one", "other"] (SpF (pC qV (pC qV p0)).ra (qP qI qI) m_added)) (h_divided : Has P w K mg base π "divided" 5 ["one", "other"] (SpF (pC qV (pC qV p0)).ra (qP qI qI) m_divided)) (h_fraction : Has P w K mg base π "fraction" 2 ["top", "bottom"] (SpF (pC qI (pC qI p0)).ra (qP qI qI) m_fraction)) (h_is_fraction : Has P w K mg base π "is_fraction" 2 ["value"] (SpF (pC qV p0).ra qB m_is_fraction)) (h_is_number : Has P w K mg base π "is_number" 3 ["value"] (SpF (pC qV p0).ra qB m_is_number)) (h_law_fraction : Has P w K mg base π "_law_fraction" 2 ["_law_top", "_law_bottom"] (SpF (pC qI (pC qI p0)).ra (qP qI qI) m_law_fraction)) (h_law_nb_drawn : Has P w K mg base π "_law_nb_drawn" 3 ["_law_dice_here"] (SpD p0.ra qV m_law_nb_drawn)) (h_law_nb_pair : Has P w K mg base π "_law_nb_pair" 1 ["_law_number"] (SpF (pC qV p0).ra (qP qI qI) m_law_nb_pair)) (h_law_nb_power : Has P w K mg base π "_law_nb_power" 2 ["_law_pair", "_law_exponent"] (SpF (pC (qT qI) (pC qI p0)).ra (qP qI qI) m_law_nb_power)) (h_law_plus : Has P w K mg base π "_law_plus" 3 ["_law_one", "_law_other"] (SpF (pC (qT qI) (pC (qT qI) p0)).ra (qP qI qI) m_law_plus)) (h_law_roll : Has P w K mg base π "_law_roll" 1 ["_law_dice_here", "_law_total"] (SpD (pC qI p0).ra qI m_law_roll)) (h_law_text : Has P w K mg base π "_law_text" 1 ["_law_pair"] (SpF (pC (qT qI) p0).ra qS m_law_text)) (h_law_times : Has P w K mg base π "_law_times" 3 ["_law_one", "_law_other"] (SpF (pC (qT qI) (pC (qT qI) p0)).ra (qP qI qI) m_law_times)) (h_multiplied : Has P w K mg base π "multiplied" 5 ["one", "other"] (SpF (pC qV (pC qV p0)).ra (qP qI qI) m_multiplied)) (h_number_text : Has P w K mg base π "number_text" 5 ["number"] (SpF (pC qV p0).ra qS m_number_text)) (h_power_of : Has P w K mg base π "power_of" 5 ["number", "many"] (SpF (pC qV (pC qI p0)).ra (qP qI qI) m_power_of)) : FnP π P w K mg base CX0 6 f fd ["_law_dice_here"] (SpD p0.ra qB m_law_sums_right) := by
  refine fn_okD (p := p0) (m := w_law_sums_right) (pn := (fun z _ => nomatch z)) (pl := fun _ _ => []) (env := fun a => [.un, .un, .un, .un, .un, .un, .un, .un, .un, .un]) 10 sπ F sclaw_sums_right rfl rfl (fun _ => rfl) ?hb ?hg
  case hb =>
    intro cdv A outer s H E hp hr C d a hA
    unfold w_law_sums_right
    exact (xs_par (env := fun g => [.iv d (oD g), .un, .un, .un, .un, .un, .un, .un, .un, .un, .un]) (i := 6) (j := 7) (xe_callDH h_law_nb_drawn hp hr (by decide) (by rfl) (pv 0) xa_nil) (xe_callDH h_law_nb_drawn hp hr (by decide) (by rfl) (pv 0) xa_nil) (fun v1 v2 => (xs_par3 (i := 8) (j := 9) (l := 10) (xe_callH h_law_nb_pair hp hr (by decide) (by rfl) (xa_cons (xe_var (pv 6)) xa_nil)) (xe_callH h_law_nb_pair hp hr (by decide) (by rfl) (xa_cons (xe_var (pv 7)) xa_nil)) (xe_sub (xe_callDH h_law_roll hp hr (by decide) (by rfl) (pv 0) (xa_cons xe_int xa_nil)) xe_int) (fun v16 v17 v18 => (xs_set (i := 1) (xe_N (xn_lst (xa_consL (xe_callH h_added hp hr (by decide) (by rfl) (xa_cons (xe_var (pv 6)) (xa_cons (xe_var (pv 7)) xa_nil))) (xa_consL (xe_callH h_multiplied hp hr (by decide) (by rfl) (xa_cons (xe_var (pv 6)) (xa_cons (xe_var (pv 7)) xa_nil))) (xa_consL (xe_callH h_added hp hr (by decide) (by rfl) (xa_cons (xe_enc (eP eI eI) (xe_var (pv 8))) (xa_cons (xe_var (pv 7)) xa_nil))) (xa_consL (xe_callH h_multiplied hp hr (by decide) (by rfl) (xa_cons (xe_var (pv 6)) (xa_cons (xe_enc (eP eI eI) (xe_var (pv 9))) xa_nil))) (xa_consL (xe_callH h_added hp hr (by decide) (by rfl) (xa_cons (xe_enc (eP eI eI) (xe_var (pv 9))) (xa_cons (xe_enc (eP eI eI) (xe_var (pv 8))) xa_nil))) xa_nilL))))))) (fun v19 => (xs_set (i := 2) (xe_N (xn_lst (xa_consL (xe_callH h_law_plus hp hr (by decide) (by rfl) (xa_cons (xe_row2 (xe_var (pv 8))) (xa_cons (xe_row2 (xe_var (pv 9))) xa_nil))) (xa_consL (xe_callH h_law_times hp hr (by decide) (by rfl) (xa_cons (xe_row2 (xe_var (pv 8))) (xa_cons (xe_row2 (xe_var (pv 9))) xa_nil))) xa_nilL)))) (fun v60 => (xs_ifx (PW.pt (xw_or (xt_cmpD (cd_ne (dL (dP dI dI)) (dL (dP dI dI)) hr.units) (xe_var (pv 1)) (xe_N (xn_catL (xe_N (xn_catL (xe_var (pv 2)) (xe_var (pv 2)))) (xe_N (xn_slL (xq_im (xe_var (pv 2))) xo_none (xo_some xe_int))))) rfl) (xw_or (xt_not (xt_val (xe_callH h_is_number hp hr (by decide) (by rfl) (xa_cons (xe_var (pv 6)) xa_nil)))) (xw_or (xt_not (xt_val (xe_callH h_is_fraction hp hr (by decide) (by rfl) (xa_cons (xe_enc (eP eI eI) (xe_var (pv 8))) xa_nil)))) (xw_or1 (xt_cmpD (cd_ne dB dB hr.units) (xe_callH h_is_fraction hp hr (by decide) (by rfl) (xa_cons (xe_var (pv 6)) xa_nil)) (xe_isiV (f := isTupV) (n := "tuple") (by rfl) T.isinstance (xe_var (pv 6)) (by rfl) T.tuple (by decide +kernel) kTup) rfl)))))) (xs_ret xe_bl) (xs_set (i := 3) (xe_if (xt_cmpD cd_neI (xe_ix (xq_im (xe_row2 (xe_var (pv 9)))) xe_int) xe_int rfl) (xe_enc (eP eI eI) (xe_callH h_law_fraction hp hr (by decide) (by rfl) (xa_cons (xe_mul (xe_ix (xq_im (xe_row2 (xe_var (pv 8)))) xe_int) (xe_ix (xq_im (xe_row2 (xe_var (pv 9)))) xe_int)) (xa_cons (xe_mul (xe_ix (xq_im (xe_row2 (xe_var (pv 8)))) xe_int) (xe_ix (xq_im (xe_row2 (xe_var (pv 9)))) xe_int)) xa_nil)))) (xe_enc eN xe_non)) (fun v110 => (xs_ifx (PW.pt (xw_and (xt_notNV (xe_var (pv 3))) (xw_and1 (xt_cmpD (cd_neD hr.units) (xe_data (dP dI dI) (xe_callH h_divided hp hr (by decide) (by rfl) (xa_cons (xe_var (pv 6)) (xa_cons (xe_var (pv 7)) xa_nil)))) (xe_VD (xe_var (pv 3))) rfl)))) (xs_ret xe_bl) (xs_set (i := 4) (xe_callH h_law_nb_power hp hr (by decide) (by rfl) (xa_cons (xe_row2 (xe_var (pv 8))) (xa_cons (xe_abs (by rfl) T.abs (xe_var (pv 10))) xa_nil))) (fun v153 => (xs_ifx (PW.pt (xw_and (xt_cmpD cd_ge (xe_var (pv 10)) xe_int rfl) (xw_and1 (xt_cmpD (cd_ne (dP dI dI) (dP dI dI) hr.units) (xe_callH h_power_of hp hr (by decide) (by rfl) (xa_cons (xe_var (pv 6)) (xa_cons (xe_var (pv 10)) xa_nil))) (xe_var (pv 4)) rfl)))) (xs_ret xe_bl) (xs_ifx (PW.pt (xw_and (xt_cmpD cd_lt (xe_var (pv 10)) xe_int rfl) (xw_and (xt_cmpD cd_neI (xe_ix (xq_im (xe_row2 (xe_var (pv 8)))) xe_int) xe_int rfl) (xw_and1 (xt_cmpD (cd_ne (dP dI dI) (dP dI dI) hr.units) (xe_callH h_power_of hp hr (by decide) (by rfl) (xa_cons (xe_var (pv 6)) (xa_cons (xe_var (pv 10)) xa_nil))) (xe_callH h_law_fraction hp hr (by decide) (by rfl) (xa_cons (xe_ix (xq_im (xe_row2 (xe_var (pv 4)))) xe_int) (xa_cons (xe_ix (xq_im (xe_row2 (xe_var (pv 4)))) xe_int) xa_nil))) rfl))))) (xs_ret xe_bl) (xs_set (i := 5) (xe_sub (xe_callDH h_law_roll hp hr (by decide) (by rfl) (pv 0) (xa_cons xe_int xa_nil)) xe_int) (fun v202 => (xs_set (i := 5) (xe_if (xt_cmpD cd_neI (xe_var (pv 5)) xe_int rfl) (xe_var (pv 5)) xe_int) (fun v208 => (xs_ifx (PW.pt (xw_or (xt_cmpD (cd_ne (dP dI dI) (dP dI dI) hr.units) (xe_callH h_fraction hp hr (by decide) (by rfl) (xa_cons (xe_mul (xe_ix (xq_im (xe_row2 (xe_var (pv 8)))) xe_int) (xe_var (pv 5))) (xa_cons (xe_mul (xe_ix (xq_im (xe_row2 (xe_var (pv 8)))) xe_int) (xe_var (pv 5))) xa_nil))) (xe_var (pv 8)) rfl) (xw_or1 (xt_cmpD cd_neS (xe_callH h_number_text hp hr (by decide) (by rfl) (xa_cons (xe_var (pv 6)) xa_nil)) (xe_callH h_law_text hp hr (by decide) (by rfl) (xa_cons (xe_row2 (xe_var (pv 8))) xa_nil)) rfl)))) (xs_ret xe_bl) (xs_ret (xe_andB (xe_cmpD cd_eqS (xe_callH h_number_text hp hr (by decide) (by rfl) (xa_cons (xe_enc (eP eI eI) (xe_var (pv 8))) xa_nil)) (xe_callH h_law_text hp hr (by decide) (by rfl) (xa_cons (xe_row2 (xe_var (pv 8))) xa_nil)) rfl) (xe_one (xe_cmpD (cd_eq (dP dI dI) (dP dI dI) hr.units) (xe_callH h_added hp hr (by decide) (by rfl) (xa_cons (xe_var (pv 6)) (xa_cons (xe_enc (eP eI eI) (xe_callH h_multiplied hp hr (by decide) (by rfl) (xa_cons (xe_enc eI (xe_neg xe_int)) (xa_cons (xe_var (pv 6)) xa_nil)))) xa_nil))) (xe_tup2 xe_int xe_int) rfl)))))) sclaw_sums_right.nd rfl (.inl rfl) rfl rfl)) sclaw_sums_right.nd rfl (.inl rfl) rfl rfl)))) sclaw_sums_right.nd rfl (.inl rfl) rfl rfl))) sclaw_sums_right.nd rfl (.inl rfl) rfl rfl))) sclaw_sums_right.nd rfl (.inl rfl) rfl rfl)) sclaw_sums_right.nd rfl (.inl rfl) rfl rfl)) rfl sclaw_sums_right.nd rfl rfl rfl (by decide) (by decide) (by decide) rfl rfl rfl rfl)) rfl sclaw_sums_right.nd rfl rfl (by decide) rfl rfl rfl)
  case hg => exact fun _ => rfl
abbrev sfalling_product : Stmt := top 32
abbrev Nfalling_product : List Str := ["top", "low", "made", "less"]
theorem scfalling_product : FnScope ["top", "low", "made", "less"] ["top", "low"] (defScope sfalling_product) := ⟨rfl, rfl, rfl, by decide +kernel, rfl, by decide +kernel, by decide +kernel⟩
def w_falling_product (a : Int × Int × Unit) : W (Fl Int Empty Unit) :=
  ((W.ret (1 : Int)).bind fun (v1 : Int) => (((W.ret a.2.1).bind fun i2 => (ofO (rngC 0 i2))).bind fun xs11 => bindF (forL (fun (s3 : Int) (x4 : Int) => (((W.ret s3).bind fun p8 => (((W.ret a.1).bind fun p6 => ((W.ret x4).bind fun q7 => (W.ret (p6 - q7)))).bind fun q9 => (ofO (mulC p8 q9)))).bind fun (v5 : Int) => (W.ret (Fl.nx v5)))) xs11 v1) (fun (s3 : Int) => ((W.ret s3).bind fun x10 => (W.ret (Fl.rt x10))))))
def o_falling_product (a : Int × Int × Unit) : Option (Fl Int Empty Unit) :=
  ((some (1 : Int)).bind fun (v1 : Int) => (((some a.2.1).bind fun i2 => (rngC 0 i2)).bind fun xs11 => bindFO (forO (fun (s3 : Int) (x4 : Int) => (((some s3).bind fun p8 => (((some a.1).bind fun p6 => ((some x4).bind fun q7 => (some (p6 - q7)))).bind fun q9 => (mulC p8 q9))).bind fun (v5 : Int) => (some (Fl.nx v5)))) xs11 v1) (fun (s3 : Int) => ((some s3).bind fun x10 => (some (Fl.rt x10))))))
def m_falling_product (a : Int × Int × Unit) : Option Int := rtO (o_falling_product a)
theorem k_falling_product {f : Addr} {fd : FuncData} (F : Fun K "_falling_product" "_falling_product" sfalling_product f fd) (T : Txt K mg) {π : Around → Prop} (sπ : Stb π) : FnP π P w K mg base CX0 1 f fd ["top", "low"] (SpF (pC qI (pC qI p0)).ra qI m_falling_product) := by
  refine fn_okF (p := (pC qI (pC qI p0))) (m := w_falling_product) (pn := (fun z _ => nomatch z)) (pl := fun _ _ => []) (env := fun a => [.im qI a.1, .im qI a.2.1, .un, .un]) 2 sπ F scfalling_product rfl rfl (fun _ => rfl) ?hb ?hg
  case hb =>
    intro cdv A outer s H E hp hr C a hA
    unfold w_falling_product
    exact (xs_set (i := 2) xe_int (fun v1 => (xs_for (s0 := v1) (up := (uN 3 qI)) (pt := fun (s3 : Int) g => [.im qI a.1, .im qI a.2.1, .im qI s3, .un]) PassesOwn.never rfl (xi_rng1 (by rfl) T.range (xe_var (pv 1))) (xg_name (pg_name (i := 3) scfalling_product.nd rfl (by first | exact .inl rfl | exact .inr rfl))) (fun _ => (.keep (.keep (.keep (.keep .nil))))) (fun s3 x4 => (xs_set (i := 2) (xe_mul (xe_var (pv 2)) (xe_sub (xe_var (pv 0)) (xe_var (pv 3)))) (fun v5 => (xs_nil (fun _ => (.keep (.keep (.keep (.drop .nil))))))) scfalling_product.nd rfl (.inl rfl) rfl rfl)) (fun s3 => (xs_ret (xe_var (pv 2)))))) scfalling_product.nd rfl (.inl rfl) rfl rfl)
  case hg =>
    intro a
    simp only [m_falling_product, o_falling_product, w_falling_product, ofO_rt, ofO_rtN, ofO_bind, ofO_some, ofO_if, ofO_up, ofO_lc, ofO_lca, ofO_lc2, ofO_for, ofO_while, ofO_bindF, ofO_no, ofO_optM]
abbrev sfactorial : Stmt := top 29
abbrev Nfactorial : List Str := ["number"]
theorem scfactorial : FnScope ["number"] ["number"] (defScope sfactorial) := ⟨rfl, rfl, rfl, by decide +kernel, rfl, by decide +kernel, by decide +kernel⟩
def w_factorial (a : Int × Unit) : W (Fl Int Empty Unit) :=
  ((((W.ret a.1).bind fun x5 => (((W.ret (0 : Int)).bind fun x3 => (((W.ret (1000 : Int)).bind fun x1 => ((W.ret ()).bind fun y2 => (W.ret (x1, y2)))).bind fun y4 => (W.ret (x3, y4)))).bind fun y6 => (W.ret (x5, y6)))).bind fun a7 => (ofO (m_check_count a7))).bind fun _v8 => ((((W.ret a.1).bind fun x11 => (((W.ret a.1).bind fun x9 => ((W.ret ()).bind fun y10 => (W.ret (x9, y10)))).bind fun y12 => (W.ret (x11, y12)))).bind fun a13 => (ofO (m_falling_product a13))).bind fun x14 => (W.ret (Fl.rt x14))))
def o_factorial (a : Int × Unit) : Option (Fl Int Empty Unit) :=
  ((((some a.1).bind fun x5 => (((some (0 : Int)).bind fun x3 => (((some (1000 : Int)).bind fun x1 => ((some ()).bind fun y2 => (some (x1, y2)))).bind fun y4 => (some (x3, y4)))).bind fun y6 => (some (x5, y6)))).bind fun a7 => (m_check_count a7)).bind fun _v8 => ((((some a.1).bind fun x11 => (((some a.1).bind fun x9 => ((some ()).bind fun y10 => (some (x9, y10)))).bind fun y12 => (some (x11, y12)))).bind fun a13 => (m_falling_product a13)).bind fun x14 => (some (Fl.rt x14))))
def m_factorial (a : Int × Unit) : Option Int := rtO (o_factorial a)
theorem k_factorial {f : Addr} {fd : FuncData} (F : Fun K "factorial" "factorial" sfactorial f fd) (T : Txt K mg) {π : Around → Prop} (sπ : Stb π) (h_check_count : Has P w K mg base π "check_count" 4 ["value", "low", "high"] (SpF (pC qI (pC qI (pC qI p0))).ra qN m_check_count)) (h_falling_product : Has P w K mg base π "_falling_product" 1 ["top", "low"] (SpF (pC qI (pC qI p0)).ra qI m_falling_product)) : FnP π P w K mg base CX0 5 f fd ["number"] (SpF (pC qI p0).ra qI m_factorial) := by
  refine fn_okF (p := (pC qI p0)) (m := w_factorial) (pn := (fun z _ => nomatch z)) (pl := fun _ _ => []) (env := fun a => [.im qI a.1]) 0 sπ F scfactorial rfl rfl (fun _ => rfl) ?hb ?hg
  case hb =>
    intro cdv A outer s H E hp hr C a hA
    unfold w_factorial
    exact (xs_exp (xe_callH h_check_count hp hr (by decide) (by rfl) (xa_cons (xe_var (pv 0)) (xa_cons xe_int (xa_cons (xe_gintE (by rfl) T.MAX_CHOSEN_) xa_nil)))) (fun _v8 => (xs_ret (xe_callH h_falling_product hp hr (by decide) (by rfl) (xa_cons (xe_var (pv 0)) (xa_cons (xe_var (pv 0)) xa_nil))))))
  case hg =>
    intro a
    simp only [m_factorial, o_factorial, w_factorial, ofO_rt, ofO_rtN, ofO_bind, ofO_some, ofO_if, ofO_up, ofO_lc, ofO_lca, ofO_lc2, ofO_for, ofO_while, ofO_bindF, ofO_no, ofO_optM]
abbrev slaw_factorial : Stmt := top 44
abbrev Nlaw_factorial : List Str := ["_law_number", "_law_found", "_law_step"]
theorem sclaw_factorial : FnScope ["_law_number", "_law_found", "_law_step"] ["_law_number"] (defScope slaw_factorial) := ⟨rfl, rfl, rfl, by decide +kernel, rfl, by decide +kernel, by decide +kernel⟩
def w_law_factorial (a : Int × Unit) : W (Fl Int Empty Unit) :=
  ((W.ret (1 : Int)).bind fun (v1 : Int) => (((W.ret (2 : Int)).bind fun i4 => (((W.ret a.1).bind fun p2 => ((W.ret (1 : Int)).bind fun q3 => (W.ret (p2 + q3)))).bind fun j5 => (ofO (rngC i4 j5)))).bind fun xs12 => bindF (forL (fun (s6 : Int) (x7 : Int) => (((W.ret s6).bind fun p9 => ((W.ret x7).bind fun q10 => (ofO (mulC p9 q10)))).bind fun (v8 : Int) => (W.ret (Fl.nx v8)))) xs12 v1) (fun (s6 : Int) => ((W.ret s6).bind fun x11 => (W.ret (Fl.rt x11))))))
def o_law_factorial (a : Int × Unit) : Option (Fl Int Empty Unit) :=
  ((some (1 : Int)).bind fun (v1 : Int) => (((some (2 : Int)).bind fun i4 => (((some a.1).bind fun p2 => ((some (1 : Int)).bind fun q3 => (some (p2 + q3)))).bind fun j5 => (rngC i4 j5))).bind fun xs12 => bindFO (forO (fun (s6 : Int) (x7 : Int) => (((some s6).bind fun p9 => ((some x7).bind fun q10 => (mulC p9 q10))).bind fun (v8 : Int) => (some (Fl.nx v8)))) xs12 v1) (fun (s6 : Int) => ((some s6).bind fun x11 => (some (Fl.rt x11))))))
def m_law_factorial (a : Int × Unit) : Option Int := rtO (o_law_factorial a)
theorem k_law_factorial {f : Addr} {fd : FuncData} (F : Fun K "_law_factorial" "_law_factorial" slaw_factorial f fd) (T : Txt K mg) {π : Around → Prop} (sπ : Stb π) : FnP π P w K mg base CX0 1 f fd ["_law_number"] (SpF (pC qI p0).ra qI m_law_factorial) := by
  refine fn_okF (p := (pC qI p0)) (m := w_law_factorial) (pn := (fun z _ => nomatch z)) (pl := fun _ _ => []) (env := fun a => [.im qI a.1, .un, .un]) 2 sπ F sclaw_factorial rfl rfl (fun _ => rfl) ?hb ?hg
  case hb =>
    intro cdv A outer s H E hp hr C a hA
    unfold w_law_factorial
    exact (xs_set (i := 1) xe_int (fun v1 => (xs_for (s0 := v1) (up := (uN 2 qI)) (pt := fun (s6 : Int) g => [.im qI a.1, .im qI s6, .un]) PassesOwn.never rfl (xi_rng2 (by rfl) T.range xe_int (xe_add (xe_var (pv 0)) xe_int)) (xg_name (pg_name (i := 2) sclaw_factorial.nd rfl (by first | exact .inl rfl | exact .inr rfl))) (fun _ => (.keep (.keep (.keep .nil)))) (fun s6 x7 => (xs_set (i := 1) (xe_mul (xe_var (pv 1)) (xe_var (pv 2))) (fun v8 => (xs_nil (fun _ => (.keep (.keep (.drop .nil)))))) sclaw_factorial.nd rfl (.inl rfl) rfl rfl)) (fun s6 => (xs_ret (xe_var (pv 1)))))) sclaw_factorial.nd rfl (.inl rfl) rfl rfl)
  case hg =>
    intro a
    simp only [m_law_factorial, o_law_factorial, w_law_factorial, ofO_rt, ofO_rtN, ofO_bind, ofO_some, ofO_if, ofO_up, ofO_lc, ofO_lca, ofO_lc2, ofO_for, ofO_while, ofO_bindF, ofO_no, ofO_optM]
abbrev sbinomial : Stmt := top 30
abbrev Nbinomial : List Str := ["top", "low"]
theorem scbinomial : FnScope ["top", "low"] ["top", "low"] (defScope sbinomial) := ⟨rfl, rfl, rfl, by decide +kernel, rfl, by decide +kernel, by decide +kernel⟩
def w_binomial (a : Int × Int × Unit) : W (Fl Int Empty Unit) :=
  ((((W.ret a.1).bind fun x5 => (((W.ret (0 : Int)).bind fun x3 => (((W.ret (1000 : Int)).bind fun x1 => ((W.ret ()).bind fun y2 => (W.ret (x1, y2)))).bind fun y4 => (W.ret (x3, y4)))).bind fun y6 => (W.ret (x5, y6)))).bind fun a7 => (ofO (m_check_count a7))).bind fun _v8 => ((((W.ret a.2.1).bind fun x13 => (((W.ret (0 : Int)).bind fun x11 => (((W.ret (1000 : Int)).bind fun x9 => ((W.ret ()).bind fun y10 => (W.ret (x9, y10)))).bind fun y12 => (W.ret (x11, y12)))).bind fun y14 => (W.ret (x13, y14)))).bind fun a15 => (ofO (m_check_count a15))).bind fun _v16 => (((W.ret a.1).bind fun i17 => ((W.ret a.2.1).bind fun j18 => (ofO (combC i17 j18)))).bind fun x19 => (W.ret (Fl.rt x19)))))
def o_binomial (a : Int × Int × Unit) : Option (Fl Int Empty Unit) :=
  ((((some a.1).bind fun x5 => (((some (0 : Int)).bind fun x3 => (((some (1000 : Int)).bind fun x1 => ((some ()).bind fun y2 => (some (x1, y2)))).bind fun y4 => (some (x3, y4)))).bind fun y6 => (some (x5, y6)))).bind fun a7 => (m_check_count a7)).bind fun _v8 => ((((some a.2.1).bind fun x13 => (((some (0 : Int)).bind fun x11 => (((some (1000 : Int)).bind fun x9 => ((some ()).bind fun y10 => (some (x9, y10)))).bind fun y12 => (some (x11, y12)))).bind fun y14 => (some (x13, y14)))).bind fun a15 => (m_check_count a15)).bind fun _v16 => (((some a.1).bind fun i17 => ((some a.2.1).bind fun j18 => (combC i17 j18))).bind fun x19 => (some (Fl.rt x19)))))
def m_binomial (a : Int × Int × Unit) : Option Int := rtO (o_binomial a)
theorem k_binomial {f : Addr} {fd : FuncData} (F : Fun K "binomial" "binomial" sbinomial f fd) (T : Txt K mg) {π : Around → Prop} (sπ : Stb π) (h_check_count : Has P w K mg base π "check_count" 4 ["value", "low", "high"] (SpF (pC qI (pC qI (pC qI p0))).ra qN m_check_count)) : FnP π P w K mg base CX0 5 f fd ["top", "low"] (SpF (pC qI (pC qI p0)).ra qI m_binomial) := by
  refine fn_okF (p := (pC qI (pC qI p0))) (m := w_binomial) (pn := (fun z _ => nomatch z)) (pl := fun _ _ => []) (env := fun a => [.im qI a.1, .im qI a.2.1]) 0 sπ F scbinomial rfl rfl (fun _ => rfl) ?hb ?hg
  case hb =>
    intro cdv A outer s H E hp hr C a hA
    unfold w_binomial
    exact (xs_exp (xe_callH h_check_count hp hr (by decide) (by rfl) (xa_cons (xe_var (pv 0)) (xa_cons xe_int (xa_cons (xe_gintE (by rfl) T.MAX_CHOSEN_) xa_nil)))) (fun _v8 => (xs_exp (xe_callH h_check_count hp hr (by decide) (by rfl) (xa_cons (xe_var (pv 1)) (xa_cons xe_int (xa_cons (xe_gintE (by rfl) T.MAX_CHOSEN_) xa_nil)))) (fun _v16 => (xs_ret (xe_comb (by rfl) T.comb_m (xe_var (pv 0)) (xe_var (pv 1))))))))
  case hg =>
    intro a
    simp only [m_binomial, o_binomial, w_binomial, ofO_rt, ofO_rtN, ofO_bind, ofO_some, ofO_if, ofO_up, ofO_lc, ofO_lca, ofO_lc2, ofO_for, ofO_while, ofO_bindF, ofO_no, ofO_optM]
abbrev slaw_binomial : Stmt := top 45
abbrev Nlaw_binomial : List Str := ["_law_top", "_law_low", "_law_found", "_law_step"]
theorem sclaw_binomial : FnScope ["_law_top", "_law_low", "_law_found", "_law_step"] ["_law_top", "_law_low"] (defScope slaw_binomial) := ⟨rfl, rfl, rfl, by decide +kernel, rfl, by decide +kernel, by decide +kernel⟩
def w_law_binomial (a : Int × Int × Unit) : W (Fl Int Empty Unit) :=
  ((W.ret (1 : Int)).bind fun (v1 : Int) => (((W.ret a.2.1).bind fun i2 => (ofO (rngC 0 i2))).bind fun xs15 => bindF (forL (fun (s3 : Int) (x4 : Int) => ((((W.ret s3).bind fun p8 => (((W.ret a.1).bind fun p6 => ((W.ret x4).bind fun q7 => (W.ret (p6 - q7)))).bind fun q9 => (ofO (mulC p8 q9)))).bind fun p12 => (((W.ret x4).bind fun p10 => ((W.ret (1 : Int)).bind fun q11 => (W.ret (p10 + q11)))).bind fun q13 => (ofO (divC p12 q13)))).bind fun (v5 : Int) => (W.ret (Fl.nx v5)))) xs15 v1) (fun (s3 : Int) => ((W.ret s3).bind fun x14 => (W.ret (Fl.rt x14))))))
def o_law_binomial (a : Int × Int × Unit) : Option (Fl Int Empty Unit) :=
  ((some (1 : Int)).bind fun (v1 : Int) => (((some a.2.1).bind fun i2 => (rngC 0 i2)).bind fun xs15 => bindFO (forO (fun (s3 : Int) (x4 : Int) => ((((some s3).bind fun p8 => (((some a.1).bind fun p6 => ((some x4).bind fun q7 => (some (p6 - q7)))).bind fun q9 => (mulC p8 q9))).bind fun p12 => (((some x4).bind fun p10 => ((some (1 : Int)).bind fun q11 => (some (p10 + q11)))).bind fun q13 => (divC p12 q13))).bind fun (v5 : Int) => (some (Fl.nx v5)))) xs15 v1) (fun (s3 : Int) => ((some s3).bind fun x14 => (some (Fl.rt x14))))))
def m_law_binomial (a : Int × Int × Unit) : Option Int := rtO (o_law_binomial a)
theorem k_law_binomial {f : Addr} {fd : FuncData} (F : Fun K "_law_binomial" "_law_binomial" slaw_binomial f fd) (T : Txt K mg) {π : Around → Prop} (sπ : Stb π) : FnP π P w K mg base CX0 1 f fd ["_law_top", "_law_low"] (SpF (pC qI (pC qI p0)).ra qI m_law_binomial) := by
  refine fn_okF (p := (pC qI (pC qI p0))) (m := w_law_binomial) (pn := (fun z _ => nomatch z)) (pl := fun _ _ => []) (env := fun a => [.im qI a.1, .im qI a.2.1, .un, .un]) 2 sπ F sclaw_binomial rfl rfl (fun _ => rfl) ?hb ?hg
  case hb =>
    intro cdv A outer s H E hp hr C a hA
    unfold w_law_binomial
    exact (xs_set (i := 2) xe_int (fun v1 => (xs_for (s0 := v1) (up := (uN 3 qI)) (pt := fun (s3 : Int) g => [.im qI a.1, .im qI a.2.1, .im qI s3, .un]) PassesOwn.never rfl (xi_rng1 (by rfl) T.range (xe_var (pv 1))) (xg_name (pg_name (i := 3) sclaw_binomial.nd rfl (by first | exact .inl rfl | exact .inr rfl))) (fun _ => (.keep (.keep (.keep (.keep .nil))))) (fun s3 x4 => (xs_set (i := 2) (xe_fdiv (xe_mul (xe_var (pv 2)) (xe_sub (xe_var (pv 0)) (xe_var (pv 3)))) (xe_add (xe_var (pv 3)) xe_int)) (fun v5 => (xs_nil (fun _ => (.keep (.keep (.keep (.drop .nil))))))) sclaw_binomial.nd rfl (.inl rfl) rfl rfl)) (fun s3 => (xs_ret (xe_var (pv 2)))))) sclaw_binomial.nd rfl (.inl rfl) rfl rfl)
  case hg =>
    intro a
    simp only [m_law_binomial, o_law_binomial, w_law_binomial, ofO_rt, ofO_rtN, ofO_bind, ofO_some, ofO_if, ofO_up, ofO_lc, ofO_lca, ofO_lc2, ofO_for, ofO_while, ofO_bindF, ofO_no, ofO_optM]
abbrev scheck_integer : Stmt := top 17
abbrev Ncheck_integer : List Str := ["value"]
theorem sccheck_integer : FnScope ["value"] ["value"] (defScope scheck_integer) := ⟨rfl, rfl, rfl, by decide +kernel, rfl, by decide +kernel, by decide +kernel⟩
def w_check_integer (a : Int × Unit) : W (Fl Unit Unit Unit) :=
  ((((((W.ret a.1).bind fun x1 => (W.ret (eI.enc x1))).bind fun x2 => ((W.ret ()).bind fun y3 => (W.ret (x2, y3)))).bind fun a4 => (ofO (m_is_integer a4))).bind fun b5 => (W.ret (!b5))).bind fun b6 => (if b6 = true then upF W.no else (W.ret (Fl.nx ()))))
def o_check_integer (a : Int × Unit) : Option (Fl Unit Unit Unit) :=
  ((((((some a.1).bind fun x1 => (some (eI.enc x1))).bind fun x2 => ((some ()).bind fun y3 => (some (x2, y3)))).bind fun a4 => (m_is_integer a4)).bind fun b5 => (some (!b5))).bind fun b6 => (if b6 = true then upO none else (some (Fl.nx ()))))
def m_check_integer (a : Int × Unit) : Option Unit := rtNO (o_check_integer a)
theorem k_check_integer {f : Addr} {fd : FuncData} (F : Fun K "check_integer" "check_integer" scheck_integer f fd) (T : Txt K mg) {π : Around → Prop} (sπ : Stb π) (h_is_integer : Has P w K mg base π "is_integer" 2 ["value"] (SpF (pC qV p0).ra qB m_is_integer)) : FnP π P w K mg base CX0 3 f fd ["value"] (SpF (pC qI p0).ra qN m_check_integer) := by
  refine fn_okN (p := (pC qI p0)) (m := w_check_integer) (pn := (fun _ g => [.un])) (pl := fun _ _ => []) (env := fun a => [.im qI a.1]) 0 sπ F sccheck_integer rfl rfl (fun _ => rfl) ?hb ?hg
  case hb =>
    intro cdv A outer s H E hp hr C a hA
    unfold w_check_integer
    exact (xs_ifx (xt_not (xt_val (xe_callH h_is_integer hp hr (by decide) (by rfl) (xa_cons (xe_enc eI (xe_var (pv 0))) xa_nil)))) xs_never (xs_nil (fun _ => (.drop .nil))))
  case hg =>
    intro a
    simp only [m_check_integer, o_check_integer, w_check_integer, ofO_rt, ofO_rtN, ofO_bind, ofO_some, ofO_if, ofO_up, ofO_lc, ofO_lca, ofO_lc2, ofO_for, ofO_while, ofO_bindF, ofO_no, ofO_optM]
abbrev sfalling : Stmt := top 31
abbrev Nfalling : List Str := ["top", "low"]
theorem scfalling : FnScope ["top", "low"] ["top", "low"] (defScope sfalling) := ⟨rfl, rfl, rfl, by decide +kernel, rfl, by decide +kernel, by decide +kernel⟩
def w_falling (a : Int × Int × Unit) : W (Fl Int Empty Unit) :=
  ((((W.ret a.1).bind fun x1 => ((W.ret ()).bind fun y2 => (W.ret (x1, y2)))).bind fun a3 => (ofO (m_check_integer a3))).bind fun _v4 => ((((W.ret a.2.1).bind fun x9 => (((W.ret (0 : Int)).bind fun x7 => (((W.ret (1000 : Int)).bind fun x5 => ((W.ret ()).bind fun y6 => (W.ret (x5, y6)))).bind fun y8 => (W.ret (x7, y8)))).bind fun y10 => (W.ret (x9, y10)))).bind fun a11 => (ofO (m_check_count a11))).bind fun _v12 => ((((W.ret a.1).bind fun x15 => (((W.ret a.2.1).bind fun x13 => ((W.ret ()).bind fun y14 => (W.ret (x13, y14)))).bind fun y16 => (W.ret (x15, y16)))).bind fun a17 => (ofO (m_falling_product a17))).bind fun x18 => (W.ret (Fl.rt x18)))))
def o_falling (a : Int × Int × Unit) : Option (Fl Int Empty Unit) :=
  ((((some a.1).bind fun x1 => ((some ()).bind fun y2 => (some (x1, y2)))).bind fun a3 => (m_check_integer a3)).bind fun _v4 => ((((some a.2.1).bind fun x9 => (((some (0 : Int)).bind fun x7 => (((some (1000 : Int)).bind fun x5 => ((some ()).bind fun y6 => (some (x5, y6)))).bind fun y8 => (some (x7, y8)))).bind fun y10 => (some (x9, y10)))).bind fun a11 => (m_check_count a11)).bind fun _v12 => ((((some a.1).bind fun x15 => (((some a.2.1).bind fun x13 => ((some ()).bind fun y14 => (some (x13, y14)))).bind fun y16 => (some (x15, y16)))).bind fun a17 => (m_falling_product a17)).bind fun x18 => (some (Fl.rt x18)))))
def m_falling (a : Int × Int × Unit) : Option Int := rtO (o_falling a)
theorem k_falling {f : Addr} {fd : FuncData} (F : Fun K "falling" "falling" sfalling f fd) (T : Txt K mg) {π : Around → Prop} (sπ : Stb π) (h_check_count : Has P w K mg base π "check_count" 4 ["value", "low", "high"] (SpF (pC qI (pC qI (pC qI p0))).ra qN m_check_count)) (h_check_integer : Has P w K mg base π "check_integer" 3 ["value"] (SpF (pC qI p0).ra qN m_check_integer)) (h_falling_product : Has P w K mg base π "_falling_product" 1 ["top", "low"] (SpF (pC qI (pC qI p0)).ra qI m_falling_product)) : FnP π P w K mg base CX0 5 f fd ["top", "low"] (SpF (pC qI (pC qI p0)).ra qI m_falling) := by
  refine fn_okF (p := (pC qI (pC qI p0))) (m := w_falling) (pn := (fun z _ => nomatch z)) (pl := fun _ _ => []) (env := fun a => [.im qI a.1, .im qI a.2.1]) 0 sπ F scfalling rfl rfl (fun _ => rfl) ?hb ?hg
  case hb =>
    intro cdv A outer s H E hp hr C a hA
    unfold w_falling
    exact (xs_exp (xe_callH h_check_integer hp hr (by decide) (by rfl) (xa_cons (xe_var (pv 0)) xa_nil)) (fun _v4 => (xs_exp (xe_callH h_check_count hp hr (by decide) (by rfl) (xa_cons (xe_var (pv 1)) (xa_cons xe_int (xa_cons (xe_gintE (by rfl) T.MAX_CHOSEN_) xa_nil)))) (fun _v12 => (xs_ret (xe_callH h_falling_product hp hr (by decide) (by rfl) (xa_cons (xe_var (pv 0)) (xa_cons (xe_var (pv 1)) xa_nil))))))))
  case hg =>
    intro a
    simp only [m_falling, o_falling, w_falling, ofO_rt, ofO_rtN, ofO_bind, ofO_some, ofO_if, ofO_up, ofO_lc, ofO_lca, ofO_lc2, ofO_for, ofO_while, ofO_bindF, ofO_no, ofO_optM]
abbrev slaw_falling : Stmt := top 51
abbrev Nlaw_falling : List Str := ["_law_top", "_law_low", "_law_found", "_law_step"]
theorem sclaw_falling : FnScope ["_law_top", "_law_low", "_law_found", "_law_step"] ["_law_top", "_law_low"] (defScope slaw_falling) := ⟨rfl, rfl, rfl, by decide +kernel, rfl, by decide +kernel, by decide +kernel⟩
def w_law_falling (a : Int × Int × Unit) : W (Fl Int Empty Unit) :=
  ((W.ret (1 : Int)).bind fun (v1 : Int) => (((W.ret a.2.1).bind fun i2 => (ofO (rngC 0 i2))).bind fun xs11 => bindF (forL (fun (s3 : Int) (x4 : Int) => (((W.ret s3).bind fun p8 => (((W.ret a.1).bind fun p6 => ((W.ret x4).bind fun q7 => (W.ret (p6 - q7)))).bind fun q9 => (ofO (mulC p8 q9)))).bind fun (v5 : Int) => (W.ret (Fl.nx v5)))) xs11 v1) (fun (s3 : Int) => ((W.ret s3).bind fun x10 => (W.ret (Fl.rt x10))))))
def o_law_falling (a : Int × Int × Unit) : Option (Fl Int Empty Unit) :=
  ((some (1 : Int)).bind fun (v1 : Int) => (((some a.2.1).bind fun i2 => (rngC 0 i2)).bind fun xs11 => bindFO (forO (fun (s3 : Int) (x4 : Int) => (((some s3).bind fun p8 => (((some a.1).bind fun p6 => ((some x4).bind fun q7 => (some (p6 - q7)))).bind fun q9 => (mulC p8 q9))).bind fun (v5 : Int) => (some (Fl.nx v5)))) xs11 v1) (fun (s3 : Int) => ((some s3).bind fun x10 => (some (Fl.rt x10))))))
def m_law_falling (a : Int × Int × Unit) : Option Int := rtO (o_law_falling a)
theorem k_law_falling {f : Addr} {fd : FuncData} (F : Fun K "_law_falling" "_law_falling" slaw_falling f fd) (T : Txt K mg) {π : Around → Prop} (sπ : Stb π) : FnP π P w K mg base CX0 1 f fd ["_law_top", "_law_low"] (SpF (pC qI (pC qI p0)).ra qI m_law_falling) := by
  refine fn_okF (p := (pC qI (pC qI p0))) (m := w_law_falling) (pn := (fun z _ => nomatch z)) (pl := fun _ _ => []) (env := fun a => [.im qI a.1, .im qI a.2.1, .un, .un]) 2 sπ F sclaw_falling rfl rfl (fun _ => rfl) ?hb ?hg
  case hb =>
    intro cdv A outer s H E hp hr C a hA
    unfold w_law_falling
    exact (xs_set (i := 2) xe_int (fun v1 => (xs_for (s0 := v1) (up := (uN 3 qI)) (pt := fun (s3 : Int) g => [.im qI a.1, .im qI a.2.1, .im qI s3, .un]) PassesOwn.never rfl (xi_rng1 (by rfl) T.range (xe_var (pv 1))) (xg_name (pg_name (i := 3) sclaw_falling.nd rfl (by first | exact .inl rfl | exact .inr rfl))) (fun _ => (.keep (.keep (.keep (.keep .nil))))) (fun s3 x4 => (xs_set (i := 2) (xe_mul (xe_var (pv 2)) (xe_sub (xe_var (pv 0)) (xe_var (pv 3)))) (fun v5 => (xs_nil (fun _ => (.keep (.keep (.keep (.drop .nil))))))) sclaw_falling.nd rfl (.inl rfl) rfl rfl)) (fun s3 => (xs_ret (xe_var (pv 2)))))) sclaw_falling.nd rfl (.inl rfl) rfl rfl)
  case hg =>
    intro a
    simp only [m_law_falling, o_law_falling, w_law_falling, ofO_rt, ofO_rtN, ofO_bind, ofO_some, ofO_if, ofO_up, ofO_lc, ofO_lca, ofO_lc2, ofO_for, ofO_while, ofO_bindF, ofO_no, ofO_optM]
abbrev slaw_counts_right : Stmt := top 52
abbrev Nlaw_counts_right : List Str := ["_law_dice_here", "_law_wild", "_law_top", "_law_low"]
theorem sclaw_counts_right : FnScope ["_law_dice_here", "_law_wild", "_law_top", "_law_low"] ["_law_dice_here"] (defScope slaw_counts_right) := ⟨rfl, rfl, rfl, by decide +kernel, rfl, by decide +kernel, by decide +kernel⟩
def w_law_counts_right (a : Unit) : W (Fl Bool Empty Unit) :=
  ((((((((W.ret (6 : Int)).bind fun x7 => (((W.ret (30 : Int)).bind fun x5 => (((W.ret (301 : Int)).bind fun x3 => ((W.ret []).bind fun y4 => (W.ret (x3 :: y4)))).bind fun y6 => (W.ret (x5 :: y6)))).bind fun y8 => (W.ret (x7 :: y8)))).bind fun x9 => (ofO (lenK x9))).bind fun x10 => ((W.ret ()).bind fun y11 => (W.ret (x10, y11)))).bind fun a12 => (m_law_pick a12)).bind fun x13 => ((W.ret ()).bind fun y14 => (W.ret (x13, y14)))).bind fun a15 => (m_law_roll a15)).bind fun (v1 : Int) => ((((((((W.ret (6 : Int)).bind fun x20 => (((W.ret (30 : Int)).bind fun x18 => (((W.ret (60 : Int)).bind fun x16 => ((W.ret []).bind fun y17 => (W.ret (x16 :: y17)))).bind fun y19 => (W.ret (x18 :: y19)))).bind fun y21 => (W.ret (x20 :: y21)))).bind fun x22 => (ofO (lenK x22))).bind fun x23 => ((W.ret ()).bind fun y24 => (W.ret (x23, y24)))).bind fun a25 => (m_law_pick a25)).bind fun x26 => ((W.ret ()).bind fun y27 => (W.ret (x26, y27)))).bind fun a28 => (m_law_roll a28)).bind fun (v2 : Int) => ((((((W.ret v1).bind fun x29 => ((W.ret ()).bind fun y30 => (W.ret (x29, y30)))).bind fun a31 => (ofO (m_factorial a31))).bind fun p35 => ((((W.ret v1).bind fun x32 => ((W.ret ()).bind fun y33 => (W.ret (x32, y33)))).bind fun a34 => (ofO (m_law_factorial a34))).bind fun q36 => (ofO (some (!decide (p35 = q36)))))).bind fun p52 => (if p52 = true then W.ret true else ((((W.ret v1).bind fun x39 => (((W.ret v2).bind fun x37 => ((W.ret ()).bind fun y38 => (W.ret (x37, y38)))).bind fun y40 => (W.ret (x39, y40)))).bind fun a41 => (ofO (m_binomial a41))).bind fun p50 => ((((W.ret v2).bind fun p42 => ((W.ret v1).bind fun q43 => (ofO (some (decide (p42 ≤ q43)))))).bind fun p49 => (if p49 = true then (((W.ret v1).bind fun x46 => (((W.ret v2).bind fun x44 => ((W.ret ()).bind fun y45 => (W.ret (x44, y45)))).bind fun y47 => (W.ret (x46, y47)))).bind fun a48 => (ofO (m_law_binomial a48))) else (W.ret (0 : Int)))).bind fun q51 => (ofO (some (!decide (p50 = q51)))))))).bind fun b53 => (if b53 = true then upF ((W.ret false).bind fun x54 => (W.ret (Fl.rt x54))) else ((((((W.ret v1).bind fun x74 => ((((W.ret (0 : Int)).bind fun p56 => ((W.ret v1).bind fun q57 => (W.ret (p56 - q57)))).bind fun x72 => (((((W.ret (10 : Int)).bind fun p58 => ((W.ret (50 : Int)).bind fun q59 => (ofO (powC p58 q59)))).bind fun p60 => ((W.ret v1).bind fun q61 => (W.ret (p60 + q61)))).bind fun x70 => (((((W.ret (0 : Int)).bind fun p64 => (((W.ret (10 : Int)).bind fun p62 => ((W.ret (20 : Int)).bind fun q63 => (ofO (powC p62 q63)))).bind fun q65 => (W.ret (p64 - q65)))).bind fun p66 => ((W.ret v1).bind fun q67 => (W.ret (p66 - q67)))).bind fun x68 => ((W.ret []).bind fun y69 => (W.ret (x68 :: y69)))).bind fun y71 => (W.ret (x70 :: y71)))).bind fun y73 => (W.ret (x72 :: y73)))).bind fun y75 => (W.ret (x74 :: y75)))).bind fun x76 => (ofO (lenK x76))).bind fun x77 => ((W.ret ()).bind fun y78 => (W.ret (x77, y78)))).bind fun a79 => (m_law_pick a79)).bind fun (v55 : Int) => ((((((W.ret v55).bind fun x82 => (((W.ret v2).bind fun x80 => ((W.ret ()).bind fun y81 => (W.ret (x80, y81)))).bind fun y83 => (W.ret (x82, y83)))).bind fun a84 => (ofO (m_falling a84))).bind fun p90 => ((((W.ret v55).bind fun x87 => (((W.ret v2).bind fun x85 => ((W.ret ()).bind fun y86 => (W.ret (x85, y86)))).bind fun y88 => (W.ret (x87, y88)))).bind fun a89 => (ofO (m_law_falling a89))).bind fun q91 => (ofO (some (!decide (p90 = q91)))))).bind fun p102 => (if p102 = true then W.ret true else ((((W.ret v2).bind fun x94 => (((W.ret v2).bind fun x92 => ((W.ret ()).bind fun y93 => (W.ret (x92, y93)))).bind fun y95 => (W.ret (x94, y95)))).bind fun a96 => (ofO (m_falling a96))).bind fun p100 => ((((W.ret v2).bind fun x97 => ((W.ret ()).bind fun y98 => (W.ret (x97, y98)))).bind fun a99 => (ofO (m_factorial a99))).bind fun q101 => (ofO (some (!decide (p100 = q101)))))))).bind fun b103 => (if b103 = true then upF ((W.ret false).bind fun x104 => (W.ret (Fl.rt x104))) else ((((((W.ret v1).bind fun x107 => (((W.ret v2).bind fun x105 => ((W.ret ()).bind fun y106 => (W.ret (x105, y106)))).bind fun y108 => (W.ret (x107, y108)))).bind fun a109 => (ofO (m_falling a109))).bind fun p120 => (((((W.ret v1).bind fun x112 => (((W.ret v2).bind fun x110 => ((W.ret ()).bind fun y111 => (W.ret (x110, y111)))).bind fun y113 => (W.ret (x112, y113)))).bind fun a114 => (ofO (m_binomial a114))).bind fun p118 => ((((W.ret v2).bind fun x115 => ((W.ret ()).bind fun y116 => (W.ret (x115, y116)))).bind fun a117 => (ofO (m_factorial a117))).bind fun q119 => (ofO (mulC p118 q119)))).bind fun q121 => (ofO (some (decide (p120 = q121)))))).bind fun p129 => (if p129 = true then ((((W.ret v1).bind fun x124 => (((W.ret (0 : Int)).bind fun x122 => ((W.ret ()).bind fun y123 => (W.ret (x122, y123)))).bind fun y125 => (W.ret (x124, y125)))).bind fun a126 => (ofO (m_falling a126))).bind fun p127 => ((W.ret (1 : Int)).bind fun q128 => (ofO (some (decide (p127 = q128)))))) else (W.ret false))).bind fun x130 => (W.ret (Fl.rt x130))))))))))
def m_law_counts_right (a : Unit) : W Bool := rtOf (w_law_counts_right a)
theorem k_law_counts_right {f : Addr} {fd : FuncData} (F : Fun K "_law_counts_right" "_law_counts_right" slaw_counts_right f fd) (T : Txt K mg) {π : Around → Prop} (sπ : Stb π) (h_binomial : Has P w K mg base π "binomial" 5 ["top", "low"] (SpF (pC qI (pC qI p0)).ra qI m_binomial)) (h_factorial : Has P w K mg base π "factorial" 5 ["number"] (SpF (pC qI p0).ra qI m_factorial)) (h_falling : Has P w K mg base π "falling" 5 ["top", "low"] (SpF (pC qI (pC qI p0)).ra qI m_falling)) (h_law_binomial : Has P w K mg base π "_law_binomial" 1 ["_law_top", "_law_low"] (SpF (pC qI (pC qI p0)).ra qI m_law_binomial)) (h_law_factorial : Has P w K mg base π "_law_factorial" 1 ["_law_number"] (SpF (pC qI p0).ra qI m_law_factorial)) (h_law_falling : Has P w K mg base π "_law_falling" 1 ["_law_top", "_law_low"] (SpF (pC qI (pC qI p0)).ra qI m_law_falling)) (h_law_pick : Has P w K mg base π "_law_pick" 2 ["_law_dice_here", "_law_items"] (SpD (pC (qL qI) p0).ra qI m_law_pick)) (h_law_roll : Has P w K mg base π "_law_roll" 1 ["_law_dice_here", "_law_total"] (SpD (pC qI p0).ra qI m_law_roll)) : FnP π P w K mg base CX0 6 f fd ["_law_dice_here"] (SpD p0.ra qB m_law_counts_right) := by
  refine fn_okD (p := p0) (m := w_law_counts_right) (pn := (fun z _ => nomatch z)) (pl := fun _ _ => []) (env := fun a => [.un, .un, .un]) 3 sπ F sclaw_counts_right rfl rfl (fun _ => rfl) ?hb ?hg
  case hb =>
    intro cdv A outer s H E hp hr C d a hA
    unfold w_law_counts_right
    exact (xs_par (env := fun g => [.iv d (oD g), .un, .un, .un]) (i := 2) (j := 3) (xe_callDH h_law_roll hp hr (by decide) (by rfl) (pv 0) (xa_cons (xe_callDH h_law_pick hp hr (by decide) (by rfl) (pv 0) (xa_cons (xe_N (xn_lst (xa_consL xe_int (xa_consL xe_int (xa_consL xe_int xa_nilL))))) xa_nil)) xa_nil)) (xe_callDH h_law_roll hp hr (by decide) (by rfl) (pv 0) (xa_cons (xe_callDH h_law_pick hp hr (by decide) (by rfl) (pv 0) (xa_cons (xe_N (xn_lst (xa_consL xe_int (xa_consL xe_int (xa_consL xe_int xa_nilL))))) xa_nil)) xa_nil)) (fun v1 v2 => (xs_ifx (PW.pt (xw_or (xt_cmpD cd_neI (xe_callH h_factorial hp hr (by decide) (by rfl) (xa_cons (xe_var (pv 2)) xa_nil)) (xe_callH h_law_factorial hp hr (by decide) (by rfl) (xa_cons (xe_var (pv 2)) xa_nil)) rfl) (xw_or1 (xt_cmpD cd_neI (xe_callH h_binomial hp hr (by decide) (by rfl) (xa_cons (xe_var (pv 2)) (xa_cons (xe_var (pv 3)) xa_nil))) (xe_if (xt_cmpD cd_le (xe_var (pv 3)) (xe_var (pv 2)) rfl) (xe_callH h_law_binomial hp hr (by decide) (by rfl) (xa_cons (xe_var (pv 2)) (xa_cons (xe_var (pv 3)) xa_nil))) xe_int) rfl)))) (xs_ret xe_bl) (xs_set (i := 1) (xe_callDH h_law_pick hp hr (by decide) (by rfl) (pv 0) (xa_cons (xe_N (xn_lst (xa_consL (xe_var (pv 2)) (xa_consL (xe_sub xe_int (xe_var (pv 2))) (xa_consL (xe_add (xe_pow xe_int xe_int) (xe_var (pv 2))) (xa_consL (xe_sub (xe_sub xe_int (xe_pow xe_int xe_int)) (xe_var (pv 2))) xa_nilL)))))) xa_nil)) (fun v55 => (xs_ifx (PW.pt (xw_or (xt_cmpD cd_neI (xe_callH h_falling hp hr (by decide) (by rfl) (xa_cons (xe_var (pv 1)) (xa_cons (xe_var (pv 3)) xa_nil))) (xe_callH h_law_falling hp hr (by decide) (by rfl) (xa_cons (xe_var (pv 1)) (xa_cons (xe_var (pv 3)) xa_nil))) rfl) (xw_or1 (xt_cmpD cd_neI (xe_callH h_falling hp hr (by decide) (by rfl) (xa_cons (xe_var (pv 3)) (xa_cons (xe_var (pv 3)) xa_nil))) (xe_callH h_factorial hp hr (by decide) (by rfl) (xa_cons (xe_var (pv 3)) xa_nil)) rfl)))) (xs_ret xe_bl) (xs_ret (xe_andB (xe_cmpD cd_eqI (xe_callH h_falling hp hr (by decide) (by rfl) (xa_cons (xe_var (pv 2)) (xa_cons (xe_var (pv 3)) xa_nil))) (xe_mul (xe_callH h_binomial hp hr (by decide) (by rfl) (xa_cons (xe_var (pv 2)) (xa_cons (xe_var (pv 3)) xa_nil))) (xe_callH h_factorial hp hr (by decide) (by rfl) (xa_cons (xe_var (pv 3)) xa_nil))) rfl) (xe_one (xe_cmpD cd_eqI (xe_callH h_falling hp hr (by decide) (by rfl) (xa_cons (xe_var (pv 2)) (xa_cons xe_int xa_nil))) xe_int rfl)))))) sclaw_counts_right.nd rfl (.inl rfl) rfl rfl))) rfl sclaw_counts_right.nd rfl rfl (by decide) rfl rfl rfl)
  case hg => exact fun _ => rfl
abbrev sis_name : Stmt := top 12
abbrev Nis_name : List Str := ["value", "letter"]
theorem scis_name : FnScope ["value", "letter"] ["value"] (defScope sis_name) := ⟨rfl, rfl, rfl, by decide +kernel, rfl, by decide +kernel, by decide +kernel⟩
def w_is_name (a : PyData × Unit) : W (Fl Bool Empty Unit) :=
  (((((W.ret a.1).bind fun x1 => (W.ret (isStrV x1))).bind fun b2 => (W.ret (!b2))).bind fun p10 => (if p10 = true then W.ret true else (((W.ret (1 : Int)).bind fun p5 => ((((W.ret a.1).bind fun x3 => (ofO (eS.dec x3))).bind fun x4 => (ofO (lenS x4))).bind fun q6 => ((ofO (some (decide (p5 ≤ q6)))).bind fun t8 => (if t8 = true then ((W.ret (8 : Int)).bind fun u7 => (ofO (some (decide (q6 ≤ u7))))) else W.ret false)))).bind fun b9 => (W.ret (!b9))))).bind fun b11 => (if b11 = true then upF ((W.ret false).bind fun x12 => (W.ret (Fl.rt x12))) else ((((((W.ret a.1).bind fun x13 => (ofO (eS.dec x13))).bind fun x14 => (ofO (signsC x14))).bind fun xs20 => (lcW (fun (x15 : Str) => (W.ret true)) (fun (x15 : Str) => ((W.ret ("a" : Str)).bind fun p16 => ((W.ret x15).bind fun q17 => ((ofO (some (!decide (q17.cps.toList < p16.cps.toList)))).bind fun t19 => (if t19 = true then ((W.ret ("z" : Str)).bind fun u18 => (ofO (some (!decide (u18.cps.toList < q17.cps.toList))))) else W.ret false))))) xs20)).bind fun x21 => (W.ret (x21.all id))).bind fun x22 => (W.ret (Fl.rt x22)))))
def o_is_name (a : PyData × Unit) : Option (Fl Bool Empty Unit) :=
  (((((some a.1).bind fun x1 => (some (isStrV x1))).bind fun b2 => (some (!b2))).bind fun p10 => (if p10 = true then some true else (((some (1 : Int)).bind fun p5 => ((((some a.1).bind fun x3 => (eS.dec x3)).bind fun x4 => (lenS x4)).bind fun q6 => ((some (decide (p5 ≤ q6))).bind fun t8 => (if t8 = true then ((some (8 : Int)).bind fun u7 => (some (decide (q6 ≤ u7)))) else some false)))).bind fun b9 => (some (!b9))))).bind fun b11 => (if b11 = true then upO ((some false).bind fun x12 => (some (Fl.rt x12))) else ((((((some a.1).bind fun x13 => (eS.dec x13)).bind fun x14 => (signsC x14)).bind fun xs20 => (lcO (fun (x15 : Str) => (some true)) (fun (x15 : Str) => ((some ("a" : Str)).bind fun p16 => ((some x15).bind fun q17 => ((some (!decide (q17.cps.toList < p16.cps.toList))).bind fun t19 => (if t19 = true then ((some ("z" : Str)).bind fun u18 => (some (!decide (u18.cps.toList < q17.cps.toList)))) else some false))))) xs20)).bind fun x21 => (some (x21.all id))).bind fun x22 => (some (Fl.rt x22)))))
def m_is_name (a : PyData × Unit) : Option Bool := rtO (o_is_name a)
theorem k_is_name {f : Addr} {fd : FuncData} (F : Fun K "is_name" "is_name" sis_name f fd) (T : Txt K mg) {π : Around → Prop} (sπ : Stb π) : FnP π P w K mg base CX0 1 f fd ["value"] (SpF (pC qV p0).ra qB m_is_name) := by
  refine fn_okF (p := (pC qV p0)) (m := w_is_name) (pn := (fun z _ => nomatch z)) (pl := fun _ _ => []) (env := fun a => [.im qV a.1, .un]) 1 sπ F scis_name rfl rfl (fun _ => rfl) ?hb ?hg
  case hb =>
    intro cdv A outer s H E hp hr C a hA
    unfold w_is_name
    exact (xs_ifx (PW.pt (xw_or (xt_not (xt_val (xe_isiV (f := isStrV) (n := "str") (by rfl) T.isinstance (xe_var (pv 0)) (by rfl) T.str (by decide +kernel) kStr))) (xw_or1 (xt_not (xt_chainD cd_le cd_le xe_int (xe_lenS (by rfl) T.len (xe_dec eS (xe_var (pv 0)))) (xe_gintE (by rfl) T.MAX_NAME_)))))) (xs_ret xe_bl) (xs_ret (xe_all rfl (by rfl) T.all (xq_im (xe_N (xn_lc (own := [("letter", 1)]) (up := (uN 1 qS)) rfl scis_name.nd (xi_str (xe_dec eS (xe_var (pv 0)))) (blkOk_by (N := Nis_name) (sc := defScope sis_name) (by decide +kernel)) rfl (fun _ => rfl) (fun _ _ _ _ _ => (xg_name (pg_name (i := 1) scis_name.nd rfl (by first | exact .inl rfl | exact .inr rfl)))) (fun _ _ _ _ _ _ x15 => xts_nil) (fun _ _ _ _ _ _ x15 => (xe_chainD cd_leS cd_leS xe_str (xe_var (pv 1)) xe_str))))))))
  case hg =>
    intro a
    simp only [m_is_name, o_is_name, w_is_name, ofO_rt, ofO_rtN, ofO_bind, ofO_some, ofO_if, ofO_up, ofO_lc, ofO_lca, ofO_lc2, ofO_for, ofO_while, ofO_bindF, ofO_no, ofO_optM]
abbrev slaw_judged_right : Stmt := top 53
abbrev Nlaw_judged_right : List Str := ["_law_dice_here", "_law_some", "_law_odd", "_law_good", "_law_bad", "_law_names", "_law_wrong", "_law_value", "_law_name"]
theorem sclaw_judged_right : FnScope ["_law_dice_here", "_law_some", "_law_odd", "_law_good", "_law_bad", "_law_names", "_law_wrong", "_law_value", "_law_name"] ["_law_dice_here"] (defScope slaw_judged_right) := ⟨rfl, rfl, rfl, by decide +kernel, rfl, by decide +kernel, by decide +kernel⟩
def w_law_judged_right (a : Unit) : W (Fl Bool Empty Unit) :=
  (((((W.ret (0 : Int)).bind fun x2 => (W.ret (eI.enc x2))).bind fun x21 => (((((W.ret (5 : Int)).bind fun p3 => (W.ret (-p3))).bind fun x4 => (W.ret (eI.enc x4))).bind fun x19 => ((((((W.ret (10 : Int)).bind fun p5 => ((W.ret (60 : Int)).bind fun q6 => (ofO (powC p5 q6)))).bind fun p7 => ((W.ret (1 : Int)).bind fun q8 => (W.ret (p7 - q8)))).bind fun x9 => (W.ret (eI.enc x9))).bind fun x17 => (((((W.ret (1 : Int)).bind fun p12 => (((W.ret (10 : Int)).bind fun p10 => ((W.ret (60 : Int)).bind fun q11 => (ofO (powC p10 q11)))).bind fun q13 => (W.ret (p12 - q13)))).bind fun x14 => (W.ret (eI.enc x14))).bind fun x15 => ((W.ret []).bind fun y16 => (W.ret (x15 :: y16)))).bind fun y18 => (W.ret (x17 :: y18)))).bind fun y20 => (W.ret (x19 :: y20)))).bind fun y22 => (W.ret (x21 :: y22)))).bind fun x23 => (ofO (lenK x23))).bind fun (v1 : (List PyData)) => (((((W.ret ()).bind fun x25 => (W.ret (eN.enc x25))).bind fun x56 => ((((W.ret true).bind fun x26 => (W.ret (eB.enc x26))).bind fun x54 => ((((W.ret ("5" : Str)).bind fun x27 => (W.ret (eS.enc x27))).bind fun x52 => (((((W.ret (5 : Int)).bind fun x28 => (W.ret [x28])).bind fun x29 => (W.ret ((eT eI).enc x29))).bind fun x50 => (((((W.ret (10 : Int)).bind fun p30 => ((W.ret (60 : Int)).bind fun q31 => (ofO (powC p30 q31)))).bind fun x32 => (W.ret (eI.enc x32))).bind fun x48 => (((((W.ret (0 : Int)).bind fun p35 => (((W.ret (10 : Int)).bind fun p33 => ((W.ret (60 : Int)).bind fun q34 => (ofO (powC p33 q34)))).bind fun q36 => (W.ret (p35 - q36)))).bind fun x37 => (W.ret (eI.enc x37))).bind fun x46 => ((((((W.ret (5 : Int)).bind fun x38 => ((W.ret []).bind fun y39 => (W.ret (x38 :: y39)))).bind fun x40 => (ofO (lenK x40))).bind fun x41 => (W.ret ((eL eI).enc x41))).bind fun x44 => (((W.ret (PyData.dict [])).bind fun x42 => ((W.ret []).bind fun y43 => (W.ret (x42 :: y43)))).bind fun y45 => (W.ret (x44 :: y45)))).bind fun y47 => (W.ret (x46 :: y47)))).bind fun y49 => (W.ret (x48 :: y49)))).bind fun y51 => (W.ret (x50 :: y51)))).bind fun y53 => (W.ret (x52 :: y53)))).bind fun y55 => (W.ret (x54 :: y55)))).bind fun y57 => (W.ret (x56 :: y57)))).bind fun x58 => (ofO (lenK x58))).bind fun (v24 : (List PyData)) => (((((((W.ret v1).bind fun xs64 => (lcW (fun (x59 : PyData) => ((((W.ret x59).bind fun x60 => ((W.ret ()).bind fun y61 => (W.ret (x60, y61)))).bind fun a62 => (ofO (m_is_integer a62))).bind fun b63 => (W.ret (!b63)))) (fun (x59 : PyData) => (W.ret x59)) xs64)).bind fun x67 => (W.ret ((eL eV).enc x67))).bind fun x68 => (ofO (cleanO x68))).bind fun p65 => ((((W.ret ([] : List PyData)).bind fun x69 => (W.ret ((eL eV).enc x69))).bind fun x70 => (ofO (cleanO x70))).bind fun q66 => (ofO ((eqC p65 q66).bind fun b => some !b)))).bind fun p82 => (if p82 = true then W.ret true else (((((W.ret v24).bind fun xs75 => (lcW (fun (x71 : PyData) => (((W.ret x71).bind fun x72 => ((W.ret ()).bind fun y73 => (W.ret (x72, y73)))).bind fun a74 => (ofO (m_is_integer a74)))) (fun (x71 : PyData) => (W.ret x71)) xs75)).bind fun x78 => (W.ret ((eL eV).enc x78))).bind fun x79 => (ofO (cleanO x79))).bind fun p76 => ((((W.ret ([] : List PyData)).bind fun x80 => (W.ret ((eL eV).enc x80))).bind fun x81 => (ofO (cleanO x81))).bind fun q77 => (ofO ((eqC p76 q77).bind fun b => some !b)))))).bind fun b83 => (if b83 = true then upF ((W.ret false).bind fun x84 => (W.ret (Fl.rt x84))) else ((((((W.ret (0 : Int)).bind fun x86 => ((W.ret (1 : Int)).bind fun x87 => (W.ret (x86, x87)))).bind fun x88 => (W.ret ((eP eI eI).enc x88))).bind fun x122 => (((((W.ret (1 : Int)).bind fun x89 => ((W.ret (2 : Int)).bind fun x90 => (W.ret (x89, x90)))).bind fun x91 => (W.ret ((eP eI eI).enc x91))).bind fun x120 => ((((((W.ret (3 : Int)).bind fun p92 => (W.ret (-p92))).bind fun x93 => ((W.ret (2 : Int)).bind fun x94 => (W.ret (x93, x94)))).bind fun x95 => (W.ret ((eP eI eI).enc x95))).bind fun x118 => (((((((W.ret (10 : Int)).bind fun p96 => ((W.ret (40 : Int)).bind fun q97 => (ofO (powC p96 q97)))).bind fun p100 => (((W.ret (10 : Int)).bind fun p98 => ((W.ret (40 : Int)).bind fun q99 => (ofO (powC p98 q99)))).bind fun q101 => (ofO (mulC p100 q101)))).bind fun x102 => ((W.ret (3 : Int)).bind fun x103 => (W.ret (x102, x103)))).bind fun x104 => (W.ret ((eP eI eI).enc x104))).bind fun x116 => (((((W.ret (7 : Int)).bind fun x111 => ((((W.ret (10 : Int)).bind fun p105 => ((W.ret (60 : Int)).bind fun q106 => (ofO (powC p105 q106)))).bind fun p109 => (((W.ret (10 : Int)).bind fun p107 => ((W.ret (15 : Int)).bind fun q108 => (ofO (powC p107 q108)))).bind fun q110 => (ofO (mulC p109 q110)))).bind fun x112 => (W.ret (x111, x112)))).bind fun x113 => (W.ret ((eP eI eI).enc x113))).bind fun x114 => ((W.ret []).bind fun y115 => (W.ret (x114 :: y115)))).bind fun y117 => (W.ret (x116 :: y117)))).bind fun y119 => (W.ret (x118 :: y119)))).bind fun y121 => (W.ret (x120 :: y121)))).bind fun y123 => (W.ret (x122 :: y123)))).bind fun x124 => (ofO (lenK x124))).bind fun (v85 : (List PyData)) => (((((W.ret ()).bind fun x126 => (W.ret (eN.enc x126))).bind fun x194 => ((((W.ret (5 : Int)).bind fun x127 => (W.ret (eI.enc x127))).bind fun x192 => (((((W.ret (2 : Int)).bind fun x128 => ((W.ret (4 : Int)).bind fun x129 => (W.ret (x128, x129)))).bind fun x130 => (W.ret ((eP eI eI).enc x130))).bind fun x190 => (((((W.ret (0 : Int)).bind fun x131 => ((W.ret (2 : Int)).bind fun x132 => (W.ret (x131, x132)))).bind fun x133 => (W.ret ((eP eI eI).enc x133))).bind fun x188 => (((((W.ret (1 : Int)).bind fun x135 => (((W.ret (2 : Int)).bind fun p134 => (W.ret (-p134))).bind fun x136 => (W.ret (x135, x136)))).bind fun x137 => (W.ret ((eP eI eI).enc x137))).bind fun x186 => (((((W.ret (1 : Int)).bind fun x138 => ((W.ret (0 : Int)).bind fun x139 => (W.ret (x138, x139)))).bind fun x140 => (W.ret ((eP eI eI).enc x140))).bind fun x184 => (((((W.ret (1 : Int)).bind fun x141 => (W.ret [x141])).bind fun x142 => (W.ret ((eT eI).enc x142))).bind fun x182 => (((((W.ret (1 : Int)).bind fun x143 => ((W.ret (2 : Int)).bind fun x144 => ((W.ret (3 : Int)).bind fun x145 => (W.ret (x143, x144, x145))))).bind fun x146 => (W.ret ((eP3 eI eI eI).enc x146))).bind fun x180 => ((((((W.ret (1 : Int)).bind fun x149 => (((W.ret (2 : Int)).bind fun x147 => ((W.ret []).bind fun y148 => (W.ret (x147 :: y148)))).bind fun y150 => (W.ret (x149 :: y150)))).bind fun x151 => (ofO (lenK x151))).bind fun x152 => (W.ret ((eL eI).enc x152))).bind fun x178 => (((((W.ret true).bind fun x153 => ((W.ret (2 : Int)).bind fun x154 => (W.ret (x153, x154)))).bind fun x155 => (W.ret ((eP eB eI).enc x155))).bind fun x176 => (((((W.ret (1 : Int)).bind fun x156 => ((W.ret true).bind fun x157 => (W.ret (x156, x157)))).bind fun x158 => (W.ret ((eP eI eB).enc x158))).bind fun x174 => (((((W.ret ("1" : Str)).bind fun x159 => ((W.ret (2 : Int)).bind fun x160 => (W.ret (x159, x160)))).bind fun x161 => (W.ret ((eP eS eI).enc x161))).bind fun x172 => ((((((W.ret (1 : Int)).bind fun x162 => ((W.ret (2 : Int)).bind fun x163 => (W.ret (x162, x163)))).bind fun x164 => ((W.ret (3 : Int)).bind fun x165 => (W.ret (x164, x165)))).bind fun x166 => (W.ret ((eP (eP eI eI) eI).enc x166))).bind fun x170 => ((((W.ret ("1/2" : Str)).bind fun x167 => (W.ret (eS.enc x167))).bind fun x168 => ((W.ret []).bind fun y169 => (W.ret (x168 :: y169)))).bind fun y171 => (W.ret (x170 :: y171)))).bind fun y173 => (W.ret (x172 :: y173)))).bind fun y175 => (W.ret (x174 :: y175)))).bind fun y177 => (W.ret (x176 :: y177)))).bind fun y179 => (W.ret (x178 :: y179)))).bind fun y181 => (W.ret (x180 :: y181)))).bind fun y183 => (W.ret (x182 :: y183)))).bind fun y185 => (W.ret (x184 :: y185)))).bind fun y187 => (W.ret (x186 :: y187)))).bind fun y189 => (W.ret (x188 :: y189)))).bind fun y191 => (W.ret (x190 :: y191)))).bind fun y193 => (W.ret (x192 :: y193)))).bind fun y195 => (W.ret (x194 :: y195)))).bind fun x196 => (ofO (lenK x196))).bind fun (v125 : (List PyData)) => (((((((W.ret v85).bind fun xs207 => (lcW (fun (x197 : PyData) => (((((W.ret x197).bind fun x198 => ((W.ret ()).bind fun y199 => (W.ret (x198, y199)))).bind fun a200 => (ofO (m_is_fraction a200))).bind fun b201 => (W.ret (!b201))).bind fun p206 => (if p206 = true then W.ret true else ((((W.ret x197).bind fun x202 => ((W.ret ()).bind fun y203 => (W.ret (x202, y203)))).bind fun a204 => (ofO (m_is_number a204))).bind fun b205 => (W.ret (!b205)))))) (fun (x197 : PyData) => (W.ret x197)) xs207)).bind fun x210 => (W.ret ((eL eV).enc x210))).bind fun x211 => (ofO (cleanO x211))).bind fun p208 => ((((W.ret ([] : List PyData)).bind fun x212 => (W.ret ((eL eV).enc x212))).bind fun x213 => (ofO (cleanO x213))).bind fun q209 => (ofO ((eqC p208 q209).bind fun b => some !b)))).bind fun p225 => (if p225 = true then W.ret true else (((((((W.ret (10 : Int)).bind fun p214 => ((W.ret (60 : Int)).bind fun q215 => (ofO (powC p214 q215)))).bind fun p218 => (((W.ret (10 : Int)).bind fun p216 => ((W.ret (30 : Int)).bind fun q217 => (ofO (powC p216 q217)))).bind fun q219 => (ofO (mulC p218 q219)))).bind fun x220 => (W.ret (eI.enc x220))).bind fun x221 => ((W.ret ()).bind fun y222 => (W.ret (x221, y222)))).bind fun a223 => (ofO (m_is_number a223))).bind fun b224 => (W.ret (!b224))))).bind fun b226 => (if b226 = true then upF ((W.ret false).bind fun x227 => (W.ret (Fl.rt x227))) else (((((((W.ret v125).bind fun xs232 => (lcW (fun (x228 : PyData) => (((W.ret x228).bind fun x229 => ((W.ret ()).bind fun y230 => (W.ret (x229, y230)))).bind fun a231 => (ofO (m_is_fraction a231)))) (fun (x228 : PyData) => (W.ret x228)) xs232)).bind fun x235 => (W.ret ((eL eV).enc x235))).bind fun x236 => (ofO (cleanO x236))).bind fun p233 => ((((W.ret ([] : List PyData)).bind fun x237 => (W.ret ((eL eV).enc x237))).bind fun x238 => (ofO (cleanO x238))).bind fun q234 => (ofO ((eqC p233 q234).bind fun b => some !b)))).bind fun p255 => (if p255 = true then W.ret true else (((((W.ret v125).bind fun xs248 => (lcW (fun (x239 : PyData) => ((((W.ret x239).bind fun x240 => ((W.ret ()).bind fun y241 => (W.ret (x240, y241)))).bind fun a242 => (ofO (m_is_number a242))).bind fun p247 => (if p247 = true then (((W.ret x239).bind fun x245 => (ofO (cleanO x245))).bind fun p243 => (((W.ret (5 : Int)).bind fun x246 => (W.ret (dI.d x246))).bind fun q244 => (ofO ((eqC p243 q244).bind fun b => some !b)))) else W.ret false))) (fun (x239 : PyData) => (W.ret x239)) xs248)).bind fun x251 => (W.ret ((eL eV).enc x251))).bind fun x252 => (ofO (cleanO x252))).bind fun p249 => ((((W.ret ([] : List PyData)).bind fun x253 => (W.ret ((eL eV).enc x253))).bind fun x254 => (ofO (cleanO x254))).bind fun q250 => (ofO ((eqC p249 q250).bind fun b => some !b)))))).bind fun b256 => (if b256 = true then upF ((W.ret false).bind fun x257 => (W.ret (Fl.rt x257))) else (((((W.ret ("a" : Str)).bind fun x259 => (W.ret (eS.enc x259))).bind fun x266 => ((((W.ret ("zz" : Str)).bind fun x260 => (W.ret (eS.enc x260))).bind fun x264 => ((((W.ret ("abcdefgh" : Str)).bind fun x261 => (W.ret (eS.enc x261))).bind fun x262 => ((W.ret []).bind fun y263 => (W.ret (x262 :: y263)))).bind fun y265 => (W.ret (x264 :: y265)))).bind fun y267 => (W.ret (x266 :: y267)))).bind fun x268 => (ofO (lenK x268))).bind fun (v258 : (List PyData)) => (((((W.ret ("" : Str)).bind fun x270 => (W.ret (eS.enc x270))).bind fun x302 => ((((W.ret ("abcdefghi" : Str)).bind fun x271 => (W.ret (eS.enc x271))).bind fun x300 => ((((W.ret ("A" : Str)).bind fun x272 => (W.ret (eS.enc x272))).bind fun x298 => ((((W.ret ("a1" : Str)).bind fun x273 => (W.ret (eS.enc x273))).bind fun x296 => ((((W.ret ("a b" : Str)).bind fun x274 => (W.ret (eS.enc x274))).bind fun x294 => ((((W.ret ()).bind fun x275 => (W.ret (eN.enc x275))).bind fun x292 => ((((W.ret (5 : Int)).bind fun x276 => (W.ret (eI.enc x276))).bind fun x290 => (((((W.ret ("a" : Str)).bind fun x277 => (W.ret [x277])).bind fun x278 => (W.ret ((eT eS).enc x278))).bind fun x288 => ((((((W.ret ("a" : Str)).bind fun x279 => ((W.ret []).bind fun y280 => (W.ret (x279 :: y280)))).bind fun x281 => (ofO (lenK x281))).bind fun x282 => (W.ret ((eL eS).enc x282))).bind fun x286 => ((((W.ret ("a_" : Str)).bind fun x283 => (W.ret (eS.enc x283))).bind fun x284 => ((W.ret []).bind fun y285 => (W.ret (x284 :: y285)))).bind fun y287 => (W.ret (x286 :: y287)))).bind fun y289 => (W.ret (x288 :: y289)))).bind fun y291 => (W.ret (x290 :: y291)))).bind fun y293 => (W.ret (x292 :: y293)))).bind fun y295 => (W.ret (x294 :: y295)))).bind fun y297 => (W.ret (x296 :: y297)))).bind fun y299 => (W.ret (x298 :: y299)))).bind fun y301 => (W.ret (x300 :: y301)))).bind fun y303 => (W.ret (x302 :: y303)))).bind fun x304 => (ofO (lenK x304))).bind fun (v269 : (List PyData)) => (((((((W.ret v258).bind fun xs310 => (lcW (fun (x305 : PyData) => ((((W.ret x305).bind fun x306 => ((W.ret ()).bind fun y307 => (W.ret (x306, y307)))).bind fun a308 => (ofO (m_is_name a308))).bind fun b309 => (W.ret (!b309)))) (fun (x305 : PyData) => (W.ret x305)) xs310)).bind fun x313 => (W.ret ((eL eV).enc x313))).bind fun x314 => (ofO (cleanO x314))).bind fun p311 => ((((W.ret ([] : List PyData)).bind fun x315 => (W.ret ((eL eV).enc x315))).bind fun x316 => (ofO (cleanO x316))).bind fun q312 => (ofO (eqC p311 q312)))).bind fun p334 => (if p334 = true then ((((((W.ret v269).bind fun xs321 => (lcW (fun (x317 : PyData) => (((W.ret x317).bind fun x318 => ((W.ret ()).bind fun y319 => (W.ret (x318, y319)))).bind fun a320 => (ofO (m_is_name a320)))) (fun (x317 : PyData) => (W.ret x317)) xs321)).bind fun x324 => (W.ret ((eL eV).enc x324))).bind fun x325 => (ofO (cleanO x325))).bind fun p322 => ((((W.ret ([] : List PyData)).bind fun x326 => (W.ret ((eL eV).enc x326))).bind fun x327 => (ofO (cleanO x327))).bind fun q323 => (ofO (eqC p322 q323)))).bind fun p333 => (if p333 = true then (((((W.ret true).bind fun x328 => (W.ret (eB.enc x328))).bind fun x329 => ((W.ret ()).bind fun y330 => (W.ret (x329, y330)))).bind fun a331 => (ofO (m_is_number a331))).bind fun p332 => (W.ret (!p332))) else (W.ret false))) else (W.ret false))).bind fun x335 => (W.ret (Fl.rt x335)))))))))))))))
def o_law_judged_right (a : Unit) : Option (Fl Bool Empty Unit) :=
  (((((some (0 : Int)).bind fun x2 => (some (eI.enc x2))).bind fun x21 => (((((some (5 : Int)).bind fun p3 => (some (-p3))).bind fun x4 => (some (eI.enc x4))).bind fun x19 => ((((((some (10 : Int)).bind fun p5 => ((some (60 : Int)).bind fun q6 => (powC p5 q6))).bind fun p7 => ((some (1 : Int)).bind fun q8 => (some (p7 - q8)))).bind fun x9 => (some (eI.enc x9))).bind fun x17 => (((((some (1 : Int)).bind fun p12 => (((some (10 : Int)).bind fun p10 => ((some (60 : Int)).bind fun q11 => (powC p10 q11))).bind fun q13 => (some (p12 - q13)))).bind fun x14 => (some (eI.enc x14))).bind fun x15 => ((some []).bind fun y16 => (some (x15 :: y16)))).bind fun y18 => (some (x17 :: y18)))).bind fun y20 => (some (x19 :: y20)))).bind fun y22 => (some (x21 :: y22)))).bind fun x23 => (lenK x23)).bind fun (v1 : (List PyData)) => (((((some ()).bind fun x25 => (some (eN.enc x25))).bind fun x56 => ((((some true).bind fun x26 => (some (eB.enc x26))).bind fun x54 => ((((some ("5" : Str)).bind fun x27 => (some (eS.enc x27))).bind fun x52 => (((((some (5 : Int)).bind fun x28 => (some [x28])).bind fun x29 => (some ((eT eI).enc x29))).bind fun x50 => (((((some (10 : Int)).bind fun p30 => ((some (60 : Int)).bind fun q31 => (powC p30 q31))).bind fun x32 => (some (eI.enc x32))).bind fun x48 => (((((some (0 : Int)).bind fun p35 => (((some (10 : Int)).bind fun p33 => ((some (60 : Int)).bind fun q34 => (powC p33 q34))).bind fun q36 => (some (p35 - q36)))).bind fun x37 => (some (eI.enc x37))).bind fun x46 => ((((((some (5 : Int)).bind fun x38 => ((some []).bind fun y39 => (some (x38 :: y39)))).bind fun x40 => (lenK x40)).bind fun x41 => (some ((eL eI).enc x41))).bind fun x44 => (((some (PyData.dict [])).bind fun x42 => ((some []).bind fun y43 => (some (x42 :: y43)))).bind fun y45 => (some (x44 :: y45)))).bind fun y47 => (some (x46 :: y47)))).bind fun y49 => (some (x48 :: y49)))).bind fun y51 => (some (x50 :: y51)))).bind fun y53 => (some (x52 :: y53)))).bind fun y55 => (some (x54 :: y55)))).bind fun y57 => (some (x56 :: y57)))).bind fun x58 => (lenK x58)).bind fun (v24 : (List PyData)) => (((((((some v1).bind fun xs64 => (lcO (fun (x59 : PyData) => ((((some x59).bind fun x60 => ((some ()).bind fun y61 => (some (x60, y61)))).bind fun a62 => (m_is_integer a62)).bind fun b63 => (some (!b63)))) (fun (x59 : PyData) => (some x59)) xs64)).bind fun x67 => (some ((eL eV).enc x67))).bind fun x68 => (cleanO x68)).bind fun p65 => ((((some ([] : List PyData)).bind fun x69 => (some ((eL eV).enc x69))).bind fun x70 => (cleanO x70)).bind fun q66 => ((eqC p65 q66).bind fun b => some !b))).bind fun p82 => (if p82 = true then some true else (((((some v24).bind fun xs75 => (lcO (fun (x71 : PyData) => (((some x71).bind fun x72 => ((some ()).bind fun y73 => (some (x72, y73)))).bind fun a74 => (m_is_integer a74))) (fun (x71 : PyData) => (some x71)) xs75)).bind fun x78 => (some ((eL eV).enc x78))).bind fun x79 => (cleanO x79)).bind fun p76 => ((((some ([] : List PyData)).bind fun x80 => (some ((eL eV).enc x80))).bind fun x81 => (cleanO x81)).bind fun q77 => ((eqC p76 q77).bind fun b => some !b))))).bind fun b83 => (if b83 = true then upO ((some false).bind fun x84 => (some (Fl.rt x84))) else ((((((some (0 : Int)).bind fun x86 => ((some (1 : Int)).bind fun x87 => (some (x86, x87)))).bind fun x88 => (some ((eP eI eI).enc x88))).bind fun x122 => (((((some (1 : Int)).bind fun x89 => ((some (2 : Int)).bind fun x90 => (some (x89, x90)))).bind fun x91 => (some ((eP eI eI).enc x91))).bind fun x120 => ((((((some (3 : Int)).bind fun p92 => (some (-p92))).bind fun x93 => ((some (2 : Int)).bind fun x94 => (some (x93, x94)))).bind fun x95 => (some ((eP eI eI).enc x95))).bind fun x118 => (((((((some (10 : Int)).bind fun p96 => ((some (40 : Int)).bind fun q97 => (powC p96 q97))).bind fun p100 => (((some (10 : Int)).bind fun p98 => ((some (40 : Int)).bind fun q99 => (powC p98 q99))).bind fun q101 => (mulC p100 q101))).bind fun x102 => ((some (3 : Int)).bind fun x103 => (some (x102, x103)))).bind fun x104 => (some ((eP eI eI).enc x104))).bind fun x116 => (((((some (7 : Int)).bind fun x111 => ((((some (10 : Int)).bind fun p105 => ((some (60 : Int)).bind fun q106 => (powC p105 q106))).bind fun p109 => (((some (10 : Int)).bind fun p107 => ((some (15 : Int)).bind fun q108 => (powC p107 q108))).bind fun q110 => (mulC p109 q110))).bind fun x112 => (some (x111, x112)))).bind fun x113 => (some ((eP eI eI).enc x113))).bind fun x114 => ((some []).bind fun y115 => (some (x114 :: y115)))).bind fun y117 => (some (x116 :: y117)))).bind fun y119 => (some (x118 :: y119)))).bind fun y121 => (some (x120 :: y121)))).bind fun y123 => (some (x122 :: y123)))).bind fun x124 => (lenK x124)).bind fun (v85 : (List PyData)) => (((((some ()).bind fun x126 => (some (eN.enc x126))).bind fun x194 => ((((some (5 : Int)).bind fun x127 => (some (eI.enc x127))).bind fun x192 => (((((some (2 : Int)).bind fun x128 => ((some (4 : Int)).bind fun x129 => (some (x128, x129)))).bind fun x130 => (some ((eP eI eI).enc x130))).bind fun x190 => (((((some (0 : Int)).bind fun x131 => ((some (2 : Int)).bind fun x132 => (some (x131, x132)))).bind fun x133 => (some ((eP eI eI).enc x133))).bind fun x188 => (((((some (1 : Int)).bind fun x135 => (((some (2 : Int)).bind fun p134 => (some (-p134))).bind fun x136 => (some (x135, x136)))).bind fun x137 => (some ((eP eI eI).enc x137))).bind fun x186 => (((((some (1 : Int)).bind fun x138 => ((some (0 : Int)).bind fun x139 => (some (x138, x139)))).bind fun x140 => (some ((eP eI eI).enc x140))).bind fun x184 => (((((some (1 : Int)).bind fun x141 => (some [x141])).bind fun x142 => (some ((eT eI).enc x142))).bind fun x182 => (((((some (1 : Int)).bind fun x143 => ((some (2 : Int)).bind fun x144 => ((some (3 : Int)).bind fun x145 => (some (x143, x144, x145))))).bind fun x146 => (some ((eP3 eI eI eI).enc x146))).bind fun x180 => ((((((some (1 : Int)).bind fun x149 => (((some (2 : Int)).bind fun x147 => ((some []).bind fun y148 => (some (x147 :: y148)))).bind fun y150 => (some (x149 :: y150)))).bind fun x151 => (lenK x151)).bind fun x152 => (some ((eL eI).enc x152))).bind fun x178 => (((((some true).bind fun x153 => ((some (2 : Int)).bind fun x154 => (some (x153, x154)))).bind fun x155 => (some ((eP eB eI).enc x155))).bind fun x176 => (((((some (1 : Int)).bind fun x156 => ((some true).bind fun x157 => (some (x156, x157)))).bind fun x158 => (some ((eP eI eB).enc x158))).bind fun x174 => (((((some ("1" : Str)).bind fun x159 => ((some (2 : Int)).bind fun x160 => (some (x159, x160)))).bind fun x161 => (some ((eP eS eI).enc x161))).bind fun x172 => ((((((some (1 : Int)).bind fun x162 => ((some (2 : Int)).bind fun x163 => (some (x162, x163)))).bind fun x164 => ((some (3 : Int)).bind fun x165 => (some (x164, x165)))).bind fun x166 => (some ((eP (eP eI eI) eI).enc x166))).bind fun x170 => ((((some ("1/2" : Str)).bind fun x167 => (some (eS.enc x167))).bind fun x168 => ((some []).bind fun y169 => (some (x168 :: y169)))).bind fun y171 => (some (x170 :: y171)))).bind fun y173 => (some (x172 :: y173)))).bind fun y175 => (some (x174 :: y175)))).bind fun y177 => (some (x176 :: y177)))).bind fun y179 => (some (x178 :: y179)))).bind fun y181 => (some (x180 :: y181)))).bind fun y183 => (some (x182 :: y183)))).bind fun y185 => (some (x184 :: y185)))).bind fun y187 => (some (x186 :: y187)))).bind fun y189 => (some (x188 :: y189)))).bind fun y191 => (some (x190 :: y191)))).bind fun y193 => (some (x192 :: y193)))).bind fun y195 => (some (x194 :: y195)))).bind fun x196 => (lenK x196)).bind fun (v125 : (List PyData)) => (((((((some v85).bind fun xs207 => (lcO (fun (x197 : PyData) => (((((some x197).bind fun x198 => ((some ()).bind fun y199 => (some (x198, y199)))).bind fun a200 => (m_is_fraction a200)).bind fun b201 => (some (!b201))).bind fun p206 => (if p206 = true then some true else ((((some x197).bind fun x202 => ((some ()).bind fun y203 => (some (x202, y203)))).bind fun a204 => (m_is_number a204)).bind fun b205 => (some (!b205)))))) (fun (x197 : PyData) => (some x197)) xs207)).bind fun x210 => (some ((eL eV).enc x210))).bind fun x211 => (cleanO x211)).bind fun p208 => ((((some ([] : List PyData)).bind fun x212 => (some ((eL eV).enc x212))).bind fun x213 => (cleanO x213)).bind fun q209 => ((eqC p208 q209).bind fun b => some !b))).bind fun p225 => (if p225 = true then some true else (((((((some (10 : Int)).bind fun p214 => ((some (60 : Int)).bind fun q215 => (powC p214 q215))).bind fun p218 => (((some (10 : Int)).bind fun p216 => ((some (30 : Int)).bind fun q217 => (powC p216 q217))).bind fun q219 => (mulC p218 q219))).bind fun x220 => (some (eI.enc x220))).bind fun x221 => ((some ()).bind fun y222 => (some (x221, y222)))).bind fun a223 => (m_is_number a223)).bind fun b224 => (some (!b224))))).bind fun b226 => (if b226 = true then upO ((some false).bind fun x227 => (some (Fl.rt x227))) else (((((((some v125).bind fun xs232 => (lcO (fun (x228 : PyData) => (((some x228).bind fun x229 => ((some ()).bind fun y230 => (some (x229, y230)))).bind fun a231 => (m_is_fraction a231))) (fun (x228 : PyData) => (some x228)) xs232)).bind fun x235 => (some ((eL eV).enc x235))).bind fun x236 => (cleanO x236)).bind fun p233 => ((((some ([] : List PyData)).bind fun x237 => (some ((eL eV).enc x237))).bind fun x238 => (cleanO x238)).bind fun q234 => ((eqC p233 q234).bind fun b => some !b))).bind fun p255 => (if p255 = true then some true else (((((some v125).bind fun xs248 => (lcO (fun (x239 : PyData) => ((((some x239).bind fun x240 => ((some ()).bind fun y241 => (some (x240, y241)))).bind fun a242 => (m_is_number a242)).bind fun p247 => (if p247 = true then (((some x239).bind fun x245 => (cleanO x245)).bind fun p243 => (((some (5 : Int)).bind fun x246 => (some (dI.d x246))).bind fun q244 => ((eqC p243 q244).bind fun b => some !b))) else some false))) (fun (x239 : PyData) => (some x239)) xs248)).bind fun x251 => (some ((eL eV).enc x251))).bind fun x252 => (cleanO x252)).bind fun p249 => ((((some ([] : List PyData)).bind fun x253 => (some ((eL eV).enc x253))).bind fun x254 => (cleanO x254)).bind fun q250 => ((eqC p249 q250).bind fun b => some !b))))).bind fun b256 => (if b256 = true then upO ((some false).bind fun x257 => (some (Fl.rt x257))) else (((((some ("a" : Str)).bind fun x259 => (some (eS.enc x259))).bind fun x266 => ((((some ("zz" : Str)).bind fun x260 => (some (eS.enc x260))).bind fun x264 => ((((some ("abcdefgh" : Str)).bind fun x261 => (some (eS.enc x261))).bind fun x262 => ((some []).bind fun y263 => (some (x262 :: y263)))).bind fun y265 => (some (x264 :: y265)))).bind fun y267 => (some (x266 :: y267)))).bind fun x268 => (lenK x268)).bind fun (v258 : (List PyData)) => (((((some ("" : Str)).bind fun x270 => (some (eS.enc x270))).bind fun x302 => ((((some ("abcdefghi" : Str)).bind fun x271 => (some (eS.enc x271))).bind fun x300 => ((((some ("A" : Str)).bind fun x272 => (some (eS.enc x272))).bind fun x298 => ((((some ("a1" : Str)).bind fun x273 => (some (eS.enc x273))).bind fun x296 => ((((some ("a b" : Str)).bind fun x274 => (some (eS.enc x274))).bind fun x294 => ((((some ()).bind fun x275 => (some (eN.enc x275))).bind fun x292 => ((((some (5 : Int)).bind fun x276 => (some (eI.enc x276))).bind fun x290 => (((((some ("a" : Str)).bind fun x277 => (some [x277])).bind fun x278 => (some ((eT eS).enc x278))).bind fun x288 => ((((((some ("a" : Str)).bind fun x279 => ((some []).bind fun y280 => (some (x279 :: y280)))).bind fun x281 => (lenK x281)).bind fun x282 => (some ((eL eS).enc x282))).bind fun x286 => ((((some ("a_" : Str)).bind fun x283 => (some (eS.enc x283))).bind fun x284 => ((some []).bind fun y285 => (some (x284 :: y285)))).bind fun y287 => (some (x286 :: y287)))).bind fun y289 => (some (x288 :: y289)))).bind fun y291 => (some (x290 :: y291)))).bind fun y293 => (some (x292 :: y293)))).bind fun y295 => (some (x294 :: y295)))).bind fun y297 => (some (x296 :: y297)))).bind fun y299 => (some (x298 :: y299)))).bind fun y301 => (some (x300 :: y301)))).bind fun y303 => (some (x302 :: y303)))).bind fun x304 => (lenK x304)).bind fun (v269 : (List PyData)) => (((((((some v258).bind fun xs310 => (lcO (fun (x305 : PyData) => ((((some x305).bind fun x306 => ((some ()).bind fun y307 => (some (x306, y307)))).bind fun a308 => (m_is_name a308)).bind fun b309 => (some (!b309)))) (fun (x305 : PyData) => (some x305)) xs310)).bind fun x313 => (some ((eL eV).enc x313))).bind fun x314 => (cleanO x314)).bind fun p311 => ((((some ([] : List PyData)).bind fun x315 => (some ((eL eV).enc x315))).bind fun x316 => (cleanO x316)).bind fun q312 => (eqC p311 q312))).bind fun p334 => (if p334 = true then ((((((some v269).bind fun xs321 => (lcO (fun (x317 : PyData) => (((some x317).bind fun x318 => ((some ()).bind fun y319 => (some (x318, y319)))).bind fun a320 => (m_is_name a320))) (fun (x317 : PyData) => (some x317)) xs321)).bind fun x324 => (some ((eL eV).enc x324))).bind fun x325 => (cleanO x325)).bind fun p322 => ((((some ([] : List PyData)).bind fun x326 => (some ((eL eV).enc x326))).bind fun x327 => (cleanO x327)).bind fun q323 => (eqC p322 q323))).bind fun p333 => (if p333 = true then (((((some true).bind fun x328 => (some (eB.enc x328))).bind fun x329 => ((some ()).bind fun y330 => (some (x329, y330)))).bind fun a331 => (m_is_number a331)).bind fun p332 => (some (!p332))) else (some false))) else (some false))).bind fun x335 => (some (Fl.rt x335)))))))))))))))
theorem so_law_judged_right (a : Unit) : w_law_judged_right a = ofO (o_law_judged_right a) := by
  simp only [w_law_judged_right, o_law_judged_right, ofO_rt, ofO_rtN, ofO_bind, ofO_some, ofO_if, ofO_up, ofO_lc, ofO_lca, ofO_lc2, ofO_for, ofO_while, ofO_bindF, ofO_no, ofO_optM]
def m_law_judged_right (a : Unit) : W Bool := rtOf (w_law_judged_right a)
theorem k_law_judged_right {f : Addr} {fd : FuncData} (F : Fun K "_law_judged_right" "_law_judged_right" slaw_judged_right f fd) (T : Txt K mg) {π : Around → Prop} (sπ : Stb π) (h_is_fraction : Has P w K mg base π "is_fraction" 2 ["value"] (SpF (pC qV p0).ra qB m_is_fraction)) (h_is_integer : Has P w K mg base π "is_integer" 2 ["value"] (SpF (pC qV p0).ra qB m_is_integer)) (h_is_name : Has P w K mg base π "is_name" 1 ["value"] (SpF (pC qV p0).ra qB m_is_name)) (h_is_number : Has P w K mg base π "is_number" 3 ["value"] (SpF (pC qV p0).ra qB m_is_number)) : FnP π P w K mg base CX0 4 f fd ["_law_dice_here"] (SpD p0.ra qB m_law_judged_right) := by
  refine fn_okD (p := p0) (m := w_law_judged_right) (pn := (fun z _ => nomatch z)) (pl := fun _ _ => []) (env := fun a => [.un, .un, .un, .un, .un, .un, .un, .un]) 8 sπ F sclaw_judged_right rfl rfl (fun _ => rfl) ?hb ?hg
  case hb =>
    intro cdv A outer s H E hp hr C d a hA
    unfold w_law_judged_right
    exact (xs_set (i := 1) (xe_N (xn_lst (xa_consL (xe_enc eI xe_int) (xa_consL (xe_enc eI (xe_neg xe_int)) (xa_consL (xe_enc eI (xe_sub (xe_pow xe_int xe_int) xe_int)) (xa_consL (xe_enc eI (xe_sub xe_int (xe_pow xe_int xe_int))) xa_nilL)))))) (fun v1 => (xs_set (i := 2) (xe_N (xn_lst (xa_consL (xe_enc eN xe_non) (xa_consL (xe_enc eB xe_bl) (xa_consL (xe_enc eS xe_str) (xa_consL (xe_enc (eT eI) (xe_tup1 xe_int)) (xa_consL (xe_enc eI (xe_pow xe_int xe_int)) (xa_consL (xe_enc eI (xe_sub xe_int (xe_pow xe_int xe_int))) (xa_consL (xe_enc (eL eI) (xe_N (xn_lst (xa_consL xe_int xa_nilL)))) (xa_consL xe_dict0 xa_nilL)))))))))) (fun v24 => (xs_ifx (PW.pt (xw_or (xt_cmpD (cd_neD hr.units) (xe_VD (xe_enc (eL eV) (xe_N (xn_lc (own := [("_law_value", 7)]) (up := (uN 7 qV)) rfl sclaw_judged_right.nd (xi_seq (xe_var (pv 1))) (blkOk_by (N := Nlaw_judged_right) (sc := defScope slaw_judged_right) (by decide +kernel)) rfl (fun _ => rfl) (fun _ _ _ _ _ => (xg_name (pg_name (i := 7) sclaw_judged_right.nd rfl (by first | exact .inl rfl | exact .inr rfl)))) (fun _ _ _ _ _ _ x59 => (xts_one (xt_not (xt_val (xe_callH h_is_integer hp hr (by decide) (by rfl) (xa_cons (xe_var (pv 7)) xa_nil)))))) (fun _ _ _ _ _ _ x59 => (xe_var (pv 7))))))) (xe_VD (xe_enc (eL eV) (xe_N (xn_nil (r := qV))))) rfl) (xw_or1 (xt_cmpD (cd_neD hr.units) (xe_VD (xe_enc (eL eV) (xe_N (xn_lc (own := [("_law_value", 7)]) (up := (uN 7 qV)) rfl sclaw_judged_right.nd (xi_seq (xe_var (pv 2))) (blkOk_by (N := Nlaw_judged_right) (sc := defScope slaw_judged_right) (by decide +kernel)) rfl (fun _ => rfl) (fun _ _ _ _ _ => (xg_name (pg_name (i := 7) sclaw_judged_right.nd rfl (by first | exact .inl rfl | exact .inr rfl)))) (fun _ _ _ _ _ _ x71 => (xts_one (xt_val (xe_callH h_is_integer hp hr (by decide) (by rfl) (xa_cons (xe_var (pv 7)) xa_nil))))) (fun _ _ _ _ _ _ x71 => (xe_var (pv 7))))))) (xe_VD (xe_enc (eL eV) (xe_N (xn_nil (r := qV))))) rfl)))) (xs_ret xe_bl) (xs_set (i := 3) (xe_N (xn_lst (xa_consL (xe_enc (eP eI eI) (xe_tup2 xe_int xe_int)) (xa_consL (xe_enc (eP eI eI) (xe_tup2 xe_int xe_int)) (xa_consL (xe_enc (eP eI eI) (xe_tup2 (xe_neg xe_int) xe_int)) (xa_consL (xe_enc (eP eI eI) (xe_tup2 (xe_mul (xe_pow xe_int xe_int) (xe_pow xe_int xe_int)) xe_int)) (xa_consL (xe_enc (eP eI eI) (xe_tup2 xe_int (xe_mul (xe_pow xe_int xe_int) (xe_pow xe_int xe_int)))) xa_nilL))))))) (fun v85 => (xs_set (i := 4) (xe_N (xn_lst (xa_consL (xe_enc eN xe_non) (xa_consL (xe_enc eI xe_int) (xa_consL (xe_enc (eP eI eI) (xe_tup2 xe_int xe_int)) (xa_consL (xe_enc (eP eI eI) (xe_tup2 xe_int xe_int)) (xa_consL (xe_enc (eP eI eI) (xe_tup2 xe_int (xe_neg xe_int))) (xa_consL (xe_enc (eP eI eI) (xe_tup2 xe_int xe_int)) (xa_consL (xe_enc (eT eI) (xe_tup1 xe_int)) (xa_consL (xe_enc (eP3 eI eI eI) (xe_tup3 xe_int xe_int xe_int)) (xa_consL (xe_enc (eL eI) (xe_N (xn_lst (xa_consL xe_int (xa_consL xe_int xa_nilL))))) (xa_consL (xe_enc (eP eB eI) (xe_tup2 xe_bl xe_int)) (xa_consL (xe_enc (eP eI eB) (xe_tup2 xe_int xe_bl)) (xa_consL (xe_enc (eP eS eI) (xe_tup2 xe_str xe_int)) (xa_consL (xe_enc (eP (eP eI eI) eI) (xe_tup2 (xe_tup2 xe_int xe_int) xe_int)) (xa_consL (xe_enc eS xe_str) xa_nilL)))))))))))))))) (fun v125 => (xs_ifx (PW.pt (xw_or (xt_cmpD (cd_neD hr.units) (xe_VD (xe_enc (eL eV) (xe_N (xn_lc (own := [("_law_value", 7)]) (up := (uN 7 qV)) rfl sclaw_judged_right.nd (xi_seq (xe_var (pv 3))) (blkOk_by (N := Nlaw_judged_right) (sc := defScope slaw_judged_right) (by decide +kernel)) rfl (fun _ => rfl) (fun _ _ _ _ _ => (xg_name (pg_name (i := 7) sclaw_judged_right.nd rfl (by first | exact .inl rfl | exact .inr rfl)))) (fun _ _ _ _ _ _ x197 => (xts_one (PW.pt (xw_or (xt_not (xt_val (xe_callH h_is_fraction hp hr (by decide) (by rfl) (xa_cons (xe_var (pv 7)) xa_nil)))) (xw_or1 (xt_not (xt_val (xe_callH h_is_number hp hr (by decide) (by rfl) (xa_cons (xe_var (pv 7)) xa_nil))))))))) (fun _ _ _ _ _ _ x197 => (xe_var (pv 7))))))) (xe_VD (xe_enc (eL eV) (xe_N (xn_nil (r := qV))))) rfl) (xw_or1 (xt_not (xt_val (xe_callH h_is_number hp hr (by decide) (by rfl) (xa_cons (xe_enc eI (xe_mul (xe_pow xe_int xe_int) (xe_pow xe_int xe_int))) xa_nil))))))) (xs_ret xe_bl) (xs_ifx (PW.pt (xw_or (xt_cmpD (cd_neD hr.units) (xe_VD (xe_enc (eL eV) (xe_N (xn_lc (own := [("_law_value", 7)]) (up := (uN 7 qV)) rfl sclaw_judged_right.nd (xi_seq (xe_var (pv 4))) (blkOk_by (N := Nlaw_judged_right) (sc := defScope slaw_judged_right) (by decide +kernel)) rfl (fun _ => rfl) (fun _ _ _ _ _ => (xg_name (pg_name (i := 7) sclaw_judged_right.nd rfl (by first | exact .inl rfl | exact .inr rfl)))) (fun _ _ _ _ _ _ x228 => (xts_one (xt_val (xe_callH h_is_fraction hp hr (by decide) (by rfl) (xa_cons (xe_var (pv 7)) xa_nil))))) (fun _ _ _ _ _ _ x228 => (xe_var (pv 7))))))) (xe_VD (xe_enc (eL eV) (xe_N (xn_nil (r := qV))))) rfl) (xw_or1 (xt_cmpD (cd_neD hr.units) (xe_VD (xe_enc (eL eV) (xe_N (xn_lc (own := [("_law_value", 7)]) (up := (uN 7 qV)) rfl sclaw_judged_right.nd (xi_seq (xe_var (pv 4))) (blkOk_by (N := Nlaw_judged_right) (sc := defScope slaw_judged_right) (by decide +kernel)) rfl (fun _ => rfl) (fun _ _ _ _ _ => (xg_name (pg_name (i := 7) sclaw_judged_right.nd rfl (by first | exact .inl rfl | exact .inr rfl)))) (fun _ _ _ _ _ _ x239 => (xts_one (PW.pt (xw_and (xt_val (xe_callH h_is_number hp hr (by decide) (by rfl) (xa_cons (xe_var (pv 7)) xa_nil))) (xw_and1 (xt_cmpD (cd_neD hr.units) (xe_VD (xe_var (pv 7))) (xe_data dI xe_int) rfl)))))) (fun _ _ _ _ _ _ x239 => (xe_var (pv 7))))))) (xe_VD (xe_enc (eL eV) (xe_N (xn_nil (r := qV))))) rfl)))) (xs_ret xe_bl) (xs_set (i := 5) (xe_N (xn_lst (xa_consL (xe_enc eS xe_str) (xa_consL (xe_enc eS xe_str) (xa_consL (xe_enc eS xe_str) xa_nilL))))) (fun v258 => (xs_set (i := 6) (xe_N (xn_lst (xa_consL (xe_enc eS xe_str) (xa_consL (xe_enc eS xe_str) (xa_consL (xe_enc eS xe_str) (xa_consL (xe_enc eS xe_str) (xa_consL (xe_enc eS xe_str) (xa_consL (xe_enc eN xe_non) (xa_consL (xe_enc eI xe_int) (xa_consL (xe_enc (eT eS) (xe_tup1 xe_str)) (xa_consL (xe_enc (eL eS) (xe_N (xn_lst (xa_consL xe_str xa_nilL)))) (xa_consL (xe_enc eS xe_str) xa_nilL)))))))))))) (fun v269 => (xs_ret (xe_andB (xe_cmpD (cd_eqD hr.units) (xe_VD (xe_enc (eL eV) (xe_N (xn_lc (own := [("_law_name", 8)]) (up := (uN 8 qV)) rfl sclaw_judged_right.nd (xi_seq (xe_var (pv 5))) (blkOk_by (N := Nlaw_judged_right) (sc := defScope slaw_judged_right) (by decide +kernel)) rfl (fun _ => rfl) (fun _ _ _ _ _ => (xg_name (pg_name (i := 8) sclaw_judged_right.nd rfl (by first | exact .inl rfl | exact .inr rfl)))) (fun _ _ _ _ _ _ x305 => (xts_one (xt_not (xt_val (xe_callH h_is_name hp hr (by decide) (by rfl) (xa_cons (xe_var (pv 8)) xa_nil)))))) (fun _ _ _ _ _ _ x305 => (xe_var (pv 8))))))) (xe_VD (xe_enc (eL eV) (xe_N (xn_nil (r := qV))))) rfl) (xe_andB (xe_cmpD (cd_eqD hr.units) (xe_VD (xe_enc (eL eV) (xe_N (xn_lc (own := [("_law_name", 8)]) (up := (uN 8 qV)) rfl sclaw_judged_right.nd (xi_seq (xe_var (pv 6))) (blkOk_by (N := Nlaw_judged_right) (sc := defScope slaw_judged_right) (by decide +kernel)) rfl (fun _ => rfl) (fun _ _ _ _ _ => (xg_name (pg_name (i := 8) sclaw_judged_right.nd rfl (by first | exact .inl rfl | exact .inr rfl)))) (fun _ _ _ _ _ _ x317 => (xts_one (xt_val (xe_callH h_is_name hp hr (by decide) (by rfl) (xa_cons (xe_var (pv 8)) xa_nil))))) (fun _ _ _ _ _ _ x317 => (xe_var (pv 8))))))) (xe_VD (xe_enc (eL eV) (xe_N (xn_nil (r := qV))))) rfl) (xe_one (xe_not (xe_callH h_is_number hp hr (by decide) (by rfl) (xa_cons (xe_enc eB xe_bl) xa_nil)))))))) sclaw_judged_right.nd rfl (.inl rfl) rfl rfl)) sclaw_judged_right.nd rfl (.inl rfl) rfl rfl)))) sclaw_judged_right.nd rfl (.inl rfl) rfl rfl)) sclaw_judged_right.nd rfl (.inl rfl) rfl rfl))) sclaw_judged_right.nd rfl (.inl rfl) rfl rfl)) sclaw_judged_right.nd rfl (.inl rfl) rfl rfl)
  case hg => exact fun _ => rfl
abbrev slaw : Stmt := top 54
abbrev Nlaw : List Str := ["_law_script", "_law_spot", "_law_told", "_law_dice_here", "_law_turn"]
theorem sclaw : FnScope ["_law_script", "_law_spot", "_law_told", "_law_dice_here", "_law_turn"] ["_law_script"] (defScope slaw) := ⟨rfl, rfl, rfl, by decide +kernel, rfl, by decide +kernel, by decide +kernel⟩
def w_law (a : (List Int) × Unit) : W (Fl Bool Empty Unit) :=
  ((((W.ret (1 : Int)).bind fun i4 => (((W.ret (4 : Int)).bind fun i2 => (((W.ret a.1).bind fun x1 => (W.ret (x1.length : Int))).bind fun j3 => (W.ret (if j3 < i2 then j3 else i2)))).bind fun j5 => (W.ret (if j5 > i4 then j5 else i4)))).bind fun i6 => (ofO (rngC 0 i6))).bind fun xs286 => bindF (forL (fun (s7 : Unit) (x8 : Int) => ((((W.ret a.1).bind fun x12 => (((W.ret x8).bind fun x10 => ((W.ret ()).bind fun y11 => (W.ret (x10, y11)))).bind fun y13 => (W.ret (x12, y13)))).bind fun a14 => (ofO (m_law_dice a14))).bind fun (v9 : (List Int)) => ((W.put v9).bind fun _ => (((W.ret (3 : Int)).bind fun i15 => (ofO (rngC 0 i15))).bind fun xs29 => bindF (forL (fun (s16 : Unit) (x17 : Int) => (((((W.ret ()).bind fun a18 => (m_law_sums_right a18)).bind fun b19 => (W.ret (!b19))).bind fun p22 => (if p22 = true then W.ret true else (((W.ret ()).bind fun a20 => (m_law_counts_right a20)).bind fun b21 => (W.ret (!b21))))).bind fun b23 => (if b23 = true then upF ((W.ret false).bind fun x24 => (W.ret (Fl.rt x24))) else (W.ret (Fl.nx ()))))) xs29 ()) (fun (s16 : Unit) => ((((W.ret ()).bind fun a25 => (m_law_judged_right a25)).bind fun b26 => (W.ret (!b26))).bind fun b27 => (if b27 = true then upF ((W.ret false).bind fun x28 => (W.ret (Fl.rt x28))) else (W.ret (Fl.nx ()))))))))) xs286 ()) (fun (s7 : Unit) => (((((((W.ret (6 : Int)).bind fun x34 => ((((W.ret (4 : Int)).bind fun p31 => (W.ret (-p31))).bind fun x32 => ((W.ret ()).bind fun y33 => (W.ret (x32, y33)))).bind fun y35 => (W.ret (x34, y35)))).bind fun a36 => (ofO (m_fraction a36))).bind fun x37 => (W.ret ((eP eI eI).enc x37))).bind fun x91 => ((((((((W.ret (1 : Int)).bind fun x38 => ((W.ret (2 : Int)).bind fun x39 => (W.ret (x38, x39)))).bind fun x40 => (W.ret ((eP eI eI).enc x40))).bind fun x46 => (((((W.ret (1 : Int)).bind fun x41 => ((W.ret (3 : Int)).bind fun x42 => (W.ret (x41, x42)))).bind fun x43 => (W.ret ((eP eI eI).enc x43))).bind fun x44 => ((W.ret ()).bind fun y45 => (W.ret (x44, y45)))).bind fun y47 => (W.ret (x46, y47)))).bind fun a48 => (ofO (m_added a48))).bind fun x49 => (W.ret ((eP eI eI).enc x49))).bind fun x89 => (((((((W.ret (6 : Int)).bind fun x50 => (W.ret (eI.enc x50))).bind fun x56 => (((((W.ret (1 : Int)).bind fun x51 => ((W.ret (4 : Int)).bind fun x52 => (W.ret (x51, x52)))).bind fun x53 => (W.ret ((eP eI eI).enc x53))).bind fun x54 => ((W.ret ()).bind fun y55 => (W.ret (x54, y55)))).bind fun y57 => (W.ret (x56, y57)))).bind fun a58 => (ofO (m_multiplied a58))).bind fun x59 => (W.ret ((eP eI eI).enc x59))).bind fun x87 => ((((((((W.ret (1 : Int)).bind fun x60 => ((W.ret (2 : Int)).bind fun x61 => (W.ret (x60, x61)))).bind fun x62 => (W.ret ((eP eI eI).enc x62))).bind fun x67 => (((((W.ret (3 : Int)).bind fun p63 => (W.ret (-p63))).bind fun x64 => (W.ret (eI.enc x64))).bind fun x65 => ((W.ret ()).bind fun y66 => (W.ret (x65, y66)))).bind fun y68 => (W.ret (x67, y68)))).bind fun a69 => (ofO (m_divided a69))).bind fun x70 => (W.ret ((eP eI eI).enc x70))).bind fun x85 => ((((((((W.ret (1 : Int)).bind fun x71 => ((W.ret (2 : Int)).bind fun x72 => (W.ret (x71, x72)))).bind fun x73 => (W.ret ((eP eI eI).enc x73))).bind fun x79 => (((((W.ret (1 : Int)).bind fun x74 => ((W.ret (2 : Int)).bind fun x75 => (W.ret (x74, x75)))).bind fun x76 => (W.ret ((eP eI eI).enc x76))).bind fun x77 => ((W.ret ()).bind fun y78 => (W.ret (x77, y78)))).bind fun y80 => (W.ret (x79, y80)))).bind fun a81 => (ofO (m_added a81))).bind fun x82 => (W.ret ((eP eI eI).enc x82))).bind fun x83 => ((W.ret []).bind fun y84 => (W.ret (x83 :: y84)))).bind fun y86 => (W.ret (x85 :: y86)))).bind fun y88 => (W.ret (x87 :: y88)))).bind fun y90 => (W.ret (x89 :: y90)))).bind fun y92 => (W.ret (x91 :: y92)))).bind fun x93 => (ofO (lenK x93))).bind fun (v30 : (List PyData)) => ((((((W.ret v30).bind fun x119 => (W.ret ((eL eV).enc x119))).bind fun x120 => (ofO (cleanO x120))).bind fun p117 => (((((((W.ret (3 : Int)).bind fun p94 => (W.ret (-p94))).bind fun x95 => ((W.ret (2 : Int)).bind fun x96 => (W.ret (x95, x96)))).bind fun x114 => ((((W.ret (5 : Int)).bind fun x97 => ((W.ret (6 : Int)).bind fun x98 => (W.ret (x97, x98)))).bind fun x112 => ((((W.ret (3 : Int)).bind fun x99 => ((W.ret (2 : Int)).bind fun x100 => (W.ret (x99, x100)))).bind fun x110 => (((((W.ret (1 : Int)).bind fun p101 => (W.ret (-p101))).bind fun x102 => ((W.ret (6 : Int)).bind fun x103 => (W.ret (x102, x103)))).bind fun x108 => ((((W.ret (1 : Int)).bind fun x104 => ((W.ret (1 : Int)).bind fun x105 => (W.ret (x104, x105)))).bind fun x106 => ((W.ret []).bind fun y107 => (W.ret (x106 :: y107)))).bind fun y109 => (W.ret (x108 :: y109)))).bind fun y111 => (W.ret (x110 :: y111)))).bind fun y113 => (W.ret (x112 :: y113)))).bind fun y115 => (W.ret (x114 :: y115)))).bind fun x116 => (ofO (lenK x116))).bind fun x121 => (W.ret ((dL (dP dI dI)).d x121))).bind fun q118 => (ofO ((eqC p117 q118).bind fun b => some !b)))).bind fun p169 => (if p169 = true then W.ret true else (((((((((W.ret (2 : Int)).bind fun p122 => (W.ret (-p122))).bind fun x123 => ((W.ret (3 : Int)).bind fun x124 => (W.ret (x123, x124)))).bind fun x125 => (W.ret ((eP eI eI).enc x125))).bind fun x129 => ((((W.ret (3 : Int)).bind fun p126 => (W.ret (-p126))).bind fun x127 => ((W.ret ()).bind fun y128 => (W.ret (x127, y128)))).bind fun y130 => (W.ret (x129, y130)))).bind fun a131 => (ofO (m_power_of a131))).bind fun x150 => ((((((W.ret (0 : Int)).bind fun x132 => (W.ret (eI.enc x132))).bind fun x135 => (((W.ret (0 : Int)).bind fun x133 => ((W.ret ()).bind fun y134 => (W.ret (x133, y134)))).bind fun y136 => (W.ret (x135, y136)))).bind fun a137 => (ofO (m_power_of a137))).bind fun x148 => (((((((W.ret (0 : Int)).bind fun x138 => ((W.ret (1 : Int)).bind fun x139 => (W.ret (x138, x139)))).bind fun x140 => (W.ret ((eP eI eI).enc x140))).bind fun x143 => (((W.ret (0 : Int)).bind fun x141 => ((W.ret ()).bind fun y142 => (W.ret (x141, y142)))).bind fun y144 => (W.ret (x143, y144)))).bind fun a145 => (ofO (m_power_of a145))).bind fun x146 => ((W.ret []).bind fun y147 => (W.ret (x146 :: y147)))).bind fun y149 => (W.ret (x148 :: y149)))).bind fun y151 => (W.ret (x150 :: y151)))).bind fun x152 => (ofO (lenK x152))).bind fun p167 => ((((((W.ret (27 : Int)).bind fun p153 => (W.ret (-p153))).bind fun x154 => ((W.ret (8 : Int)).bind fun x155 => (W.ret (x154, x155)))).bind fun x164 => ((((W.ret (1 : Int)).bind fun x156 => ((W.ret (1 : Int)).bind fun x157 => (W.ret (x156, x157)))).bind fun x162 => ((((W.ret (1 : Int)).bind fun x158 => ((W.ret (1 : Int)).bind fun x159 => (W.ret (x158, x159)))).bind fun x160 => ((W.ret []).bind fun y161 => (W.ret (x160 :: y161)))).bind fun y163 => (W.ret (x162 :: y163)))).bind fun y165 => (W.ret (x164 :: y165)))).bind fun x166 => (ofO (lenK x166))).bind fun q168 => (ofO (some (!PyData.eqv ((dL (dP dI dI)).d p167) ((dL (dP dI dI)).d q168)))))))).bind fun b170 => (if b170 = true then upF ((W.ret false).bind fun x171 => (W.ret (Fl.rt x171))) else (((((((W.ret (5 : Int)).bind fun x173 => ((W.ret ()).bind fun y174 => (W.ret (x173, y174)))).bind fun a175 => (ofO (m_factorial a175))).bind fun x176 => (W.ret (eI.enc x176))).bind fun x228 => ((((((W.ret (6 : Int)).bind fun x179 => (((W.ret (2 : Int)).bind fun x177 => ((W.ret ()).bind fun y178 => (W.ret (x177, y178)))).bind fun y180 => (W.ret (x179, y180)))).bind fun a181 => (ofO (m_binomial a181))).bind fun x182 => (W.ret (eI.enc x182))).bind fun x226 => ((((((W.ret (2 : Int)).bind fun x185 => (((W.ret (3 : Int)).bind fun x183 => ((W.ret ()).bind fun y184 => (W.ret (x183, y184)))).bind fun y186 => (W.ret (x185, y186)))).bind fun a187 => (ofO (m_binomial a187))).bind fun x188 => (W.ret (eI.enc x188))).bind fun x224 => ((((((W.ret (5 : Int)).bind fun x191 => (((W.ret (2 : Int)).bind fun x189 => ((W.ret ()).bind fun y190 => (W.ret (x189, y190)))).bind fun y192 => (W.ret (x191, y192)))).bind fun a193 => (ofO (m_falling a193))).bind fun x194 => (W.ret (eI.enc x194))).bind fun x222 => (((((((W.ret (3 : Int)).bind fun p195 => (W.ret (-p195))).bind fun x198 => (((W.ret (2 : Int)).bind fun x196 => ((W.ret ()).bind fun y197 => (W.ret (x196, y197)))).bind fun y199 => (W.ret (x198, y199)))).bind fun a200 => (ofO (m_falling a200))).bind fun x201 => (W.ret (eI.enc x201))).bind fun x220 => ((((((W.ret (2 : Int)).bind fun x204 => (((W.ret (3 : Int)).bind fun x202 => ((W.ret ()).bind fun y203 => (W.ret (x202, y203)))).bind fun y205 => (W.ret (x204, y205)))).bind fun a206 => (ofO (m_falling a206))).bind fun x207 => (W.ret (eI.enc x207))).bind fun x218 => (((((((((W.ret (3 : Int)).bind fun p208 => (W.ret (-p208))).bind fun x209 => ((W.ret (2 : Int)).bind fun x210 => (W.ret (x209, x210)))).bind fun x211 => (W.ret ((eP eI eI).enc x211))).bind fun x212 => ((W.ret ()).bind fun y213 => (W.ret (x212, y213)))).bind fun a214 => (ofO (m_number_text a214))).bind fun x215 => (W.ret (eS.enc x215))).bind fun x216 => ((W.ret []).bind fun y217 => (W.ret (x216 :: y217)))).bind fun y219 => (W.ret (x218 :: y219)))).bind fun y221 => (W.ret (x220 :: y221)))).bind fun y223 => (W.ret (x222 :: y223)))).bind fun y225 => (W.ret (x224 :: y225)))).bind fun y227 => (W.ret (x226 :: y227)))).bind fun y229 => (W.ret (x228 :: y229)))).bind fun x230 => (ofO (lenK x230))).bind fun (v172 : (List PyData)) => ((((((W.ret v172).bind fun p249 => (((((((((W.ret (4 : Int)).bind fun x231 => ((W.ret (1 : Int)).bind fun x232 => (W.ret (x231, x232)))).bind fun x233 => (W.ret ((eP eI eI).enc x233))).bind fun x234 => ((W.ret ()).bind fun y235 => (W.ret (x234, y235)))).bind fun a236 => (ofO (m_number_text a236))).bind fun x237 => (W.ret (eS.enc x237))).bind fun x246 => ((((((((W.ret (7 : Int)).bind fun p238 => (W.ret (-p238))).bind fun x239 => (W.ret (eI.enc x239))).bind fun x240 => ((W.ret ()).bind fun y241 => (W.ret (x240, y241)))).bind fun a242 => (ofO (m_number_text a242))).bind fun x243 => (W.ret (eS.enc x243))).bind fun x244 => ((W.ret []).bind fun y245 => (W.ret (x244 :: y245)))).bind fun y247 => (W.ret (x246 :: y247)))).bind fun x248 => (ofO (lenK x248))).bind fun q250 => (ofO (catC p249 q250)))).bind fun x281 => (W.ret ((eL eV).enc x281))).bind fun x282 => (ofO (cleanO x282))).bind fun p279 => (((((((W.ret (120 : Int)).bind fun x251 => (W.ret (eI.enc x251))).bind fun x276 => ((((W.ret (15 : Int)).bind fun x252 => (W.ret (eI.enc x252))).bind fun x274 => ((((W.ret (0 : Int)).bind fun x253 => (W.ret (eI.enc x253))).bind fun x272 => ((((W.ret (20 : Int)).bind fun x254 => (W.ret (eI.enc x254))).bind fun x270 => ((((W.ret (12 : Int)).bind fun x255 => (W.ret (eI.enc x255))).bind fun x268 => ((((W.ret (0 : Int)).bind fun x256 => (W.ret (eI.enc x256))).bind fun x266 => ((((W.ret ("-3/2" : Str)).bind fun x257 => (W.ret (eS.enc x257))).bind fun x264 => ((((W.ret ("4" : Str)).bind fun x258 => (W.ret (eS.enc x258))).bind fun x262 => ((((W.ret ("-7" : Str)).bind fun x259 => (W.ret (eS.enc x259))).bind fun x260 => ((W.ret []).bind fun y261 => (W.ret (x260 :: y261)))).bind fun y263 => (W.ret (x262 :: y263)))).bind fun y265 => (W.ret (x264 :: y265)))).bind fun y267 => (W.ret (x266 :: y267)))).bind fun y269 => (W.ret (x268 :: y269)))).bind fun y271 => (W.ret (x270 :: y271)))).bind fun y273 => (W.ret (x272 :: y273)))).bind fun y275 => (W.ret (x274 :: y275)))).bind fun y277 => (W.ret (x276 :: y277)))).bind fun x278 => (ofO (lenK x278))).bind fun x283 => (W.ret ((eL eV).enc x283))).bind fun x284 => (ofO (cleanO x284))).bind fun q280 => (ofO (eqC p279 q280)))).bind fun x285 => (W.ret (Fl.rt x285)))))))))
def m_law (a : (List Int) × Unit) : W Bool := rtOf (w_law a)
theorem k_law {f : Addr} {fd : FuncData} (F : Fun K "law" "law" slaw f fd) (T : Txt K mg) {π : Around → Prop} (sπ : Stb π) (h_added : Has P w K mg base π "added" 5 ["one", "other"] (SpF (pC qV (pC qV p0)).ra (qP qI qI) m_added)) (h_binomial : Has P w K mg base π "binomial" 5 ["top", "low"] (SpF (pC qI (pC qI p0)).ra qI m_binomial)) (h_divided : Has P w K mg base π "divided" 5 ["one", "other"] (SpF (pC qV (pC qV p0)).ra (qP qI qI) m_divided)) (h_factorial : Has P w K mg base π "factorial" 5 ["number"] (SpF (pC qI p0).ra qI m_factorial)) (h_falling : Has P w K mg base π "falling" 5 ["top", "low"] (SpF (pC qI (pC qI p0)).ra qI m_falling)) (h_fraction : Has P w K mg base π "fraction" 2 ["top", "bottom"] (SpF (pC qI (pC qI p0)).ra (qP qI qI) m_fraction)) (h_law_counts_right : Has P w K mg base π "_law_counts_right" 6 ["_law_dice_here"] (SpD p0.ra qB m_law_counts_right)) (h_law_dice : Has P w K mg base π "_law_dice" 1 ["_law_script", "_law_spot"] (SpN (pC (qX K) (pC qI p0)).ra qI m_law_dice)) (h_law_judged_right : Has P w K mg base π "_law_judged_right" 4 ["_law_dice_here"] (SpD p0.ra qB m_law_judged_right)) (h_law_sums_right : Has P w K mg base π "_law_sums_right" 6 ["_law_dice_here"] (SpD p0.ra qB m_law_sums_right)) (h_multiplied : Has P w K mg base π "multiplied" 5 ["one", "other"] (SpF (pC qV (pC qV p0)).ra (qP qI qI) m_multiplied)) (h_number_text : Has P w K mg base π "number_text" 5 ["number"] (SpF (pC qV p0).ra qS m_number_text)) (h_power_of : Has P w K mg base π "power_of" 5 ["number", "many"] (SpF (pC qV (pC qI p0)).ra (qP qI qI) m_power_of)) : FnP π P w K mg base CX0 7 f fd ["_law_script"] (SpW (pC (qX K) p0).ra qB m_law) := by
  refine fn_okW (p := (pC (qX K) p0)) (m := w_law) (pn := (fun z _ => nomatch z)) (pl := fun _ _ => []) (env := fun a => [.im (qX K) a.1, .un, .un, .un, .un]) 4 sπ F sclaw rfl rfl (fun _ => rfl) ?hb ?hg
  case hb =>
    intro cdv A outer s H E hp hr C a hA
    unfold w_law
    exact (xs_for (s0 := ()) (up := (uN 1 qI)) (pt := fun (s7 : Unit) g => [.im (qX K) a.1, .un, .un, .un, .un]) PassesOwn.never rfl (xi_rng1 (by rfl) T.range (xe_max2 rfl (by rfl) T.max xe_int (xe_min2 rfl (by rfl) T.min xe_int (xe_lenX (by rfl) T.len (xe_var (pv 0)))))) (xg_name (pg_name (i := 1) sclaw.nd rfl (by first | exact .inl rfl | exact .inr rfl))) (fun _ => (.keep (.keep (.keep (.keep (.keep .nil)))))) (fun s7 x8 => (xs_setN (i := 3) (xe_callL h_law_dice hp hr (by decide) (by rfl) (xa_cons (xe_var (pv 0)) (xa_cons (xe_var (pv 1)) xa_nil))) (fun v9 => xs_gh 3 (fun d => (xs_for (s0 := ()) (up := (uN 4 qI)) (pt := fun (s16 : Unit) g => [.im (qX K) a.1, .im qI x8, .un, .iv d (oD g), .un]) PassesOwn.never rfl (xi_rng1 (by rfl) T.range xe_int) (xg_name (pg_name (i := 4) sclaw.nd rfl (by first | exact .inl rfl | exact .inr rfl))) (fun _ => (.keep (.keep (.keep (.keep (.keep .nil)))))) (fun s16 x17 => (xs_ifx (PW.pt (xw_or (xt_not (xt_val (xe_callDH h_law_sums_right hp hr (by decide) (by rfl) (pv 3) xa_nil))) (xw_or1 (xt_not (xt_val (xe_callDH h_law_counts_right hp hr (by decide) (by rfl) (pv 3) xa_nil)))))) (xs_ret xe_bl) (xs_nil (fun _ => (.keep (.keep (.keep (.keep (.drop .nil))))))))) (fun s16 => (xs_ifx (xt_not (xt_val (xe_callDH h_law_judged_right hp hr (by decide) (by rfl) (pv 3) xa_nil))) (xs_ret xe_bl) (xs_nil (fun _ => (.keep (.drop (.keep (.drop (.keep .nil)))))))))))) sclaw.nd rfl (.inl rfl) rfl rfl)) (fun s7 => (xs_set (i := 2) (xe_N (xn_lst (xa_consL (xe_enc (eP eI eI) (xe_callH h_fraction hp hr (by decide) (by rfl) (xa_cons xe_int (xa_cons (xe_neg xe_int) xa_nil)))) (xa_consL (xe_enc (eP eI eI) (xe_callH h_added hp hr (by decide) (by rfl) (xa_cons (xe_enc (eP eI eI) (xe_tup2 xe_int xe_int)) (xa_cons (xe_enc (eP eI eI) (xe_tup2 xe_int xe_int)) xa_nil)))) (xa_consL (xe_enc (eP eI eI) (xe_callH h_multiplied hp hr (by decide) (by rfl) (xa_cons (xe_enc eI xe_int) (xa_cons (xe_enc (eP eI eI) (xe_tup2 xe_int xe_int)) xa_nil)))) (xa_consL (xe_enc (eP eI eI) (xe_callH h_divided hp hr (by decide) (by rfl) (xa_cons (xe_enc (eP eI eI) (xe_tup2 xe_int xe_int)) (xa_cons (xe_enc eI (xe_neg xe_int)) xa_nil)))) (xa_consL (xe_enc (eP eI eI) (xe_callH h_added hp hr (by decide) (by rfl) (xa_cons (xe_enc (eP eI eI) (xe_tup2 xe_int xe_int)) (xa_cons (xe_enc (eP eI eI) (xe_tup2 xe_int xe_int)) xa_nil)))) xa_nilL))))))) (fun v30 => (xs_ifx (PW.pt (xw_or (xt_cmpD (cd_neD hr.units) (xe_VD (xe_enc (eL eV) (xe_var (pv 2)))) (xe_data (dL (dP dI dI)) (xe_N (xn_lst (xa_consL (xe_tup2 (xe_neg xe_int) xe_int) (xa_consL (xe_tup2 xe_int xe_int) (xa_consL (xe_tup2 xe_int xe_int) (xa_consL (xe_tup2 (xe_neg xe_int) xe_int) (xa_consL (xe_tup2 xe_int xe_int) xa_nilL)))))))) rfl) (xw_or1 (xt_cmpD (cd_ne (dL (dP dI dI)) (dL (dP dI dI)) hr.units) (xe_N (xn_lst (xa_consL (xe_callH h_power_of hp hr (by decide) (by rfl) (xa_cons (xe_enc (eP eI eI) (xe_tup2 (xe_neg xe_int) xe_int)) (xa_cons (xe_neg xe_int) xa_nil))) (xa_consL (xe_callH h_power_of hp hr (by decide) (by rfl) (xa_cons (xe_enc eI xe_int) (xa_cons xe_int xa_nil))) (xa_consL (xe_callH h_power_of hp hr (by decide) (by rfl) (xa_cons (xe_enc (eP eI eI) (xe_tup2 xe_int xe_int)) (xa_cons xe_int xa_nil))) xa_nilL))))) (xe_N (xn_lst (xa_consL (xe_tup2 (xe_neg xe_int) xe_int) (xa_consL (xe_tup2 xe_int xe_int) (xa_consL (xe_tup2 xe_int xe_int) xa_nilL))))) rfl)))) (xs_ret xe_bl) (xs_set (i := 2) (xe_N (xn_lst (xa_consL (xe_enc eI (xe_callH h_factorial hp hr (by decide) (by rfl) (xa_cons xe_int xa_nil))) (xa_consL (xe_enc eI (xe_callH h_binomial hp hr (by decide) (by rfl) (xa_cons xe_int (xa_cons xe_int xa_nil)))) (xa_consL (xe_enc eI (xe_callH h_binomial hp hr (by decide) (by rfl) (xa_cons xe_int (xa_cons xe_int xa_nil)))) (xa_consL (xe_enc eI (xe_callH h_falling hp hr (by decide) (by rfl) (xa_cons xe_int (xa_cons xe_int xa_nil)))) (xa_consL (xe_enc eI (xe_callH h_falling hp hr (by decide) (by rfl) (xa_cons (xe_neg xe_int) (xa_cons xe_int xa_nil)))) (xa_consL (xe_enc eI (xe_callH h_falling hp hr (by decide) (by rfl) (xa_cons xe_int (xa_cons xe_int xa_nil)))) (xa_consL (xe_enc eS (xe_callH h_number_text hp hr (by decide) (by rfl) (xa_cons (xe_enc (eP eI eI) (xe_tup2 (xe_neg xe_int) xe_int)) xa_nil))) xa_nilL))))))))) (fun v172 => (xs_ret (xe_cmpD (cd_eqD hr.units) (xe_VD (xe_enc (eL eV) (xe_N (xn_catL (xe_var (pv 2)) (xe_N (xn_lst (xa_consL (xe_enc eS (xe_callH h_number_text hp hr (by decide) (by rfl) (xa_cons (xe_enc (eP eI eI) (xe_tup2 xe_int xe_int)) xa_nil))) (xa_consL (xe_enc eS (xe_callH h_number_text hp hr (by decide) (by rfl) (xa_cons (xe_enc eI (xe_neg xe_int)) xa_nil))) xa_nilL)))))))) (xe_VD (xe_enc (eL eV) (xe_N (xn_lst (xa_consL (xe_enc eI xe_int) (xa_consL (xe_enc eI xe_int) (xa_consL (xe_enc eI xe_int) (xa_consL (xe_enc eI xe_int) (xa_consL (xe_enc eI xe_int) (xa_consL (xe_enc eI xe_int) (xa_consL (xe_enc eS xe_str) (xa_consL (xe_enc eS xe_str) (xa_consL (xe_enc eS xe_str) xa_nilL))))))))))))) rfl))) sclaw.nd rfl (.inl rfl) rfl rfl))) sclaw.nd rfl (.inl rfl) rfl rfl)))
  case hg => exact fun _ => rfl
end
section
theorem all_mk {l : PySem.W.OpenLaw} {w : World} {K : PySem.W.Frag} {h : Heap} {mg : Str → Option Value} {pp : Program} {lv : List (Str × PySem.W.WData)} {fa f_law_dice f_law_roll f_law_pick f_law_gcd f_law_fraction f_law_nb_drawn f_law_nb_pair f_is_whole f_is_fraction f_is_number f_check_number f_pair_of f_reduced f_sum_of f_added f_product_of f_multiplied f_law_plus f_law_times f_divided f_law_power f_law_nb_power f_is_integer f_is_count f_check_count f_whole_power f_power_of f_fraction f_pair_text f_number_text f_law_text f_law_sums_right f_falling_product f_factorial f_law_factorial f_binomial f_law_binomial f_check_integer f_falling f_law_falling f_law_counts_right f_is_name f_law_judged_right f_law : Addr} {t_MAX_CHOSEN : Tok} {t_MAX_NAME : Tok} {t_MAX_RAISED : Tok} (KX : K.In h) (G : h.Ns mainGlobals mg) (hfa : mg "law" = some (.ref fa)) (XX : PySem.W.XL pp lv mg h)
    (a_law_dice : PySem.W.nsIn K mainGlobals "_law_dice" = some (some (.ref f_law_dice))) (d_law_dice : Dfn K "_law_dice" slaw_dice f_law_dice)
    (a_law_roll : PySem.W.nsIn K mainGlobals "_law_roll" = some (some (.ref f_law_roll))) (d_law_roll : Dfn K "_law_roll" slaw_roll f_law_roll)
    (a_law_pick : PySem.W.nsIn K mainGlobals "_law_pick" = some (some (.ref f_law_pick))) (d_law_pick : Dfn K "_law_pick" slaw_pick f_law_pick)
    (a_law_gcd : PySem.W.nsIn K mainGlobals "_law_gcd" = some (some (.ref f_law_gcd))) (d_law_gcd : Dfn K "_law_gcd" slaw_gcd f_law_gcd)
    (a_law_fraction : PySem.W.nsIn K mainGlobals "_law_fraction" = some (some (.ref f_law_fraction))) (d_law_fraction : Dfn K "_law_fraction" slaw_fraction f_law_fraction)
    (a_law_nb_drawn : PySem.W.nsIn K mainGlobals "_law_nb_drawn" = some (some (.ref f_law_nb_drawn))) (d_law_nb_drawn : Dfn K "_law_nb_drawn" slaw_nb_drawn f_law_nb_drawn)
    (a_law_nb_pair : PySem.W.nsIn K mainGlobals "_law_nb_pair" = some (some (.ref f_law_nb_pair))) (d_law_nb_pair : Dfn K "_law_nb_pair" slaw_nb_pair f_law_nb_pair)
    (a_is_whole : PySem.W.nsIn K mainGlobals "is_whole" = some (some (.ref f_is_whole))) (d_is_whole : Dfn K "is_whole" sis_whole f_is_whole)
    (a_is_fraction : PySem.W.nsIn K mainGlobals "is_fraction" = some (some (.ref f_is_fraction))) (d_is_fraction : Dfn K "is_fraction" sis_fraction f_is_fraction)
    (a_is_number : PySem.W.nsIn K mainGlobals "is_number" = some (some (.ref f_is_number))) (d_is_number : Dfn K "is_number" sis_number f_is_number)
    (a_check_number : PySem.W.nsIn K mainGlobals "check_number" = some (some (.ref f_check_number))) (d_check_number : Dfn K "check_number" scheck_number f_check_number)
    (a_pair_of : PySem.W.nsIn K mainGlobals "pair_of" = some (some (.ref f_pair_of))) (d_pair_of : Dfn K "pair_of" spair_of f_pair_of)
    (a_reduced : PySem.W.nsIn K mainGlobals "reduced" = some (some (.ref f_reduced))) (d_reduced : Dfn K "reduced" sreduced f_reduced)
    (a_sum_of : PySem.W.nsIn K mainGlobals "sum_of" = some (some (.ref f_sum_of))) (d_sum_of : Dfn K "sum_of" ssum_of f_sum_of)
    (a_added : PySem.W.nsIn K mainGlobals "added" = some (some (.ref f_added))) (d_added : Dfn K "added" sadded f_added)
    (a_product_of : PySem.W.nsIn K mainGlobals "product_of" = some (some (.ref f_product_of))) (d_product_of : Dfn K "product_of" sproduct_of f_product_of)
    (a_multiplied : PySem.W.nsIn K mainGlobals "multiplied" = some (some (.ref f_multiplied))) (d_multiplied : Dfn K "multiplied" smultiplied f_multiplied)
    (a_law_plus : PySem.W.nsIn K mainGlobals "_law_plus" = some (some (.ref f_law_plus))) (d_law_plus : Dfn K "_law_plus" slaw_plus f_law_plus)
    (a_law_times : PySem.W.nsIn K mainGlobals "_law_times" = some (some (.ref f_law_times))) (d_law_times : Dfn K "_law_times" slaw_times f_law_times)
    (a_divided : PySem.W.nsIn K mainGlobals "divided" = some (some (.ref f_divided))) (d_divided : Dfn K "divided" sdivided f_divided)
    (a_law_power : PySem.W.nsIn K mainGlobals "_law_power" = some (some (.ref f_law_power))) (d_law_power : Dfn K "_law_power" slaw_power f_law_power)
    (a_law_nb_power : PySem.W.nsIn K mainGlobals "_law_nb_power" = some (some (.ref f_law_nb_power))) (d_law_nb_power : Dfn K "_law_nb_power" slaw_nb_power f_law_nb_power)
    (a_is_integer : PySem.W.nsIn K mainGlobals "is_integer" = some (some (.ref f_is_integer))) (d_is_integer : Dfn K "is_integer" sis_integer f_is_integer)
    (a_is_count : PySem.W.nsIn K mainGlobals "is_count" = some (some (.ref f_is_count))) (d_is_count : Dfn K "is_count" sis_count f_is_count)
    (a_check_count : PySem.W.nsIn K mainGlobals "check_count" = some (some (.ref f_check_count))) (d_check_count : Dfn K "check_count" scheck_count f_check_count)
    (a_whole_power : PySem.W.nsIn K mainGlobals "whole_power" = some (some (.ref f_whole_power))) (d_whole_power : Dfn K "whole_power" swhole_power f_whole_power)
    (a_power_of : PySem.W.nsIn K mainGlobals "power_of" = some (some (.ref f_power_of))) (d_power_of : Dfn K "power_of" spower_of f_power_of)
    (a_fraction : PySem.W.nsIn K mainGlobals "fraction" = some (some (.ref f_fraction))) (d_fraction : Dfn K "fraction" sfraction f_fraction)
    (a_pair_text : PySem.W.nsIn K mainGlobals "pair_text" = some (some (.ref f_pair_text))) (d_pair_text : Dfn K "pair_text" spair_text f_pair_text)
    (a_number_text : PySem.W.nsIn K mainGlobals "number_text" = some (some (.ref f_number_text))) (d_number_text : Dfn K "number_text" snumber_text f_number_text)
    (a_law_text : PySem.W.nsIn K mainGlobals "_law_text" = some (some (.ref f_law_text))) (d_law_text : Dfn K "_law_text" slaw_text f_law_text)
    (a_law_sums_right : PySem.W.nsIn K mainGlobals "_law_sums_right" = some (some (.ref f_law_sums_right))) (d_law_sums_right : Dfn K "_law_sums_right" slaw_sums_right f_law_sums_right)
    (a_falling_product : PySem.W.nsIn K mainGlobals "_falling_product" = some (some (.ref f_falling_product))) (d_falling_product : Dfn K "_falling_product" sfalling_product f_falling_product)
    (a_factorial : PySem.W.nsIn K mainGlobals "factorial" = some (some (.ref f_factorial))) (d_factorial : Dfn K "factorial" sfactorial f_factorial)
    (a_law_factorial : PySem.W.nsIn K mainGlobals "_law_factorial" = some (some (.ref f_law_factorial))) (d_law_factorial : Dfn K "_law_factorial" slaw_factorial f_law_factorial)
    (a_binomial : PySem.W.nsIn K mainGlobals "binomial" = some (some (.ref f_binomial))) (d_binomial : Dfn K "binomial" sbinomial f_binomial)
    (a_law_binomial : PySem.W.nsIn K mainGlobals "_law_binomial" = some (some (.ref f_law_binomial))) (d_law_binomial : Dfn K "_law_binomial" slaw_binomial f_law_binomial)
    (a_check_integer : PySem.W.nsIn K mainGlobals "check_integer" = some (some (.ref f_check_integer))) (d_check_integer : Dfn K "check_integer" scheck_integer f_check_integer)
    (a_falling : PySem.W.nsIn K mainGlobals "falling" = some (some (.ref f_falling))) (d_falling : Dfn K "falling" sfalling f_falling)
    (a_law_falling : PySem.W.nsIn K mainGlobals "_law_falling" = some (some (.ref f_law_falling))) (d_law_falling : Dfn K "_law_falling" slaw_falling f_law_falling)
    (a_law_counts_right : PySem.W.nsIn K mainGlobals "_law_counts_right" = some (some (.ref f_law_counts_right))) (d_law_counts_right : Dfn K "_law_counts_right" slaw_counts_right f_law_counts_right)
    (a_is_name : PySem.W.nsIn K mainGlobals "is_name" = some (some (.ref f_is_name))) (d_is_name : Dfn K "is_name" sis_name f_is_name)
    (a_law_judged_right : PySem.W.nsIn K mainGlobals "_law_judged_right" = some (some (.ref f_law_judged_right))) (d_law_judged_right : Dfn K "_law_judged_right" slaw_judged_right f_law_judged_right)
    (a_law : PySem.W.nsIn K mainGlobals "law" = some (some (.ref f_law))) (d_law : Dfn K "law" slaw f_law)
    (z_abs : PySem.W.nsIn K mainGlobals "abs" = some none) (z_all : PySem.W.nsIn K mainGlobals "all" = some none) (z_bool : PySem.W.nsIn K mainGlobals "bool" = some none) (z_int : PySem.W.nsIn K mainGlobals "int" = some none) (z_isinstance : PySem.W.nsIn K mainGlobals "isinstance" = some none) (z_len : PySem.W.nsIn K mainGlobals "len" = some none) (z_max : PySem.W.nsIn K mainGlobals "max" = some none) (z_min : PySem.W.nsIn K mainGlobals "min" = some none) (z_range : PySem.W.nsIn K mainGlobals "range" = some none) (z_str : PySem.W.nsIn K mainGlobals "str" = some none) (z_tuple : PySem.W.nsIn K mainGlobals "tuple" = some none)
    (i_MAX_CHOSEN : PySem.W.nsIn K mainGlobals "MAX_CHOSEN" = some (some (.int 1000 t_MAX_CHOSEN)))
    (i_MAX_NAME : PySem.W.nsIn K mainGlobals "MAX_NAME" = some (some (.int 8 t_MAX_NAME)))
    (i_MAX_RAISED : PySem.W.nsIn K mainGlobals "MAX_RAISED" = some (some (.int 1000 t_MAX_RAISED)))
    (i_g_FIRST_TOO_LONG : (("_FIRST_TOO_LONG" : Str), PySem.W.WData.int 1000000000000000000000000000000000000000000000000000000000000) ∈ lv)
    (mm_comb : PySem.W.nsIn K mainGlobals "comb" = some (some (.builtin "math.comb")))
    (mm_gcd : PySem.W.nsIn K mainGlobals "gcd" = some (some (.builtin "math.gcd")))
    : ∃ fd : FuncData, (∀ (s : Shared) (v : Value), BindsTo s fd ⟨[v], []⟩ [("_law_script", v)]) ∧ ∀ base : Heap, K.In base → base.Ns mainGlobals mg → FnP (fun A => A.guards = some []) l.prog w K mg base CX0 7 fa fd ["_law_script"] (SpW (pC (qX K) p0).ra qB m_law) := by
  have e := hfa.symm.trans (PySem.W.mg_of KX G a_law)
  cases e
  have T : Txt K mg := ⟨PySem.W.mg_none_of KX G z_abs, PySem.W.mg_none_of KX G z_all, PySem.W.mg_none_of KX G z_bool, PySem.W.mg_none_of KX G z_int, PySem.W.mg_none_of KX G z_isinstance, PySem.W.mg_none_of KX G z_len, PySem.W.mg_none_of KX G z_max, PySem.W.mg_none_of KX G z_min, PySem.W.mg_none_of KX G z_range, PySem.W.mg_none_of KX G z_str, PySem.W.mg_none_of KX G z_tuple, ⟨_, PySem.W.mg_of KX G i_MAX_CHOSEN⟩, ⟨_, PySem.W.mg_of KX G i_MAX_NAME⟩, ⟨_, PySem.W.mg_of KX G i_MAX_RAISED⟩, gint_of XX i_g_FIRST_TOO_LONG, PySem.W.mg_of KX G mm_comb, PySem.W.mg_of KX G mm_gcd⟩
  obtain ⟨fd_law_dice, F_law_dice⟩ := d_law_dice
  obtain ⟨fd_law_roll, F_law_roll⟩ := d_law_roll
  obtain ⟨fd_law_pick, F_law_pick⟩ := d_law_pick
  obtain ⟨fd_law_gcd, F_law_gcd⟩ := d_law_gcd
  obtain ⟨fd_law_fraction, F_law_fraction⟩ := d_law_fraction
  obtain ⟨fd_law_nb_drawn, F_law_nb_drawn⟩ := d_law_nb_drawn
  obtain ⟨fd_law_nb_pair, F_law_nb_pair⟩ := d_law_nb_pair
  obtain ⟨fd_is_whole, F_is_whole⟩ := d_is_whole
  obtain ⟨fd_is_fraction, F_is_fraction⟩ := d_is_fraction
  obtain ⟨fd_is_number, F_is_number⟩ := d_is_number
  obtain ⟨fd_check_number, F_check_number⟩ := d_check_number
  obtain ⟨fd_pair_of, F_pair_of⟩ := d_pair_of
  obtain ⟨fd_reduced, F_reduced⟩ := d_reduced
  obtain ⟨fd_sum_of, F_sum_of⟩ := d_sum_of
  obtain ⟨fd_added, F_added⟩ := d_added
  obtain ⟨fd_product_of, F_product_of⟩ := d_product_of
  obtain ⟨fd_multiplied, F_multiplied⟩ := d_multiplied
  obtain ⟨fd_law_plus, F_law_plus⟩ := d_law_plus
  obtain ⟨fd_law_times, F_law_times⟩ := d_law_times
  obtain ⟨fd_divided, F_divided⟩ := d_divided
  obtain ⟨fd_law_power, F_law_power⟩ := d_law_power
  obtain ⟨fd_law_nb_power, F_law_nb_power⟩ := d_law_nb_power
  obtain ⟨fd_is_integer, F_is_integer⟩ := d_is_integer
  obtain ⟨fd_is_count, F_is_count⟩ := d_is_count
  obtain ⟨fd_check_count, F_check_count⟩ := d_check_count
  obtain ⟨fd_whole_power, F_whole_power⟩ := d_whole_power
  obtain ⟨fd_power_of, F_power_of⟩ := d_power_of
  obtain ⟨fd_fraction, F_fraction⟩ := d_fraction
  obtain ⟨fd_pair_text, F_pair_text⟩ := d_pair_text
  obtain ⟨fd_number_text, F_number_text⟩ := d_number_text
  obtain ⟨fd_law_text, F_law_text⟩ := d_law_text
  obtain ⟨fd_law_sums_right, F_law_sums_right⟩ := d_law_sums_right
  obtain ⟨fd_falling_product, F_falling_product⟩ := d_falling_product
  obtain ⟨fd_factorial, F_factorial⟩ := d_factorial
  obtain ⟨fd_law_factorial, F_law_factorial⟩ := d_law_factorial
  obtain ⟨fd_binomial, F_binomial⟩ := d_binomial
  obtain ⟨fd_law_binomial, F_law_binomial⟩ := d_law_binomial
  obtain ⟨fd_check_integer, F_check_integer⟩ := d_check_integer
  obtain ⟨fd_falling, F_falling⟩ := d_falling
  obtain ⟨fd_law_falling, F_law_falling⟩ := d_law_falling
  obtain ⟨fd_law_counts_right, F_law_counts_right⟩ := d_law_counts_right
  obtain ⟨fd_is_name, F_is_name⟩ := d_is_name
  obtain ⟨fd_law_judged_right, F_law_judged_right⟩ := d_law_judged_right
  obtain ⟨fd_law, F_law⟩ := d_law
  refine ⟨fd_law, fun s v => ?_, fun base _ _ => ?_⟩
  · obtain ⟨oc, od, kV, doc, pm, an, cdv, ct, osl, rfl, lk, hcd⟩ := F_law.ex
    exact .of_eq rfl
  · have h_law_dice : Has l.prog w K mg base (fun A => A.guards = some []) "_law_dice" 1 ["_law_script", "_law_spot"] (SpN (pC (qX K) (pC qI p0)).ra qI m_law_dice) := ⟨_, _, k_law_dice F_law_dice T stb_guards, PySem.W.mg_of KX G a_law_dice, F_law_dice.kp, F_law_dice.binds (ps := ["_law_script", "_law_spot"]) fun _ _ _ _ _ _ us hl => match us, hl with | [_, _], _ => rfl⟩
    have h_law_roll : Has l.prog w K mg base (fun A => A.guards = some []) "_law_roll" 1 ["_law_dice_here", "_law_total"] (SpD (pC qI p0).ra qI m_law_roll) := ⟨_, _, k_law_roll F_law_roll T stb_guards, PySem.W.mg_of KX G a_law_roll, F_law_roll.kp, F_law_roll.binds (ps := ["_law_dice_here", "_law_total"]) fun _ _ _ _ _ _ us hl => match us, hl with | [_, _], _ => rfl⟩
    have h_law_pick : Has l.prog w K mg base (fun A => A.guards = some []) "_law_pick" 2 ["_law_dice_here", "_law_items"] (SpD (pC (qL qI) p0).ra qI m_law_pick) := ⟨_, _, k_law_pick F_law_pick T stb_guards h_law_roll, PySem.W.mg_of KX G a_law_pick, F_law_pick.kp, F_law_pick.binds (ps := ["_law_dice_here", "_law_items"]) fun _ _ _ _ _ _ us hl => match us, hl with | [_, _], _ => rfl⟩
    have h_law_gcd : Has l.prog w K mg base (fun A => A.guards = some []) "_law_gcd" 1 ["_law_one", "_law_other"] (SpF (pC qI (pC qI p0)).ra qI m_law_gcd) := ⟨_, _, k_law_gcd F_law_gcd T stb_guards, PySem.W.mg_of KX G a_law_gcd, F_law_gcd.kp, F_law_gcd.binds (ps := ["_law_one", "_law_other"]) fun _ _ _ _ _ _ us hl => match us, hl with | [_, _], _ => rfl⟩
    have h_law_fraction : Has l.prog w K mg base (fun A => A.guards = some []) "_law_fraction" 2 ["_law_top", "_law_bottom"] (SpF (pC qI (pC qI p0)).ra (qP qI qI) m_law_fraction) := ⟨_, _, k_law_fraction F_law_fraction T stb_guards h_law_gcd, PySem.W.mg_of KX G a_law_fraction, F_law_fraction.kp, F_law_fraction.binds (ps := ["_law_top", "_law_bottom"]) fun _ _ _ _ _ _ us hl => match us, hl with | [_, _], _ => rfl⟩
    have h_law_nb_drawn : Has l.prog w K mg base (fun A => A.guards = some []) "_law_nb_drawn" 3 ["_law_dice_here"] (SpD p0.ra qV m_law_nb_drawn) := ⟨_, _, k_law_nb_drawn F_law_nb_drawn T stb_guards h_law_fraction h_law_pick h_law_roll, PySem.W.mg_of KX G a_law_nb_drawn, F_law_nb_drawn.kp, F_law_nb_drawn.binds (ps := ["_law_dice_here"]) fun _ _ _ _ _ _ us hl => match us, hl with | [_], _ => rfl⟩
    have h_law_nb_pair : Has l.prog w K mg base (fun A => A.guards = some []) "_law_nb_pair" 1 ["_law_number"] (SpF (pC qV p0).ra (qP qI qI) m_law_nb_pair) := ⟨_, _, k_law_nb_pair F_law_nb_pair T stb_guards, PySem.W.mg_of KX G a_law_nb_pair, F_law_nb_pair.kp, F_law_nb_pair.binds (ps := ["_law_number"]) fun _ _ _ _ _ _ us hl => match us, hl with | [_], _ => rfl⟩
    have h_is_whole : Has l.prog w K mg base (fun A => A.guards = some []) "is_whole" 1 ["value"] (SpF (pC qV p0).ra qB m_is_whole) := ⟨_, _, k_is_whole F_is_whole T stb_guards, PySem.W.mg_of KX G a_is_whole, F_is_whole.kp, F_is_whole.binds (ps := ["value"]) fun _ _ _ _ _ _ us hl => match us, hl with | [_], _ => rfl⟩
    have h_is_fraction : Has l.prog w K mg base (fun A => A.guards = some []) "is_fraction" 2 ["value"] (SpF (pC qV p0).ra qB m_is_fraction) := ⟨_, _, k_is_fraction F_is_fraction T stb_guards h_is_whole, PySem.W.mg_of KX G a_is_fraction, F_is_fraction.kp, F_is_fraction.binds (ps := ["value"]) fun _ _ _ _ _ _ us hl => match us, hl with | [_], _ => rfl⟩
    have h_is_number : Has l.prog w K mg base (fun A => A.guards = some []) "is_number" 3 ["value"] (SpF (pC qV p0).ra qB m_is_number) := ⟨_, _, k_is_number F_is_number T stb_guards h_is_fraction h_is_whole, PySem.W.mg_of KX G a_is_number, F_is_number.kp, F_is_number.binds (ps := ["value"]) fun _ _ _ _ _ _ us hl => match us, hl with | [_], _ => rfl⟩
    have h_check_number : Has l.prog w K mg base (fun A => A.guards = some []) "check_number" 4 ["value"] (SpF (pC qV p0).ra qN m_check_number) := ⟨_, _, k_check_number F_check_number T stb_guards h_is_number, PySem.W.mg_of KX G a_check_number, F_check_number.kp, F_check_number.binds (ps := ["value"]) fun _ _ _ _ _ _ us hl => match us, hl with | [_], _ => rfl⟩
    have h_pair_of : Has l.prog w K mg base (fun A => A.guards = some []) "pair_of" 1 ["number"] (SpF (pC qV p0).ra (qP qI qI) m_pair_of) := ⟨_, _, k_pair_of F_pair_of T stb_guards, PySem.W.mg_of KX G a_pair_of, F_pair_of.kp, F_pair_of.binds (ps := ["number"]) fun _ _ _ _ _ _ us hl => match us, hl with | [_], _ => rfl⟩
    have h_reduced : Has l.prog w K mg base (fun A => A.guards = some []) "reduced" 1 ["top", "bottom"] (SpF (pC qI (pC qI p0)).ra (qP qI qI) m_reduced) := ⟨_, _, k_reduced F_reduced T stb_guards, PySem.W.mg_of KX G a_reduced, F_reduced.kp, F_reduced.binds (ps := ["top", "bottom"]) fun _ _ _ _ _ _ us hl => match us, hl with | [_, _], _ => rfl⟩
    have h_sum_of : Has l.prog w K mg base (fun A => A.guards = some []) "sum_of" 2 ["one", "other"] (SpF (pC (qT qI) (pC (qT qI) p0)).ra (qP qI qI) m_sum_of) := ⟨_, _, k_sum_of F_sum_of T stb_guards h_reduced, PySem.W.mg_of KX G a_sum_of, F_sum_of.kp, F_sum_of.binds (ps := ["one", "other"]) fun _ _ _ _ _ _ us hl => match us, hl with | [_, _], _ => rfl⟩
    have h_added : Has l.prog w K mg base (fun A => A.guards = some []) "added" 5 ["one", "other"] (SpF (pC qV (pC qV p0)).ra (qP qI qI) m_added) := ⟨_, _, k_added F_added T stb_guards h_check_number h_pair_of h_sum_of, PySem.W.mg_of KX G a_added, F_added.kp, F_added.binds (ps := ["one", "other"]) fun _ _ _ _ _ _ us hl => match us, hl with | [_, _], _ => rfl⟩
    have h_product_of : Has l.prog w K mg base (fun A => A.guards = some []) "product_of" 2 ["one", "other"] (SpF (pC (qT qI) (pC (qT qI) p0)).ra (qP qI qI) m_product_of) := ⟨_, _, k_product_of F_product_of T stb_guards h_reduced, PySem.W.mg_of KX G a_product_of, F_product_of.kp, F_product_of.binds (ps := ["one", "other"]) fun _ _ _ _ _ _ us hl => match us, hl with | [_, _], _ => rfl⟩
    have h_multiplied : Has l.prog w K mg base (fun A => A.guards = some []) "multiplied" 5 ["one", "other"] (SpF (pC qV (pC qV p0)).ra (qP qI qI) m_multiplied) := ⟨_, _, k_multiplied F_multiplied T stb_guards h_check_number h_pair_of h_product_of, PySem.W.mg_of KX G a_multiplied, F_multiplied.kp, F_multiplied.binds (ps := ["one", "other"]) fun _ _ _ _ _ _ us hl => match us, hl with | [_, _], _ => rfl⟩
    have h_law_plus : Has l.prog w K mg base (fun A => A.guards = some []) "_law_plus" 3 ["_law_one", "_law_other"] (SpF (pC (qT qI) (pC (qT qI) p0)).ra (qP qI qI) m_law_plus) := ⟨_, _, k_law_plus F_law_plus T stb_guards h_law_fraction, PySem.W.mg_of KX G a_law_plus, F_law_plus.kp, F_law_plus.binds (ps := ["_law_one", "_law_other"]) fun _ _ _ _ _ _ us hl => match us, hl with | [_, _], _ => rfl⟩
    have h_law_times : Has l.prog w K mg base (fun A => A.guards = some []) "_law_times" 3 ["_law_one", "_law_other"] (SpF (pC (qT qI) (pC (qT qI) p0)).ra (qP qI qI) m_law_times) := ⟨_, _, k_law_times F_law_times T stb_guards h_law_fraction, PySem.W.mg_of KX G a_law_times, F_law_times.kp, F_law_times.binds (ps := ["_law_one", "_law_other"]) fun _ _ _ _ _ _ us hl => match us, hl with | [_, _], _ => rfl⟩
    have h_divided : Has l.prog w K mg base (fun A => A.guards = some []) "divided" 5 ["one", "other"] (SpF (pC qV (pC qV p0)).ra (qP qI qI) m_divided) := ⟨_, _, k_divided F_divided T stb_guards h_check_number h_pair_of h_reduced, PySem.W.mg_of KX G a_divided, F_divided.kp, F_divided.binds (ps := ["one", "other"]) fun _ _ _ _ _ _ us hl => match us, hl with | [_, _], _ => rfl⟩
    have h_law_power : Has l.prog w K mg base (fun A => A.guards = some []) "_law_power" 1 ["_law_number", "_law_exponent"] (SpF (pC qI (pC qI p0)).ra qI m_law_power) := ⟨_, _, k_law_power F_law_power T stb_guards, PySem.W.mg_of KX G a_law_power, F_law_power.kp, F_law_power.binds (ps := ["_law_number", "_law_exponent"]) fun _ _ _ _ _ _ us hl => match us, hl with | [_, _], _ => rfl⟩
    have h_law_nb_power : Has l.prog w K mg base (fun A => A.guards = some []) "_law_nb_power" 2 ["_law_pair", "_law_exponent"] (SpF (pC (qT qI) (pC qI p0)).ra (qP qI qI) m_law_nb_power) := ⟨_, _, k_law_nb_power F_law_nb_power T stb_guards h_law_power, PySem.W.mg_of KX G a_law_nb_power, F_law_nb_power.kp, F_law_nb_power.binds (ps := ["_law_pair", "_law_exponent"]) fun _ _ _ _ _ _ us hl => match us, hl with | [_, _], _ => rfl⟩
    have h_is_integer : Has l.prog w K mg base (fun A => A.guards = some []) "is_integer" 2 ["value"] (SpF (pC qV p0).ra qB m_is_integer) := ⟨_, _, k_is_integer F_is_integer T stb_guards h_is_whole, PySem.W.mg_of KX G a_is_integer, F_is_integer.kp, F_is_integer.binds (ps := ["value"]) fun _ _ _ _ _ _ us hl => match us, hl with | [_], _ => rfl⟩
    have h_is_count : Has l.prog w K mg base (fun A => A.guards = some []) "is_count" 3 ["value", "low", "high"] (SpF (pC qI (pC qI (pC qI p0))).ra qB m_is_count) := ⟨_, _, k_is_count F_is_count T stb_guards h_is_integer, PySem.W.mg_of KX G a_is_count, F_is_count.kp, F_is_count.binds (ps := ["value", "low", "high"]) fun _ _ _ _ _ _ us hl => match us, hl with | [_, _, _], _ => rfl⟩
    have h_check_count : Has l.prog w K mg base (fun A => A.guards = some []) "check_count" 4 ["value", "low", "high"] (SpF (pC qI (pC qI (pC qI p0))).ra qN m_check_count) := ⟨_, _, k_check_count F_check_count T stb_guards h_is_count, PySem.W.mg_of KX G a_check_count, F_check_count.kp, F_check_count.binds (ps := ["value", "low", "high"]) fun _ _ _ _ _ _ us hl => match us, hl with | [_, _, _], _ => rfl⟩
    have h_whole_power : Has l.prog w K mg base (fun A => A.guards = some []) "whole_power" 1 ["base", "many"] (SpF (pC qI (pC qI p0)).ra qI m_whole_power) := ⟨_, _, k_whole_power F_whole_power T stb_guards, PySem.W.mg_of KX G a_whole_power, F_whole_power.kp, F_whole_power.binds (ps := ["base", "many"]) fun _ _ _ _ _ _ us hl => match us, hl with | [_, _], _ => rfl⟩
    have h_power_of : Has l.prog w K mg base (fun A => A.guards = some []) "power_of" 5 ["number", "many"] (SpF (pC qV (pC qI p0)).ra (qP qI qI) m_power_of) := ⟨_, _, k_power_of F_power_of T stb_guards h_check_count h_check_number h_pair_of h_reduced h_whole_power, PySem.W.mg_of KX G a_power_of, F_power_of.kp, F_power_of.binds (ps := ["number", "many"]) fun _ _ _ _ _ _ us hl => match us, hl with | [_, _], _ => rfl⟩
    have h_fraction : Has l.prog w K mg base (fun A => A.guards = some []) "fraction" 2 ["top", "bottom"] (SpF (pC qI (pC qI p0)).ra (qP qI qI) m_fraction) := ⟨_, _, k_fraction F_fraction T stb_guards h_is_whole h_reduced, PySem.W.mg_of KX G a_fraction, F_fraction.kp, F_fraction.binds (ps := ["top", "bottom"]) fun _ _ _ _ _ _ us hl => match us, hl with | [_, _], _ => rfl⟩
    have h_pair_text : Has l.prog w K mg base (fun A => A.guards = some []) "pair_text" 1 ["pair"] (SpF (pC (qT qI) p0).ra qS m_pair_text) := ⟨_, _, k_pair_text F_pair_text T stb_guards, PySem.W.mg_of KX G a_pair_text, F_pair_text.kp, F_pair_text.binds (ps := ["pair"]) fun _ _ _ _ _ _ us hl => match us, hl with | [_], _ => rfl⟩
    have h_number_text : Has l.prog w K mg base (fun A => A.guards = some []) "number_text" 5 ["number"] (SpF (pC qV p0).ra qS m_number_text) := ⟨_, _, k_number_text F_number_text T stb_guards h_check_number h_pair_of h_pair_text, PySem.W.mg_of KX G a_number_text, F_number_text.kp, F_number_text.binds (ps := ["number"]) fun _ _ _ _ _ _ us hl => match us, hl with | [_], _ => rfl⟩
    have h_law_text : Has l.prog w K mg base (fun A => A.guards = some []) "_law_text" 1 ["_law_pair"] (SpF (pC (qT qI) p0).ra qS m_law_text) := ⟨_, _, k_law_text F_law_text T stb_guards, PySem.W.mg_of KX G a_law_text, F_law_text.kp, F_law_text.binds (ps := ["_law_pair"]) fun _ _ _ _ _ _ us hl => match us, hl with | [_], _ => rfl⟩
    have h_law_sums_right : Has l.prog w K mg base (fun A => A.guards = some []) "_law_sums_right" 6 ["_law_dice_here"] (SpD p0.ra qB m_law_sums_right) := ⟨_, _, k_law_sums_right F_law_sums_right T stb_guards h_added h_divided h_fraction h_is_fraction h_is_number h_law_fraction h_law_nb_drawn h_law_nb_pair h_law_nb_power h_law_plus h_law_roll h_law_text h_law_times h_multiplied h_number_text h_power_of, PySem.W.mg_of KX G a_law_sums_right, F_law_sums_right.kp, F_law_sums_right.binds (ps := ["_law_dice_here"]) fun _ _ _ _ _ _ us hl => match us, hl with | [_], _ => rfl⟩
    have h_falling_product : Has l.prog w K mg base (fun A => A.guards = some []) "_falling_product" 1 ["top", "low"] (SpF (pC qI (pC qI p0)).ra qI m_falling_product) := ⟨_, _, k_falling_product F_falling_product T stb_guards, PySem.W.mg_of KX G a_falling_product, F_falling_product.kp, F_falling_product.binds (ps := ["top", "low"]) fun _ _ _ _ _ _ us hl => match us, hl with | [_, _], _ => rfl⟩
    have h_factorial : Has l.prog w K mg base (fun A => A.guards = some []) "factorial" 5 ["number"] (SpF (pC qI p0).ra qI m_factorial) := ⟨_, _, k_factorial F_factorial T stb_guards h_check_count h_falling_product, PySem.W.mg_of KX G a_factorial, F_factorial.kp, F_factorial.binds (ps := ["number"]) fun _ _ _ _ _ _ us hl => match us, hl with | [_], _ => rfl⟩
    have h_law_factorial : Has l.prog w K mg base (fun A => A.guards = some []) "_law_factorial" 1 ["_law_number"] (SpF (pC qI p0).ra qI m_law_factorial) := ⟨_, _, k_law_factorial F_law_factorial T stb_guards, PySem.W.mg_of KX G a_law_factorial, F_law_factorial.kp, F_law_factorial.binds (ps := ["_law_number"]) fun _ _ _ _ _ _ us hl => match us, hl with | [_], _ => rfl⟩
    have h_binomial : Has l.prog w K mg base (fun A => A.guards = some []) "binomial" 5 ["top", "low"] (SpF (pC qI (pC qI p0)).ra qI m_binomial) := ⟨_, _, k_binomial F_binomial T stb_guards h_check_count, PySem.W.mg_of KX G a_binomial, F_binomial.kp, F_binomial.binds (ps := ["top", "low"]) fun _ _ _ _ _ _ us hl => match us, hl with | [_, _], _ => rfl⟩
    have h_law_binomial : Has l.prog w K mg base (fun A => A.guards = some []) "_law_binomial" 1 ["_law_top", "_law_low"] (SpF (pC qI (pC qI p0)).ra qI m_law_binomial) := ⟨_, _, k_law_binomial F_law_binomial T stb_guards, PySem.W.mg_of KX G a_law_binomial, F_law_binomial.kp, F_law_binomial.binds (ps := ["_law_top", "_law_low"]) fun _ _ _ _ _ _ us hl => match us, hl with | [_, _], _ => rfl⟩
    have h_check_integer : Has l.prog w K mg base (fun A => A.guards = some []) "check_integer" 3 ["value"] (SpF (pC qI p0).ra qN m_check_integer) := ⟨_, _, k_check_integer F_check_integer T stb_guards h_is_integer, PySem.W.mg_of KX G a_check_integer, F_check_integer.kp, F_check_integer.binds (ps := ["value"]) fun _ _ _ _ _ _ us hl => match us, hl with | [_], _ => rfl⟩
    have h_falling : Has l.prog w K mg base (fun A => A.guards = some []) "falling" 5 ["top", "low"] (SpF (pC qI (pC qI p0)).ra qI m_falling) := ⟨_, _, k_falling F_falling T stb_guards h_check_count h_check_integer h_falling_product, PySem.W.mg_of KX G a_falling, F_falling.kp, F_falling.binds (ps := ["top", "low"]) fun _ _ _ _ _ _ us hl => match us, hl with | [_, _], _ => rfl⟩
    have h_law_falling : Has l.prog w K mg base (fun A => A.guards = some []) "_law_falling" 1 ["_law_top", "_law_low"] (SpF (pC qI (pC qI p0)).ra qI m_law_falling) := ⟨_, _, k_law_falling F_law_falling T stb_guards, PySem.W.mg_of KX G a_law_falling, F_law_falling.kp, F_law_falling.binds (ps := ["_law_top", "_law_low"]) fun _ _ _ _ _ _ us hl => match us, hl with | [_, _], _ => rfl⟩
    have h_law_counts_right : Has l.prog w K mg base (fun A => A.guards = some []) "_law_counts_right" 6 ["_law_dice_here"] (SpD p0.ra qB m_law_counts_right) := ⟨_, _, k_law_counts_right F_law_counts_right T stb_guards h_binomial h_factorial h_falling h_law_binomial h_law_factorial h_law_falling h_law_pick h_law_roll, PySem.W.mg_of KX G a_law_counts_right, F_law_counts_right.kp, F_law_counts_right.binds (ps := ["_law_dice_here"]) fun _ _ _ _ _ _ us hl => match us, hl with | [_], _ => rfl⟩
    have h_is_name : Has l.prog w K mg base (fun A => A.guards = some []) "is_name" 1 ["value"] (SpF (pC qV p0).ra qB m_is_name) := ⟨_, _, k_is_name F_is_name T stb_guards, PySem.W.mg_of KX G a_is_name, F_is_name.kp, F_is_name.binds (ps := ["value"]) fun _ _ _ _ _ _ us hl => match us, hl with | [_], _ => rfl⟩
    have h_law_judged_right : Has l.prog w K mg base (fun A => A.guards = some []) "_law_judged_right" 4 ["_law_dice_here"] (SpD p0.ra qB m_law_judged_right) := ⟨_, _, k_law_judged_right F_law_judged_right T stb_guards h_is_fraction h_is_integer h_is_name h_is_number, PySem.W.mg_of KX G a_law_judged_right, F_law_judged_right.kp, F_law_judged_right.binds (ps := ["_law_dice_here"]) fun _ _ _ _ _ _ us hl => match us, hl with | [_], _ => rfl⟩
    exact k_law F_law T stb_guards h_added h_binomial h_divided h_factorial h_falling h_fraction h_law_counts_right h_law_dice h_law_judged_right h_law_sums_right h_multiplied h_number_text h_power_of
end

end K

set_option maxRecDepth 100000
set_option maxHeartbeats 4000000
/-! V4: the dice, and what is drawn. -/
namespace K
open PySem L2 Rt
def DI (n : Int) (g : Gh) : Prop := ∃ l s c : Int, g = [l, s, c] ∧ 0 ≤ l ∧ 0 ≤ s ∧ s < 2 ^ 80 ∧ 0 ≤ c ∧ c ≤ n
theorem log_le {i : Int} (h1 : -(2 ^ 250) < i) (h2 : i < 2 ^ 250) : i.natAbs.log2 ≤ 250 := by
  by_cases z : i.natAbs = 0
  · rw [z]; decide
  · refine Nat.le_of_lt ((Nat.log2_lt z).mpr ?_)
    omega
theorem mulC_of {i j : Int} (h1 : -(2 ^ 250) < i) (h2 : i < 2 ^ 250) (h3 : -(2 ^ 250) < j) (h4 : j < 2 ^ 250) : mulC i j = some (i * j) := by
  unfold mulC
  have a := log_le h1 h2
  have b := log_le h3 h4
  rw [if_pos (by omega)]
theorem modC_of {i j : Int} (h : 0 < j) : modC i j = some (i % j) := by
  unfold modC
  rw [if_pos h]
theorem divC_of {i j : Int} (h : 0 < j) (h2 : j < 2 ^ 250) : divC i j = some (i / j) := by
  unfold divC
  have := log_le (i := j) (by omega) h2
  rw [if_pos ⟨h, by omega⟩]
theorem at0 (l s c : Int) : L2.atI [l, s, c] 0 = some l := rfl
theorem at1 (l s c : Int) : L2.atI [l, s, c] 1 = some s := rfl
theorem at2 (l s c : Int) : L2.atI [l, s, c] 2 = some c := rfl
theorem roll_ok {n total : Int} {g : Gh} {P : Int → Gh → Prop} (h : DI n g) (hn : n < 1000000) (h0 : 0 < total) (h1 : total < 2 ^ 250) (k : ∀ r g', 0 ≤ r → r < total → DI (n + 1) g' → P r g') : m_law_roll (total, ()) g P := by
  obtain ⟨l, s, c, rfl, hl, hs, hs2, hc, hc2⟩ := h
  unfold m_law_roll w_law_roll
  by_cases z : 0 < l
  · simp [rtOf, rtK, upF, Fl.up, W.bind, W.ret, W.get, W.gset, ofO, at0, z, modC, h0]
    refine ⟨l / total, divC_of h0 (by omega), 0, rfl, k _ _ (Int.emod_nonneg _ (by omega)) (Int.emod_lt_of_pos _ h0) ⟨l / total, s, c, rfl, Int.ediv_nonneg hl (by omega), hs, hs2, hc, by omega⟩⟩
  · simp [rtOf, rtK, upF, Fl.up, W.bind, W.ret, W.get, W.gset, ofO, at0, at1, at2, z]
    have m1 : ∀ x : Int, 0 ≤ x % 2305843009213693403 ∧ x % 2305843009213693403 < 2305843009213693403 := fun x => ⟨Int.emod_nonneg _ (by decide), Int.emod_lt_of_pos _ (by decide)⟩
    have m2 : ∀ x : Int, 0 ≤ x % 2305843009213693373 ∧ x % 2305843009213693373 < 2305843009213693373 := fun x => ⟨Int.emod_nonneg _ (by decide), Int.emod_lt_of_pos _ (by decide)⟩
    refine ⟨2, rfl, s, rfl, c + 1, rfl, _, mulC_of (by omega) (by omega) (by omega) (by omega), _, modC_of (by decide), ?_⟩
    obtain ⟨a1, a2⟩ := m1 (s + 99990001 * (c + 1))
    refine ⟨_, mulC_of (by omega) (by omega) (by omega) (by omega), c + 1, rfl, _, mulC_of (by omega) (by omega) (by omega) (by omega), _, modC_of (by decide), ?_⟩
    obtain ⟨b1, b2⟩ := m2 ((s + 99990001 * (c + 1)) % 2305843009213693403 * ((s + 99990001 * (c + 1)) % 2305843009213693403) + 83 * (c + 1))
    refine ⟨_, mulC_of (by omega) (by omega) (by omega) (by omega), _, divC_of (by decide) (by decide), _, modC_of h0, ?_⟩
    exact k _ _ (Int.emod_nonneg _ (by omega)) (Int.emod_lt_of_pos _ h0) ⟨l, s, c + 1, rfl, hl, hs, hs2, by omega, by omega⟩
theorem powC_of {i j : Int} (h0 : 0 ≤ j) (h1 : j ≤ 1000000) (h2 : i.natAbs < 2 ^ 64) : powC i j = some (i ^ j.toNat) := by
  unfold powC
  rw [if_pos ⟨h0, h1, h2⟩]
theorem atI_in {ns : List Int} {i : Int} (h0 : 0 ≤ i) (h1 : i < ns.length) : ∃ x, L2.atI ns i = some x := by
  have e : i.toNat < ns.length := by omega
  refine ⟨ns[i.toNat], ?_⟩
  unfold L2.atI ixN
  rw [if_pos h0, if_pos h1]
  simp [e]
theorem big : (10 : Int) ^ 57 * 10 ^ 60 = 10 ^ 117 := by decide +kernel
theorem bill : (0 : Int) < 1000000000000000000000000000000000000000000000000000000000000000000000000000000000000000000000000000000000000000000000 := by decide
theorem dice_ok (ns : List Int) (spot : Int) (h0 : 0 ≤ spot) (h1 : spot < 5) : ∃ g, m_law_dice (ns, spot, ()) = some g ∧ DI 0 g := by
  have key : ∀ v : Int, 0 ≤ (v.natAbs : Int) % 1152921504606846883 ∧ (v.natAbs : Int) % 1152921504606846883 < 1152921504606846883 := fun v => ⟨Int.emod_nonneg _ (by decide), Int.emod_lt_of_pos _ (by decide)⟩
  have fin : ∀ v : Int, ∃ s : Int, mulC ((v.natAbs : Int) % 1152921504606846883) 59 = some ((v.natAbs : Int) % 1152921504606846883 * 59) ∧ mulC 977 spot = some (977 * spot) ∧ mulC 47 (if v < 0 then 1 else 0) = some (47 * (if v < 0 then 1 else 0)) ∧
      s = (v.natAbs : Int) % 1152921504606846883 * 59 + 977 * spot + 47 * (if v < 0 then 1 else 0) + 13 ∧ 0 ≤ s ∧ s < 2 ^ 80 := fun v => by
    obtain ⟨a, b⟩ := key v
    have c : (0 : Int) ≤ (if v < 0 then 1 else 0) ∧ (if v < 0 then (1 : Int) else 0) ≤ 1 := by split <;> decide
    exact ⟨_, mulC_of (by omega) (by omega) (by omega) (by omega), mulC_of (by omega) (by omega) (by omega) (by omega), mulC_of (by omega) (by omega) (by omega) (by omega), rfl, by omega, by omega⟩
  have go : ∀ v : Int, ∃ g, (((modC (if 100000000000000000 < (v.natAbs : Int) then (v.natAbs : Int) - 100000000000000000 else 0) 1000000000000000000000000000000000000000000000000000000000000000000000000000000000000000000000000000000000000000000000).bind fun v12 =>
      (((((((((modC (↑v.natAbs) 1152921504606846883).bind fun p31 => mulC p31 59).bind fun p35 => (mulC 977 spot).bind fun q36 => some (p35 + q36)).bind fun p42 => (mulC 47 (if v < 0 then 1 else 0)).bind fun q43 => some (p42 + q43)).bind fun p44 => some (p44 + 13)).bind fun x48 => some [x48, 0]).bind
        fun y51 => some (v12 :: y51)).bind fun x52 => lenK x52).bind fun x53 => some (Fl.rt (β := Empty) (γ := Unit) x53))).bind rtKO) = some g ∧ DI 0 g := fun v => by
    obtain ⟨s, e1, e2, e3, es, s0, s1⟩ := fin v
    rw [modC_of bill, modC_of (by decide)]
    simp only [Option.bind_some, e1, e2, e3]
    rw [← es]
    refine ⟨_, rfl, _, s, 0, rfl, Int.emod_nonneg _ (by decide), s0, s1, by decide, by decide⟩
  unfold m_law_dice o_law_dice rtO
  by_cases hlt : spot < ns.length
  · obtain ⟨x, hx⟩ := atI_in h0 hlt
    have := go x
    simp [rtKO, powC, mulC_of, b2, hlt, hx]
    simpa using this
  · have := go (73 * spot + 41)
    simp [rtKO, powC, mulC_of, b2, hlt]
    rw [mulC_of (by decide) (by decide) (by omega) (by omega)]
    simpa using this
theorem pick_ok {n : Int} {g : Gh} {items : List Int} {P : Int → Gh → Prop} (h : DI n g) (hn : n < 1000000) (h0 : 0 < items.length) (h1 : items.length < 1000000) (k : ∀ x g', x ∈ items → DI (n + 1) g' → P x g') : m_law_pick (items, ()) g P := by
  unfold m_law_pick w_law_pick
  simp [rtOf, rtK, W.bind, W.ret, ofO]
  refine roll_ok h hn (by omega) (by omega) fun r g' r0 r1 hg => ?_
  obtain ⟨x, hx⟩ := atI_in (ns := items) r0 r1
  refine ⟨x, hx, k x g' ?_ hg⟩
  unfold L2.atI ixN at hx
  rw [if_pos r0, if_pos r1] at hx
  exact List.mem_of_getElem? hx
end K

set_option maxRecDepth 100000
set_option maxHeartbeats 4000000
/-! C2: tools. -/
namespace K
open PySem L2 Rt
theorem bindI {α β : Type} {m : W α} {f : α → W β} {g : Gh} {P : β → Gh → Prop} (h : m g fun a g1 => f a g1 P) : W.bind m f g P := h
theorem retI {α : Type} {a : α} {g : Gh} {P : α → Gh → Prop} (h : P a g) : W.ret a g P := h
theorem putI {g g0 : Gh} {P : Unit → Gh → Prop} (h : P () g0) : W.put g0 g P := h
theorem ofI {α : Type} {o : Option α} {a : α} {g : Gh} {P : α → Gh → Prop} (e : o = some a) (h : P a g) : ofO o g P := ⟨a, e, h⟩
theorem bindFI {ρ β β' γ : Type} {m : W (Fl ρ β γ)} {k : β → W (Fl ρ β' γ)} {g : Gh} {P : Fl ρ β' γ → Gh → Prop} (h : m g fun a g1 => bindK k a g1 P) : bindF m k g P := h
theorem rtOfI {ρ β γ : Type} {m : W (Fl ρ β γ)} {g : Gh} {P : ρ → Gh → Prop} (h : m g fun a g1 => rtK a g1 P) : rtOf m g P := h
theorem rtKI {ρ β γ : Type} {a : ρ} {g : Gh} {P : ρ → Gh → Prop} (h : P a g) : rtK (Fl.rt a : Fl ρ β γ) g P := h
theorem bindKI {ρ β β' γ : Type} {b : β} {k : β → W (Fl ρ β' γ)} {g : Gh} {P : Fl ρ β' γ → Gh → Prop} (h : k b g P) : bindK k (Fl.nx b) g P := h
theorem DI.mono {n m : Int} {g : Gh} (h : DI n g) (e : n ≤ m) : DI m g :=
  let ⟨l, s, c, a1, a2, a3, a4, a5, a6⟩ := h
  ⟨l, s, c, a1, a2, a3, a4, a5, Int.le_trans a6 e⟩
theorem ifF {ρ : Type} {b : Bool} {x y : W ρ} {g : Gh} {P : ρ → Gh → Prop} (e : b = false) (h : y g P) : (if b = true then x else y) g P := by
  subst e
  exact h
theorem ifT {ρ : Type} {b : Bool} {x y : W ρ} {g : Gh} {P : ρ → Gh → Prop} (e : b = true) (h : x g P) : (if b = true then x else y) g P := by
  subst e
  exact h
theorem branch {β : Type} {R : β → Gh → Prop} {ρ γ : Type} {m : W (Fl ρ β γ)} {g : Gh} {Q : Fl ρ β γ → Gh → Prop} (hm : ∀ Q' : Fl ρ β γ → Gh → Prop, (∀ s g', R s g' → Q' (.nx s) g') → m g Q') (hk : ∀ s g', R s g' → Q (.nx s) g') : m g Q := hm Q hk
theorem branchV {β : Type} {R : β → Gh → Prop} {m : W β} {g : Gh} {Q : β → Gh → Prop} (hm : ∀ Q' : β → Gh → Prop, (∀ s g', R s g' → Q' s g') → m g Q') (hk : ∀ s g', R s g' → Q s g') : m g Q := hm Q hk
theorem lenK_ok {α : Type} (xs : List α) (h : Nat.ble xs.length 100 = true) : lenK xs = some xs := by
  have := Nat.le_of_ble_eq_true h
  unfold lenK
  rw [if_pos (by omega)]
theorem forL_all {ρ α γ' : Type} {f : Unit → α → W (Fl ρ Unit Unit)} : ∀ (xs : List α) (g : Gh) (Q : Fl ρ Unit γ' → Gh → Prop), (∀ x ∈ xs, ∀ g (P : Fl ρ Unit Unit → Gh → Prop), (∀ g', P (.nx ()) g') → f () x g P) → (∀ g, Q (.nx ()) g) → forL f xs () g Q
  | [], g, Q, _, k => k g
  | x :: xs, g, Q, h, k => by
    unfold forL
    refine h x List.mem_cons_self g _ fun g' => ?_
    exact forL_all xs g' Q (fun y hy => h y (List.mem_cons_of_mem _ hy)) k
theorem obS {α β : Type} (a : α) (f : α → Option β) : (some a).bind f = f a := Eq.symm (Eq.symm rfl)
theorem addO_ok {α : Type} {xs : List α} {v : α} (h : xs.length ≤ 1000000) : addO xs v = some (xs ++ [v]) := by unfold addO; rw [if_pos h]
theorem catC_ok {α : Type} {xs ys : List α} (h : xs.length + ys.length ≤ 1000000) : catC xs ys = some (xs ++ ys) := by unfold catC; rw [if_pos h]
theorem rng_ok {a b : Int} (h1 : -1000000 ≤ a) (h2 : a ≤ 1000000) (h3 : -1000000 ≤ b) (h4 : b ≤ 1000000) : rngC a b = some (irange a b) := by
  unfold rngC
  rw [if_pos ⟨h1, h2, h3, h4⟩]
/-- a loop with dice that keeps something -/
theorem forL_inv {ρ α γ γ' : Type} {f : γ → α → W (Fl ρ γ γ)} {I : Nat → γ → Gh → Prop} : ∀ (xs : List α) (k : Nat) (s : γ) (g : Gh) (Q : Fl ρ γ γ' → Gh → Prop),
    (∀ (i : Nat) x s g (P : Fl ρ γ γ → Gh → Prop), i < k + xs.length → x ∈ xs → I i s g → (∀ s' g', I (i + 1) s' g' → P (.nx s') g') → f s x g P) → I k s g → (∀ s g, I (k + xs.length) s g → Q (.nx s) g) → forL f xs s g Q
  | [], k, s, g, Q, _, hI, q => q s g hI
  | x :: xs, k, s, g, Q, h, hI, q => by
    unfold forL
    refine h k x s g _ (by simp) List.mem_cons_self hI fun s' g' hI' => ?_
    refine forL_inv xs (k + 1) s' g' Q (fun i y s g P hi hy => h i y s g P (by simp only [List.length_cons]; omega) (List.mem_cons_of_mem _ hy)) hI' fun s g hI2 => q s g ?_
    rw [List.length_cons, show k + (xs.length + 1) = k + 1 + xs.length by omega]
    exact hI2
theorem irange_cons (i : Int) (m : Nat) : irange i (i + ((m + 1 : Nat) : Int)) = i :: irange (i + 1) (i + 1 + (m : Int)) := by
  unfold irange
  rw [show (i + ((m + 1 : Nat) : Int) - i).toNat = m + 1 by omega, show (i + 1 + (m : Int) - (i + 1)).toNat = m by omega, List.range_succ_eq_map, List.map_cons, List.map_map]
  congr 1
  · show i + ((0 : Nat) : Int) = i
    omega
  · refine List.map_congr_left fun x _ => ?_
    show i + ((x + 1 : Nat) : Int) = i + 1 + (x : Int)
    omega
theorem irange_nil (i : Int) : irange i i = [] := by
  unfold irange
  rw [show (i - i).toNat = 0 by omega]
  rfl
theorem mem_irange {a b x : Int} : x ∈ irange a b ↔ a ≤ x ∧ x < b := by
  unfold irange
  constructor
  · intro h
    obtain ⟨i, hi, rfl⟩ := List.mem_map.mp h
    have := List.mem_range.mp hi
    omega
  · intro h
    exact List.mem_map.mpr ⟨(x - a).toNat, List.mem_range.mpr (by omega), by omega⟩
/-! sizes -/
def Sm (e : Nat) (x : Int) : Prop := x.natAbs < 2 ^ e
theorem Sm.mono {e f : Nat} {x : Int} (h : Sm e x) (l : e ≤ f) : Sm f x := Nat.lt_of_lt_of_le h (Nat.pow_le_pow_right (by decide) l)
theorem Sm.log {e : Nat} {x : Int} (h : Sm e x) : x.natAbs.log2 ≤ e := by
  by_cases z : x.natAbs = 0
  · rw [z]; exact Nat.zero_le _
  · exact Nat.le_of_lt ((Nat.log2_lt z).mpr h)
theorem Sm.mul {e f : Nat} {x y : Int} (h : Sm e x) (k : Sm f y) : Sm (e + f) (x * y) := by
  unfold Sm
  rw [Int.natAbs_mul, Nat.pow_add]
  exact Nat.mul_lt_mul'' h k
theorem Sm.add {e : Nat} {x y : Int} (h : Sm e x) (k : Sm e y) : Sm (e + 1) (x + y) := by
  unfold Sm at *
  have := Int.natAbs_add_le x y
  rw [Nat.pow_succ]
  omega
theorem Sm.neg {e : Nat} {x : Int} (h : Sm e x) : Sm e (-x) := by
  unfold Sm at *
  rw [Int.natAbs_neg]
  exact h
theorem Sm.of {e : Nat} {x y : Int} (h : Sm e x) (k : y.natAbs ≤ x.natAbs) : Sm e y := Nat.lt_of_le_of_lt k h
theorem mul_sm {e f : Nat} {x y : Int} (h : Sm e x) (k : Sm f y) (l : e + f < 1000000) : mulC x y = some (x * y) := by
  unfold mulC
  have a := h.log
  have b := k.log
  rw [if_pos (by omega)]
end K

set_option maxRecDepth 100000
set_option maxHeartbeats 4000000
/-! C3: fractions. -/
namespace K
open PySem L2 Rt

theorem mod_half {x y : Nat} (hy : 0 < y) (hr : 0 < x % y) : 2 * (y % (x % y)) < y := by
  have h1 := Nat.mod_lt x hy
  have h2 := Nat.mod_lt y hr
  by_cases z : 2 * (x % y) ≤ y
  · omega
  · have : y % (x % y) = y - x % y := by
      rw [Nat.mod_eq_sub_mod (by omega)]
      exact Nat.mod_eq_of_lt (by omega)
    omega
def gC (s : Int × Int) : Option Bool := some (decide ((0 : Int) < s.2))
def gB {ρ : Type} (s : Int × Int) : Option (Fl ρ (Int × Int) (Int × Int)) := (modC s.1 s.2).bind fun v => some (Fl.nx (s.2, v))
theorem gB_ok {ρ : Type} {x y : Nat} (hy : 0 < y) : gB (ρ := ρ) ((x : Int), (y : Int)) = some (.nx ((y : Int), ((x % y : Nat) : Int))) := by
  unfold gB modC
  rw [if_pos (by show (0 : Int) < (y : Int); omega)]
  rfl
theorem loop_end {ρ γ' : Type} (n : Nat) (x : Int) : whileO (ρ := ρ) (γ' := γ') gC gB (n + 1) (x, 0) = some (.nx (x, 0)) := rfl
theorem loop_step {ρ γ' : Type} (n : Nat) {x y : Nat} (hy : 0 < y) : whileO (ρ := ρ) (γ' := γ') gC gB (n + 1) ((x : Int), (y : Int)) = whileO (ρ := ρ) (γ' := γ') gC gB n ((y : Int), ((x % y : Nat) : Int)) := by
  rw [whileO]
  have : gC ((x : Int), (y : Int)) = some true := by
    unfold gC
    rw [decide_eq_true (show (0 : Int) < (y : Int) by omega)]
  rw [this, obS, if_pos rfl, gB_ok hy, obS]
  rfl
theorem gcd_loop {ρ γ' : Type} : ∀ (k n x y : Nat), y < 2 ^ k → 2 * k + 1 ≤ n → whileO (ρ := ρ) (γ' := γ') gC gB n ((x : Int), (y : Int)) = some (.nx (((Nat.gcd x y : Nat) : Int), 0))
  | 0, n, x, y, hy, hn => by
    have : y = 0 := by omega
    subst this
    obtain ⟨m, rfl⟩ := Nat.exists_eq_add_of_le' (show 1 ≤ n by omega)
    rw [Nat.gcd_zero_right]
    exact loop_end m x
  | k + 1, n, x, y, hy, hn => by
    obtain ⟨m, rfl⟩ := Nat.exists_eq_add_of_le' (show 1 ≤ n by omega)
    by_cases z : y = 0
    · subst z
      rw [Nat.gcd_zero_right]
      exact loop_end m x
    · have y0 : 0 < y := by omega
      rw [loop_step m y0]
      obtain ⟨m, rfl⟩ := Nat.exists_eq_add_of_le' (show 1 ≤ m by omega)
      have g1 : Nat.gcd x y = Nat.gcd y (x % y) := by rw [Nat.gcd_comm x y, Nat.gcd_rec, Nat.gcd_comm]
      by_cases w : x % y = 0
      · rw [g1, w, Nat.gcd_zero_right]
        exact loop_end m y
      · have r0 : 0 < x % y := by omega
        have g2 : Nat.gcd y (x % y) = Nat.gcd (x % y) (y % (x % y)) := by rw [Nat.gcd_comm y, Nat.gcd_rec, Nat.gcd_comm]
        rw [loop_step m r0, g1, g2]
        have hh := mod_half y0 r0
        exact gcd_loop k m _ _ (by rw [Nat.pow_succ] at hy; omega) (by omega)
theorem law_gcd_ok {x y : Int} (hy : Sm 2400 y) : m_law_gcd (x, y, ()) = some (gcdC x y) := by
  have := gcd_loop (ρ := Int) (γ' := Unit) 2400 5000 x.natAbs y.natAbs hy (by decide)
  unfold m_law_gcd o_law_gcd rtO
  simp only [obS]
  refine .trans (congrArg (fun z => (bindFO z _).bind rtKO) this) ?_
  rfl
theorem fr_eq {x y : Int} (hy : Sm 2400 y) : m_law_fraction (x, y, ()) = m_reduced (x, y, ()) := by
  unfold m_law_fraction o_law_fraction rtO m_reduced o_reduced rtO
  simp only [obS, law_gcd_ok hy]
theorem red_of {a b d : Int} (hb : 1 ≤ b) (hg : Nat.gcd a.natAbs b.natAbs = 1) (hd : d ≠ 0) (hs : Sm 4000 d) : m_reduced (a * d, b * d, ()) = some (a, b) := by
  have e1 : gcdC (a * d) (b * d) = (d.natAbs : Int) := by
    unfold gcdC
    rw [Int.natAbs_mul, Int.natAbs_mul, Nat.gcd_mul_right, hg, Nat.one_mul]
  have hl := hs.log
  unfold m_reduced o_reduced rtO
  simp only [obS, e1]
  by_cases z : 0 < d
  · have e2 : ¬ b * d < 0 := by
      have := Int.mul_pos (show 0 < b by omega) z
      omega
    have e3 : (d.natAbs : Int) = d := by omega
    have e4 : ∀ x, divC (x * d) d = some x := fun x => by
      unfold divC
      rw [if_pos ⟨z, by omega⟩, Int.mul_ediv_cancel x hd]
    rw [decide_eq_false e2, e3]
    show Option.bind (Option.bind (Option.bind (divC (a * d) d) fun x14 => Option.bind (divC (b * d) d) fun x15 => some (x14, x15)) fun x16 => some (Fl.rt x16)) _ = _
    rw [e4, e4]
    rfl
  · have e2 : b * d < 0 := by
      have := Int.mul_pos (show 0 < b by omega) (show 0 < -d by omega)
      rw [Int.mul_neg] at this
      omega
    have e3 : -(d.natAbs : Int) = d := by omega
    have e4 : ∀ x, divC (x * d) d = some x := fun x => by
      unfold divC
      rw [if_neg (by omega), if_pos ⟨by omega, by omega⟩, Int.mul_fdiv_cancel x hd]
    rw [decide_eq_true e2]
    show Option.bind (Option.bind (Option.bind (divC (a * d) (-(d.natAbs : Int))) fun x14 => Option.bind (divC (b * d) (-(d.natAbs : Int))) fun x15 => some (x14, x15)) fun x16 => some (Fl.rt x16)) _ = _
    rw [e3, e4, e4]
    rfl
theorem red_ex {x y : Int} (hy : y ≠ 0) : ∃ a b d : Int, x = a * d ∧ y = b * d ∧ d ≠ 0 ∧ 1 ≤ b ∧ Nat.gcd a.natAbs b.natAbs = 1 ∧ d.natAbs ≤ y.natAbs ∧ a.natAbs ≤ x.natAbs ∧ b.natAbs ≤ y.natAbs := by
  obtain ⟨x', hx⟩ := Int.gcd_dvd_left (a := x) (b := y)
  obtain ⟨y', hy'⟩ := Int.gcd_dvd_right (a := x) (b := y)
  have g0 : 0 < Int.gcd x y := Int.gcd_pos_of_ne_zero_right x hy
  generalize hg : Int.gcd x y = g at hx hy' g0
  have hg : Nat.gcd x.natAbs y.natAbs = g := hg
  have nx : x.natAbs = g * x'.natAbs := by rw [hx, Int.natAbs_mul]; rfl
  have ny : y.natAbs = g * y'.natAbs := by rw [hy', Int.natAbs_mul]; rfl
  have hg1 : Nat.gcd x'.natAbs y'.natAbs = 1 := by
    rw [nx, ny, Nat.gcd_mul_left] at hg
    exact Nat.eq_of_mul_eq_mul_left g0 (by rw [hg, Nat.mul_one])
  have y0 : y' ≠ 0 := fun z => hy (by rw [hy', z, Int.mul_zero])
  have lx : x'.natAbs ≤ x.natAbs := by rw [nx]; exact Nat.le_mul_of_pos_left _ g0
  have ly : y'.natAbs ≤ y.natAbs := by rw [ny]; exact Nat.le_mul_of_pos_left _ g0
  have lg : g ≤ y.natAbs := by rw [ny]; exact Nat.le_mul_of_pos_right _ (by omega)
  by_cases z : 0 < y'
  · refine ⟨x', y', (g : Int), by rw [hx, Int.mul_comm], by rw [hy', Int.mul_comm], by omega, by omega, hg1, lg, lx, ly⟩
  · refine ⟨-x', -y', -(g : Int), by rw [Int.neg_mul_neg, hx, Int.mul_comm], by rw [Int.neg_mul_neg, hy', Int.mul_comm], by omega, by omega, by rw [Int.natAbs_neg, Int.natAbs_neg]; exact hg1, by rw [Int.natAbs_neg]; exact lg, by rw [Int.natAbs_neg]; exact lx, by rw [Int.natAbs_neg]; exact ly⟩
theorem red_some {x y : Int} (hy : y ≠ 0) (hs : Sm 4000 y) : ∃ p, m_reduced (x, y, ()) = some p := by
  obtain ⟨a, b, d, rfl, rfl, hd, hb, hg, ld, _, _⟩ := red_ex (x := x) hy
  exact ⟨_, red_of hb hg hd (hs.of ld)⟩
/-! what stands for a number -/
structure Nm (v : PyData) (a b : Int) : Prop where
  form : v = .int a ∧ b = 1 ∨ v = .tuple [.int a, .int b]
  pos : 1 ≤ b
  gcd : Nat.gcd a.natAbs b.natAbs = 1
  sa : Sm 240 a
  sb : Sm 240 b
theorem Nm.tup {v : PyData} {a b : Int} (h : Nm v a b) : Nm (.tuple [.int a, .int b]) a b := ⟨.inr rfl, h.pos, h.gcd, h.sa, h.sb⟩
theorem decVV (x y : PyData) : (eP eV eV).dec (.tuple [x, y]) = some (x, y) := rfl
theorem decII (x y : Int) : (eP eI eI).dec (.tuple [.int x, .int y]) = some (x, y) := rfl
theorem decTV (x y : PyData) : (eT eV).dec (.tuple [x, y]) = some [x, y] := rfl
theorem whole_int (a : Int) : m_is_whole (.int a, ()) = some true := rfl
theorem whole_tup (l : List PyData) : m_is_whole (.tuple l, ()) = some false := rfl
theorem frac_tup {a b : Int} (hb : 1 ≤ b) (hg : Nat.gcd a.natAbs b.natAbs = 1) : m_is_fraction (.tuple [.int a, .int b], ()) = some true := by
  have e1 : eI.dec (.int a) = some a := rfl
  have e2 : eI.dec (.int b) = some b := rfl
  have e3 : gcdC a b = 1 := by unfold gcdC; rw [hg]; rfl
  have e4 : decide ((([PyData.int a, PyData.int b].length : Nat) : Int) = 2) = true := rfl
  unfold m_is_fraction o_is_fraction rtO
  simp only [obS, isTupV, Bool.not_true, Bool.false_eq_true, if_false, decTV, e4, decVV, whole_int, if_true, e1, e2, decide_eq_true hb, e3, decide_true]
  rfl
theorem frac_int (a : Int) : m_is_fraction (.int a, ()) = some false := rfl
theorem num_ok {v : PyData} {a b : Int} (h : Nm v a b) : m_is_number (v, ()) = some true := by
  unfold m_is_number o_is_number rtO
  rcases h.form with ⟨e, _⟩ | e
  · rw [e]
    simp only [obS, whole_int, if_true]
    rfl
  · rw [e]
    simp only [obS, whole_tup, Bool.false_eq_true, if_false, frac_tup h.pos h.gcd]
    rfl
theorem check_ok {v : PyData} {a b : Int} (h : Nm v a b) : m_check_number (v, ()) = some () := by
  unfold m_check_number o_check_number rtNO
  simp only [obS, num_ok h, Bool.not_true, Bool.false_eq_true, if_false]
  rfl
theorem pair_ok {v : PyData} {a b : Int} (h : Nm v a b) : m_pair_of (v, ()) = some (a, b) := by
  rcases h.form with ⟨e, e2⟩ | e
  · rw [e, e2]
    rfl
  · rw [e]
    rfl
theorem nbpair_ok {v : PyData} {a b : Int} (h : Nm v a b) : m_law_nb_pair (v, ()) = some (a, b) := by
  rcases h.form with ⟨e, e2⟩ | e
  · rw [e, e2]
    rfl
  · rw [e]
    rfl
theorem frac_same {v : PyData} {a b : Int} (h : Nm v a b) : m_is_fraction (v, ()) = some (isTupV v) := by
  rcases h.form with ⟨e, e2⟩ | e
  · rw [e]
    rfl
  · rw [e]
    exact frac_tup h.pos h.gcd
theorem at20 (a b : Int) : L2.atI [a, b] 0 = some a := rfl
theorem at21 (a b : Int) : L2.atI [a, b] 1 = some b := rfl
theorem added_ok {v w : PyData} {a b c d : Int} (h : Nm v a b) (k : Nm w c d) : m_added (v, w, ()) = m_reduced (a * d + c * b, b * d, ()) := by
  have e1 := mul_sm h.sa k.sb (by decide)
  have e2 := mul_sm k.sa h.sb (by decide)
  have e3 := mul_sm h.sb k.sb (by decide)
  unfold m_added o_added m_sum_of o_sum_of rtO
  simp only [obS, check_ok h, check_ok k, pair_ok h, pair_ok k, at20, at21, e1, e2, e3]
  cases m_reduced (a * d + c * b, b * d, ()) <;> rfl
theorem mult_ok {v w : PyData} {a b c d : Int} (h : Nm v a b) (k : Nm w c d) : m_multiplied (v, w, ()) = m_reduced (a * c, b * d, ()) := by
  have e1 := mul_sm h.sa k.sa (by decide)
  have e3 := mul_sm h.sb k.sb (by decide)
  unfold m_multiplied o_multiplied m_product_of o_product_of rtO
  simp only [obS, check_ok h, check_ok k, pair_ok h, pair_ok k, at20, at21, e1, e3]
  cases m_reduced (a * c, b * d, ()) <;> rfl
theorem plus_ok {v w : PyData} {a b c d : Int} (h : Nm v a b) (k : Nm w c d) : m_law_plus ([a, b], [c, d], ()) = m_reduced (a * d + c * b, b * d, ()) := by
  have e1 := mul_sm h.sa k.sb (by decide)
  have e2 := mul_sm k.sa h.sb (by decide)
  have e3 := mul_sm h.sb k.sb (by decide)
  have e4 := (h.sb.mul k.sb).mono (show 240 + 240 ≤ 2400 by decide)
  unfold m_law_plus o_law_plus rtO
  simp only [obS, at20, at21, e1, e2, e3, fr_eq e4]
  cases m_reduced (a * d + c * b, b * d, ()) <;> rfl
theorem times_ok {v w : PyData} {a b c d : Int} (h : Nm v a b) (k : Nm w c d) : m_law_times ([a, b], [c, d], ()) = m_reduced (a * c, b * d, ()) := by
  have e1 := mul_sm h.sa k.sa (by decide)
  have e3 := mul_sm h.sb k.sb (by decide)
  have e4 := (h.sb.mul k.sb).mono (show 240 + 240 ≤ 2400 by decide)
  unfold m_law_times o_law_times rtO
  simp only [obS, at20, at21, e1, e3, fr_eq e4]
  cases m_reduced (a * c, b * d, ()) <;> rfl
theorem divided_ok {v w : PyData} {a b c d : Int} (h : Nm v a b) (k : Nm w c d) (c0 : c ≠ 0) : m_divided (v, w, ()) = m_reduced (a * d, b * c, ()) := by
  have e1 := mul_sm h.sa k.sb (by decide)
  have e3 := mul_sm h.sb k.sa (by decide)
  unfold m_divided o_divided rtO
  simp only [obS, check_ok h, check_ok k, pair_ok h, pair_ok k, at20, at21, e1, e3, decide_eq_false c0, Bool.false_eq_true, if_false]
  cases m_reduced (a * d, b * c, ()) <;> rfl
theorem Nm.bd {v w : PyData} {a b c d : Int} (h : Nm v a b) (k : Nm w c d) : b * d ≠ 0 := by
  have := Int.mul_pos (show 0 < b by have := h.pos; omega) (show 0 < d by have := k.pos; omega)
  omega
theorem same_mul {a b c : Int} (hb : 1 ≤ b) (hg : Nat.gcd a.natAbs b.natAbs = 1) (c0 : c ≠ 0) (hs : Sm 240 c) (ha : Sm 240 a) (hb2 : Sm 240 b) : m_fraction (a * c, b * c, ()) = some (a, b) := by
  have e0 : b * c ≠ 0 := fun z => by
    rcases Int.mul_eq_zero.mp z with z | z
    · omega
    · exact c0 z
  have e1 : ∀ x : Int, m_is_whole (eI.enc x, ()) = some true := fun x => rfl
  unfold m_fraction o_fraction rtO
  simp only [obS, e1, Bool.not_true, Bool.false_eq_true, if_false, decide_eq_false e0, red_of hb hg c0 (hs.mono (by decide))]
  rfl
theorem opp_ok {v : PyData} {a b : Int} (h : Nm v a b) : m_multiplied (eI.enc (-1), v, ()) = some (-a, b) ∧ m_added (v, (eP eI eI).enc (-a, b), ()) = some (0, 1) := by
  have n1 : Nm (eI.enc (-1)) (-1) 1 := ⟨.inl ⟨rfl, rfl⟩, by decide, by decide, by show (1 : Nat) < 2 ^ 240; exact Nat.one_lt_two_pow (by decide), by show (1 : Nat) < 2 ^ 240; exact Nat.one_lt_two_pow (by decide)⟩
  have n2 : Nm ((eP eI eI).enc (-a, b)) (-a) b := ⟨.inr rfl, h.pos, by rw [Int.natAbs_neg]; exact h.gcd, h.sa.neg, h.sb⟩
  refine ⟨?_, ?_⟩
  · rw [mult_ok n1 h]
    have := red_of (a := -a) (b := b) (d := 1) h.pos n2.gcd (by decide) (by show (1 : Nat) < 2 ^ 4000; exact Nat.one_lt_two_pow (by decide))
    rw [Int.mul_one, Int.mul_one] at this
    rw [show -1 * a = -a by omega, show 1 * b = b by omega]
    exact this
  · rw [added_ok h n2]
    have b1 := h.pos
    have := red_of (a := 0) (b := 1) (d := b * b) (by decide) (by decide) (h.bd h) ((h.sb.mul h.sb).mono (by decide))
    rw [Int.one_mul] at this
    rw [show a * b + -a * b = 0 * (b * b) by rw [Int.neg_mul]; omega]
    exact this
end K

set_option maxRecDepth 100000
set_option maxHeartbeats 4000000
/-! C4: powers, products, binomials, texts. -/
namespace K
open PySem L2 Rt

/-! x ^ k -/
theorem sm_pow {e : Nat} {x : Int} (h : Sm e x) (he : 0 < e) : ∀ k : Nat, Sm (e * k + 1) (x ^ k)
  | 0 => by
    rw [Int.pow_zero, Nat.mul_zero]
    unfold Sm
    decide
  | k + 1 => by
    rw [Int.pow_succ, show e * (k + 1) + 1 = (e * k + 1) + e by rw [Nat.mul_succ]; omega]
    exact (sm_pow h he k).mul h
theorem lpow_loop {ρ γ' : Type} {x : Int} {e : Nat} (h : Sm e x) (he : 0 < e) : ∀ (m : Nat) (i : Int) (j : Nat), e * (j + m) + 1 + e < 1000000 →
    forO (ρ := ρ) (γ' := γ') (fun (s : Int) (_ : Int) => (mulC s x).bind fun v => some (Fl.nx v)) (irange i (i + (m : Int))) (x ^ j) = some (.nx (x ^ (j + m)))
  | 0, i, j, _ => by
    rw [show i + ((0 : Nat) : Int) = i by omega, irange_nil]
    rfl
  | m + 1, i, j, hb => by
    have h1 : e * j ≤ e * (j + (m + 1)) := Nat.mul_le_mul_left e (by omega)
    rw [irange_cons, forO, mul_sm (sm_pow h he j) h (by omega), obS, obS]
    show forO _ _ _ = _
    rw [← Int.pow_succ, lpow_loop h he m (i + 1) (j + 1) (by rw [show j + 1 + m = j + (m + 1) by omega]; exact hb)]
    rw [show j + 1 + m = j + (m + 1) by omega]
theorem law_power_ok {x : Int} {e k : Nat} (h : Sm e x) (he : 0 < e) (hk : k ≤ 1000) (hb : e * k + 1 + e < 1000000) : m_law_power (x, (k : Int), ()) = some (x ^ k) := by
  have := lpow_loop (ρ := Int) (γ' := Unit) h he k 0 0 (by rw [Nat.zero_add]; exact hb)
  rw [Int.zero_add, Nat.zero_add, Int.pow_zero] at this
  unfold m_law_power o_law_power rtO
  simp only [obS, rng_ok (a := 0) (b := (k : Int)) (by omega) (by omega) (by omega) (by omega)]
  refine .trans (congrArg (fun z => (bindFO z _).bind rtKO) this) ?_
  rfl
def wC (s : Int × Int × Int) : Option Bool := some (decide ((0 : Int) < s.2.1))
def wB {ρ : Type} (s2 : Int × Int × Int) : Option (Fl ρ (Int × Int × Int) (Int × Int × Int)) :=
  ((modC s2.2.1 (2 : Int)).bind fun p7 => (some (decide (p7 = (1 : Int))))).bind fun b9 => bindFO (γ := Int × Int × Int) (if b9 = true then (((mulC s2.2.2 s2.1)).bind fun (v11 : Int) => (some (Fl.nx v11))) else (some (Fl.nx s2.2.2))) (fun (s10 : Int) => (((divC s2.2.1 (2 : Int))).bind fun (v14 : Int) => (((some (decide ((0 : Int) < v14)))).bind fun b19 => bindFO (if b19 = true then (((mulC s2.1 s2.1)).bind fun (v21 : Int) => (some (Fl.nx v21))) else (some (Fl.nx s2.1))) (fun (s20 : Int) => (some (Fl.nx (s20, v14, s10)))))))
theorem wB_ok {ρ : Type} {b made : Int} {m e : Nat} (hb : Sm e b) (hm : Sm e made) (he : 2 * e < 1000000) (m0 : 0 < m) : ∃ b' made', wB (ρ := ρ) (b, (m : Int), made) = some (.nx (b', ((m / 2 : Nat) : Int), made')) ∧ Sm (2 * e) b' ∧ Sm (2 * e) made' ∧ made' * b' ^ (m / 2) = made * b ^ m := by
  have e1 : modC (m : Int) 2 = some ((m % 2 : Nat) : Int) := by unfold modC; rw [if_pos (by decide)]; rfl
  have e2 : divC (m : Int) 2 = some ((m / 2 : Nat) : Int) := by unfold divC; rw [if_pos (by decide)]; rfl
  have e3 : mulC b b = some (b * b) := mul_sm hb hb (by omega)
  have e4 : mulC made b = some (made * b) := mul_sm hm hb (by omega)
  have s1 : Sm (2 * e) (b * b) := by rw [Nat.two_mul]; exact hb.mul hb
  have s2 : Sm (2 * e) (made * b) := by rw [Nat.two_mul]; exact hm.mul hb
  have s3 : Sm (2 * e) b := hb.mono (by omega)
  have s4 : Sm (2 * e) made := hm.mono (by omega)
  have sq : ∀ k : Nat, (b * b) ^ k = b ^ (2 * k) := fun k => by
    rw [Int.pow_mul, show b ^ 2 = b * b by rw [Int.pow_succ, Int.pow_succ, Int.pow_zero, Int.one_mul]]
  unfold wB
  simp only [e1, e2, obS]
  by_cases z : m % 2 = 1
  · rw [decide_eq_true (show ((m % 2 : Nat) : Int) = 1 by omega), if_pos rfl, e4, obS]
    by_cases w : 0 < m / 2
    · refine ⟨b * b, made * b, ?_, s1, s2, ?_⟩
      · simp only [bindFO, obS, bindKO, decide_eq_true (show (0 : Int) < ((m / 2 : Nat) : Int) by omega), if_true, e3]
      · rw [sq, Int.mul_assoc, ← Int.pow_succ', show 2 * (m / 2) + 1 = m by omega]
    · refine ⟨b, made * b, ?_, s3, s2, ?_⟩
      · simp only [bindFO, obS, bindKO, decide_eq_false (show ¬ (0 : Int) < ((m / 2 : Nat) : Int) by omega), Bool.false_eq_true, if_false]
      · rw [show m / 2 = 0 by omega, show m = 1 by omega, Int.pow_zero, Int.mul_one, Int.pow_succ, Int.pow_zero, Int.one_mul]
  · rw [decide_eq_false (show ¬ ((m % 2 : Nat) : Int) = 1 by omega), if_neg (by decide)]
    have w : 0 < m / 2 := by omega
    refine ⟨b * b, made, ?_, s1, s4, ?_⟩
    · simp only [bindFO, obS, bindKO, decide_eq_true (show (0 : Int) < ((m / 2 : Nat) : Int) by omega), if_true, e3]
    · rw [sq, show 2 * (m / 2) = m by omega]
theorem wpow_loop {ρ γ' : Type} : ∀ (n m : Nat) (b made : Int) (e : Nat), m < 2 ^ n → Sm e b → Sm e made → e * 2 ^ n < 1000000 → ∀ fuel, n + 1 ≤ fuel →
    ∃ b', whileO (ρ := ρ) (γ' := γ') wC wB fuel (b, (m : Int), made) = some (.nx (b', 0, made * b ^ m))
  | 0, m, b, made, e, hm, hb, hma, he, fuel, hf => by
    obtain ⟨f, rfl⟩ := Nat.exists_eq_add_of_le' (show 1 ≤ fuel by omega)
    have : m = 0 := by omega
    subst this
    rw [Int.pow_zero, Int.mul_one]
    exact ⟨b, rfl⟩
  | n + 1, m, b, made, e, hm, hb, hma, he, fuel, hf => by
    obtain ⟨f, rfl⟩ := Nat.exists_eq_add_of_le' (show 1 ≤ fuel by omega)
    by_cases z : m = 0
    · subst z
      rw [Int.pow_zero, Int.mul_one]
      exact ⟨b, rfl⟩
    · have h1 : (1 : Nat) ≤ 2 ^ n := Nat.one_le_two_pow
      have he2 : 2 * e * 2 ^ n < 1000000 := by rw [Nat.pow_succ] at he; rw [Nat.mul_comm 2 e, Nat.mul_assoc, Nat.mul_comm 2]; exact he
      have he3 : 2 * e ≤ 2 * e * 2 ^ n := Nat.le_mul_of_pos_right _ h1
      obtain ⟨b', made', q1, q2, q3, q4⟩ := wB_ok (ρ := ρ) hb hma (by omega) (show 0 < m by omega)
      obtain ⟨b2, r⟩ := wpow_loop (ρ := ρ) (γ' := γ') n (m / 2) b' made' (2 * e) (by rw [Nat.pow_succ] at hm; omega) q2 q3 he2 f (by omega)
      refine ⟨b2, ?_⟩
      rw [whileO]
      have c : wC (b, (m : Int), made) = some true := by unfold wC; rw [decide_eq_true (show (0 : Int) < (m : Int) by omega)]
      rw [c, obS, if_pos rfl, q1, obS]
      show whileO _ _ _ _ = _
      rw [r, q4]
theorem whole_power_ok {x : Int} {k : Nat} (h : Sm 2000 x) (hk : k ≤ 15) : m_whole_power (x, (k : Int), ()) = some (x ^ k) := by
  obtain ⟨b, r⟩ := wpow_loop (ρ := Int) (γ' := Unit) 4 k x 1 2000 (by omega) h (by show (1 : Nat) < 2 ^ 2000; exact Nat.one_lt_two_pow (by decide)) (by decide) 100 (by decide)
  unfold m_whole_power o_whole_power rtO
  simp only [obS]
  refine .trans (congrArg (fun z => (bindFO z _).bind rtKO) r) ?_
  rw [Int.one_mul]
  rfl
theorem integer_ok {x : Int} (h1 : -(10 ^ 60) < x) (h2 : x < 10 ^ 60) : m_is_integer (eI.enc x, ()) = some true := by
  have e0 : m_is_whole (eI.enc x, ()) = some true := rfl
  have e1 : eI.dec (eI.enc x) = some x := rfl
  have a : -1000000000000000000000000000000000000000000000000000000000000 < x := by omega
  have b : x < 1000000000000000000000000000000000000000000000000000000000000 := by omega
  unfold m_is_integer o_is_integer rtO
  simp only [obS, e0, e1, if_true, a, b, decide_true]
  rfl
theorem count_ok {x a b : Int} (h1 : -(10 ^ 60) < x) (h2 : x < 10 ^ 60) (ha : a ≤ x) (hb : x ≤ b) : m_check_count (x, a, b, ()) = some () := by
  unfold m_check_count o_check_count rtNO m_is_count o_is_count rtO
  simp only [obS, integer_ok h1 h2, if_true, decide_eq_true ha, decide_eq_true hb]
  rfl
theorem power_pos {v : PyData} {a b : Int} {k : Nat} (h : Nm v a b) (hk : k ≤ 8) : m_power_of (v, (k : Int), ()) = some (a ^ k, b ^ k) := by
  unfold m_power_of o_power_of rtO
  simp only [obS, check_ok h, pair_ok h, count_ok (x := (k : Int)) (a := -1000) (b := 1000) (by omega) (by omega) (by omega) (by omega), decide_eq_true (show (0 : Int) ≤ (k : Int) by omega), if_true, whole_power_ok (h.sa.mono (by decide)) (show k ≤ 15 by omega), whole_power_ok (h.sb.mono (by decide)) (show k ≤ 15 by omega)]
  rfl
theorem power_neg {v : PyData} {a b : Int} {k : Nat} (h : Nm v a b) (k0 : 0 < k) (hk : k ≤ 8) (a0 : a ≠ 0) : m_power_of (v, -(k : Int), ()) = m_reduced (b ^ k, a ^ k, ()) := by
  unfold m_power_of o_power_of rtO
  simp only [obS, check_ok h, pair_ok h, count_ok (x := -(k : Int)) (a := -1000) (b := 1000) (by omega) (by omega) (by omega) (by omega), decide_eq_false (show ¬ (0 : Int) ≤ -(k : Int) by omega), decide_eq_false a0, Bool.false_eq_true, if_false, Int.neg_neg, whole_power_ok (h.sa.mono (by decide)) (show k ≤ 15 by omega), whole_power_ok (h.sb.mono (by decide)) (show k ≤ 15 by omega)]
  cases m_reduced (b ^ k, a ^ k, ()) <;> rfl
theorem nbpower_ok {v : PyData} {a b : Int} {k : Nat} (h : Nm v a b) (hk : k ≤ 8) : m_law_nb_power ([a, b], (k : Int), ()) = some (a ^ k, b ^ k) := by
  have l : 240 * k ≤ 240 * 8 := Nat.mul_le_mul_left _ hk
  unfold m_law_nb_power o_law_nb_power rtO
  simp only [obS, at20, at21, law_power_ok (k := k) h.sa (by decide) (by omega) (by omega), law_power_ok (k := k) h.sb (by decide) (by omega) (by omega)]
  rfl
theorem pow_ne {a : Int} (h : a ≠ 0) : ∀ k : Nat, a ^ k ≠ 0
  | 0 => by rw [Int.pow_zero]; decide
  | k + 1 => by
    rw [Int.pow_succ]
    intro z
    rcases Int.mul_eq_zero.mp z with z | z
    · exact pow_ne h k z
    · exact h z
/-! texts -/
theorem str_ok {a : Int} (h : Sm 240 a) : strC a = some (Str.ofString (toString a)) ∧ (Str.ofString (toString a)).length ≤ 1921 := by
  have l := h.log
  have l2 : a.natAbs.log2 < 1920 := by omega
  refine ⟨?_, str_len l2⟩
  unfold strC
  rw [if_pos l2]
def txt (a b : Int) : Str := if b = 1 then Str.ofString (toString a) else Str.ofString (toString a) ++ ("/" : Str) ++ Str.ofString (toString b)
theorem text_ok {v : PyData} {a b : Int} (h : Nm v a b) : m_number_text (v, ()) = some (txt a b) ∧ m_law_text ([a, b], ()) = some (txt a b) := by
  obtain ⟨s1, l1⟩ := str_ok h.sa
  obtain ⟨s2, l2⟩ := str_ok h.sb
  have l3 : (("/" : Str)).length = 1 := by decide +kernel
  have c1 : catSC (Str.ofString (toString a)) ("/" : Str) = some (Str.ofString (toString a) ++ ("/" : Str)) := by
    unfold catSC
    rw [if_pos (by omega)]
  have l4 : (Str.ofString (toString a) ++ ("/" : Str)).length = (Str.ofString (toString a)).length + (("/" : Str)).length := Array.size_append ..
  have c2 : catSC (Str.ofString (toString a) ++ ("/" : Str)) (Str.ofString (toString b)) = some (Str.ofString (toString a) ++ ("/" : Str) ++ Str.ofString (toString b)) := by
    unfold catSC
    rw [if_pos (by omega)]
  have t2 : two [a, b] = some (a, b) := rfl
  unfold m_number_text o_number_text m_pair_text o_pair_text m_law_text o_law_text rtO txt
  simp only [obS, check_ok h, pair_ok h, t2, at20, at21, s1, s2, c1, c2]
  by_cases z : b = 1
  · simp only [decide_eq_true z, if_true, if_pos z, obS]
    exact ⟨rfl, rfl⟩
  · simp only [decide_eq_false z, Bool.false_eq_true, if_false, if_neg z, obS, s1, s2, c1, c2]
    exact ⟨rfl, rfl⟩
end K

set_option maxRecDepth 100000
set_option maxHeartbeats 4000000
/-! C5: products one after the other, binomials. -/
namespace K
open PySem L2 Rt

/-- (t - i) (t - i - 1) .. m factors -/
def pr (t : Int) : Int → Nat → Int
  | _, 0 => 1
  | i, m + 1 => (t - i) * pr t (i + 1) m
theorem Sm.sub {e : Nat} {x y : Int} (h : Sm e x) (k : Sm e y) : Sm (e + 1) (x - y) := by
  rw [Int.sub_eq_add_neg]
  exact h.add k.neg
theorem fall_loop {ρ γ' : Type} {t : Int} {e : Nat} (ht : Sm e t) (he : 20 ≤ e) : ∀ (m : Nat) (i : Int) (s : Int) (q : Nat), 0 ≤ i → i + (m : Int) ≤ 1000 → Sm q s → q + (e + 1) * m < 900000 → e < 1000 →
    forO (ρ := ρ) (γ' := γ') (fun (s3 : Int) (x4 : Int) => (mulC s3 (t - x4)).bind fun v => some (Fl.nx v)) (irange i (i + (m : Int))) s = some (.nx (s * pr t i m)) ∧ Sm (q + (e + 1) * m) (s * pr t i m)
  | 0, i, s, q, _, _, hs, _, _ => by
    rw [show i + ((0 : Nat) : Int) = i by omega, irange_nil]
    unfold pr
    rw [Int.mul_one]
    exact ⟨rfl, hs⟩
  | m + 1, i, s, q, hi, hm, hs, hq, he2 => by
    have si : Sm e i := by
      have : i.natAbs < 2 ^ 20 := by
        have : (2 : Nat) ^ 20 = 1048576 := by decide
        omega
      exact Nat.lt_of_lt_of_le this (Nat.pow_le_pow_right (by decide) he)
    have hd := ht.sub si
    have hq2 : q + (e + 1) * (m + 1) = q + (e + 1) + (e + 1) * m := by rw [Nat.mul_succ]; omega
    have := fall_loop (ρ := ρ) (γ' := γ') ht he m (i + 1) (s * (t - i)) (q + (e + 1)) (by omega) (by omega) (hs.mul hd) (by omega) he2
    rw [irange_cons, forO, mul_sm hs hd (by omega), obS, obS, pr, ← Int.mul_assoc, hq2]
    exact this
theorem falling_ok {t : Int} {m e : Nat} (ht : Sm e t) (he : 20 ≤ e) (he2 : e < 1000) (hm : m ≤ 400) : m_falling_product (t, (m : Int), ()) = some (pr t 0 m) ∧ m_law_falling (t, (m : Int), ()) = some (pr t 0 m) := by
  have l : (e + 1) * m ≤ (e + 1) * 400 := Nat.mul_le_mul_left _ hm
  have := (fall_loop (ρ := Int) (γ' := Unit) ht he m 0 1 1 (by decide) (by omega) (by show (1 : Nat) < 2 ^ 1; decide) (by omega) he2).1
  rw [Int.zero_add, Int.one_mul] at this
  refine ⟨?_, ?_⟩
  · unfold m_falling_product o_falling_product rtO
    simp only [obS, rng_ok (a := 0) (b := (m : Int)) (by omega) (by omega) (by omega) (by omega)]
    refine .trans (congrArg (fun z => (bindFO z _).bind rtKO) this) ?_
    rfl
  · unfold m_law_falling o_law_falling rtO
    simp only [obS, rng_ok (a := 0) (b := (m : Int)) (by omega) (by omega) (by omega) (by omega)]
    refine .trans (congrArg (fun z => (bindFO z _).bind rtKO) this) ?_
    rfl
def fac : Nat → Int
  | 0 => 1
  | n + 1 => ((n : Int) + 1) * fac n
theorem fac_pos : ∀ n : Nat, 0 < fac n
  | 0 => by decide
  | n + 1 => Int.mul_pos (by omega) (fac_pos n)
theorem pr_fac : ∀ (m : Nat) (i : Int), pr (i + (m : Int)) i m = fac m
  | 0, i => rfl
  | m + 1, i => by
    unfold pr fac
    rw [show i + ((m + 1 : Nat) : Int) - i = (m : Int) + 1 by omega, show i + ((m + 1 : Nat) : Int) = i + 1 + (m : Int) by omega, pr_fac m (i + 1)]
theorem sm_fac : ∀ n : Nat, n ≤ 400 → Sm (20 * n + 1) (fac n)
  | 0, _ => by show (1 : Nat) < 2 ^ 1; decide
  | n + 1, h => by
    have s : Sm 20 ((n : Int) + 1) := by
      show ((n : Int) + 1).natAbs < 2 ^ 20
      have : (2 : Nat) ^ 20 = 1048576 := by decide
      omega
    unfold fac
    rw [show 20 * (n + 1) + 1 = 20 + (20 * n + 1) by omega]
    exact s.mul (sm_fac n (by omega))
theorem fac_loop {ρ γ' : Type} : ∀ (m k : Nat), k + m ≤ 400 → forO (ρ := ρ) (γ' := γ') (fun (s : Int) (x : Int) => (mulC s x).bind fun v => some (Fl.nx v)) (irange ((k : Int) + 1) ((k : Int) + 1 + (m : Int))) (fac k) = some (.nx (fac (k + m)))
  | 0, k, _ => by
    rw [show (k : Int) + 1 + ((0 : Nat) : Int) = (k : Int) + 1 by omega, irange_nil]
    rfl
  | m + 1, k, h => by
    have s : Sm 20 ((k : Int) + 1) := by
      show ((k : Int) + 1).natAbs < 2 ^ 20
      have : (2 : Nat) ^ 20 = 1048576 := by decide
      omega
    rw [irange_cons, forO, mul_sm (sm_fac k (by omega)) s (by omega), obS, obS]
    show forO _ _ _ = _
    have := fac_loop (ρ := ρ) (γ' := γ') m (k + 1) (by omega)
    rw [show ((k + 1 : Nat) : Int) = (k : Int) + 1 by omega, show k + 1 + m = k + (m + 1) by omega] at this
    rw [show fac k * ((k : Int) + 1) = fac (k + 1) by rw [Int.mul_comm]; rfl]
    exact this
theorem law_factorial_ok {n : Nat} (h : n ≤ 400) : m_law_factorial ((n : Int), ()) = some (fac n) := by
  unfold m_law_factorial o_law_factorial rtO
  simp only [obS, rng_ok (a := 2) (b := (n : Int) + 1) (by omega) (by omega) (by omega) (by omega)]
  cases n with
  | zero => rfl
  | succ m =>
    have := fac_loop (ρ := Int) (γ' := Unit) m 1 (by omega)
    rw [show ((1 : Nat) : Int) + 1 + (m : Int) = ((m + 1 : Nat) : Int) + 1 by omega, show ((1 : Nat) : Int) + 1 = 2 by rfl, show 1 + m = m + 1 by omega] at this
    refine .trans (congrArg (fun z => (bindFO z _).bind rtKO) this) ?_
    rfl
theorem nat_sm {m : Nat} (h : m ≤ 1000000) : Sm 20 (m : Int) := by
  show (m : Int).natAbs < 2 ^ 20
  have : (2 : Nat) ^ 20 = 1048576 := by decide
  omega
theorem factorial_ok {n : Nat} (h : n ≤ 400) : m_factorial ((n : Int), ()) = some (fac n) := by
  have f1 := (falling_ok (t := (n : Int)) (m := n) (nat_sm (by omega)) (by decide) (by decide) h).1
  have f2 := pr_fac n 0
  rw [Int.zero_add] at f2
  rw [f2] at f1
  unfold m_factorial o_factorial rtO
  simp only [obS, count_ok (x := (n : Int)) (a := 0) (b := 1000) (by omega) (by omega) (by omega) (by omega), f1]
  rfl
theorem falling_full {t : Int} {m e : Nat} (ht : Sm e t) (he : 20 ≤ e) (he2 : e < 1000) (hm : m ≤ 400) (h1 : -(10 ^ 60) < t) (h2 : t < 10 ^ 60) : m_falling (t, (m : Int), ()) = some (pr t 0 m) := by
  have f1 := (falling_ok (m := m) ht he he2 hm).1
  have c : m_check_integer (t, ()) = some () := by
    unfold m_check_integer o_check_integer rtNO
    simp only [obS, integer_ok h1 h2, Bool.not_true, Bool.false_eq_true, if_false]
    rfl
  unfold m_falling o_falling rtO
  simp only [obS, c, count_ok (x := (m : Int)) (a := 0) (b := 1000) (by omega) (by omega) (by omega) (by omega), f1]
  rfl
/-! binomials -/
def ch : Nat → Nat → Nat
  | _, 0 => 1
  | 0, _ + 1 => 0
  | n + 1, k + 1 => ch n k + ch n (k + 1)
theorem ch_zero (n : Nat) : ch n 0 = 1 := by cases n <;> rfl
theorem ch_over : ∀ (n k : Nat), n < k → ch n k = 0
  | 0, k + 1, _ => rfl
  | n + 1, k + 1, h => by
    unfold ch
    rw [ch_over n k (by omega), ch_over n (k + 1) (by omega)]
theorem ch_step : ∀ (n k : Nat), (ch n k : Int) * ((n : Int) - k) = (ch n (k + 1) : Int) * ((k : Int) + 1)
  | 0, 0 => rfl
  | 0, k + 1 => by
    rw [ch_over 0 (k + 1) (by omega), ch_over 0 (k + 1 + 1) (by omega)]
    simp
  | n + 1, 0 => by
    have := ch_step n 0
    rw [ch_zero] at this ⊢
    have e : ch (n + 1) (0 + 1) = 1 + ch n 1 := by
      show ch n 0 + ch n 1 = _
      rw [ch_zero]
    rw [e]
    have t2 : ((ch n (0 + 1) : Nat) : Int) = (ch n 1 : Int) := rfl
    rw [t2] at this
    omega
  | n + 1, k + 1 => by
    have h1 := ch_step n k
    have h2 := ch_step n (k + 1)
    have e1 : ch (n + 1) (k + 1) = ch n k + ch n (k + 1) := rfl
    have e2 : ch (n + 1) (k + 1 + 1) = ch n (k + 1) + ch n (k + 1 + 1) := rfl
    rw [e1, e2]
    generalize ch n k = a at *
    generalize ch n (k + 1) = b at *
    generalize ch n (k + 1 + 1) = c at *
    have g1 : (((a + b : Nat) : Int)) * (((n + 1 : Nat) : Int) - ((k + 1 : Nat) : Int)) = (a : Int) * ((n : Int) - k) + (b : Int) * ((n : Int) - ((k + 1 : Nat) : Int)) + b := by
      rw [show ((n + 1 : Nat) : Int) - ((k + 1 : Nat) : Int) = (n : Int) - k by omega, show (((a + b : Nat) : Int)) = (a : Int) + b by omega, Int.add_mul]
      have : (b : Int) * ((n : Int) - k) = (b : Int) * ((n : Int) - ((k + 1 : Nat) : Int)) + b := by
        rw [show (n : Int) - k = ((n : Int) - ((k + 1 : Nat) : Int)) + 1 by omega, Int.mul_add, Int.mul_one]
      omega
    have g2 : (((b + c : Nat) : Int)) * (((k + 1 : Nat) : Int) + 1) = (b : Int) * ((k : Int) + 1) + b + (c : Int) * (((k + 1 : Nat) : Int) + 1) := by
      rw [show (((b + c : Nat) : Int)) = (b : Int) + c by omega, Int.add_mul, show ((k + 1 : Nat) : Int) + 1 = (k : Int) + 1 + 1 by omega, Int.mul_add (b : Int) ((k : Int) + 1) 1, Int.mul_one]
    rw [g1, g2, h1, h2]
    omega
/-- factors from the other end -/
theorem pr_snoc (t : Int) : ∀ (m : Nat) (i : Int), pr t i (m + 1) = pr t i m * (t - (i + (m : Int)))
  | 0, i => by
    unfold pr pr
    rw [show i + ((0 : Nat) : Int) = i by omega, Int.mul_one, Int.one_mul]
  | m + 1, i => by
    rw [pr, pr_snoc t m (i + 1), pr, Int.mul_assoc, show i + 1 + (m : Int) = i + ((m + 1 : Nat) : Int) by omega]
theorem pr_ch (n : Nat) : ∀ k : Nat, pr (n : Int) 0 k = (ch n k : Int) * fac k
  | 0 => by
    rw [ch_zero]
    rfl
  | k + 1 => by
    rw [pr_snoc, pr_ch n k, fac, Int.zero_add, Int.mul_assoc, Int.mul_comm (fac k), ← Int.mul_assoc, ch_step, Int.mul_assoc]
theorem pr_nat (n : Nat) (k : Nat) (h : k ≤ n) : pr (n : Int) 0 k * fac (n - k) = fac n := by
  have : ∀ (k : Nat) (i : Int) (m : Nat), pr (i + (k : Int) + (m : Int)) i k * fac m = fac (k + m) := by
    intro k
    induction k with
    | zero =>
      intro i m
      rw [pr, Int.one_mul, Nat.zero_add]
    | succ k ih =>
      intro i m
      rw [pr, show i + ((k + 1 : Nat) : Int) + (m : Int) = i + 1 + (k : Int) + (m : Int) by omega, Int.mul_assoc, ih (i + 1) m, show k + 1 + m = (k + m) + 1 by omega, fac]
      congr 1
      omega
  have := this k 0 (n - k)
  rw [show (0 : Int) + (k : Int) + ((n - k : Nat) : Int) = (n : Int) by omega, show k + (n - k) = n by omega] at this
  exact this
theorem ch_sym {n k : Nat} (h : k ≤ n) : ch n (n - k) = ch n k := by
  have a := pr_nat n k h
  have b := pr_nat n (n - k) (by omega)
  rw [pr_ch] at a b
  rw [show n - (n - k) = k by omega] at b
  have c : ((ch n (n - k) : Int)) * (fac k * fac (n - k)) = (ch n k : Int) * (fac k * fac (n - k)) := by
    rw [← Int.mul_assoc, a.symm] at *
    rw [Int.mul_assoc, Int.mul_comm (fac (n - k)) (fac k), ← Int.mul_assoc] at b
    rw [b, Int.mul_assoc]
  have p := Int.mul_pos (fac_pos k) (fac_pos (n - k))
  have := Int.eq_of_mul_eq_mul_right (by omega) c
  omega
theorem fp_pr (n : Int) (k : Nat) : Builtin.Math.fallingProduct n k = pr n 0 k := by
  unfold Builtin.Math.fallingProduct
  induction k with
  | zero => rfl
  | succ k ih =>
    rw [List.range_succ, List.foldl_append, ih, pr_snoc]
    show pr n 0 k * (n - (k : Int)) = _
    rw [Int.zero_add]
theorem comb_ok {n k : Nat} (h : k ≤ n) (hn : n ≤ 1000) : combC (n : Int) (k : Int) = some (ch n k : Int) := by
  unfold combC
  rw [if_pos (by omega)]
  congr 1
  have key : ∀ j : Nat, Builtin.Math.fallingProduct (n : Int) j / Builtin.Math.fallingProduct (j : Int) j = (ch n j : Int) := fun j => by
    have f := pr_fac j 0
    rw [Int.zero_add] at f
    rw [fp_pr, fp_pr, pr_ch, f]
    exact Int.mul_ediv_cancel _ (by have := fac_pos j; omega)
  by_cases z : 2 * k ≤ n
  · rw [PySem.W.mcComb_at (by omega) (by omega) (m := (k : Int)) (by omega)]
    exact key k
  · rw [PySem.W.mcComb_at (by omega) (by omega) (m := ((n - k : Nat) : Int)) (by omega), show (((n - k : Nat) : Int)).toNat = n - k by omega, key, ch_sym h]
theorem binomial_ok {n k : Nat} (h : k ≤ n) (hn : n ≤ 1000) : m_binomial ((n : Int), (k : Int), ()) = some (ch n k : Int) := by
  unfold m_binomial o_binomial rtO
  simp only [obS, count_ok (x := (n : Int)) (a := 0) (b := 1000) (by omega) (by omega) (by omega) (by omega), count_ok (x := (k : Int)) (a := 0) (b := 1000) (by omega) (by omega) (by omega) (by omega), comb_ok h hn]
  rfl
theorem binomial_over {n k : Nat} (h : n < k) (hn : k ≤ 1000) : m_binomial ((n : Int), (k : Int), ()) = some 0 := by
  have : combC (n : Int) (k : Int) = some 0 := by
    unfold combC
    rw [if_pos (by omega)]
    congr 1
    unfold PySem.W.mcComb
    rw [if_pos (by omega)]
  unfold m_binomial o_binomial rtO
  simp only [obS, count_ok (x := (n : Int)) (a := 0) (b := 1000) (by omega) (by omega) (by omega) (by omega), count_ok (x := (k : Int)) (a := 0) (b := 1000) (by omega) (by omega) (by omega) (by omega), this]
  rfl
theorem ch_le : ∀ n k : Nat, ch n k ≤ 2 ^ n
  | n, 0 => by
    rw [ch_zero]
    exact Nat.one_le_two_pow
  | 0, k + 1 => Nat.zero_le _
  | n + 1, k + 1 => by
    have a := ch_le n k
    have b := ch_le n (k + 1)
    show ch n k + ch n (k + 1) ≤ _
    rw [Nat.pow_succ]
    omega
theorem sm_ch (n k : Nat) : Sm (n + 1) (ch n k : Int) := by
  have := ch_le n k
  show (ch n k : Int).natAbs < 2 ^ (n + 1)
  have p : 0 < 2 ^ n := Nat.two_pow_pos n
  rw [Nat.pow_succ]
  omega
theorem bin_loop {ρ γ' : Type} {n : Nat} (hn : n ≤ 1000) : ∀ (m k : Nat), k + m ≤ n → forO (ρ := ρ) (γ' := γ') (fun (s3 : Int) (x4 : Int) => ((mulC s3 ((n : Int) - x4)).bind fun p12 => divC p12 (x4 + 1)).bind fun v => some (Fl.nx v)) (irange (k : Int) ((k : Int) + (m : Int))) (ch n k : Int) = some (.nx (ch n (k + m) : Int))
  | 0, k, _ => by
    rw [show (k : Int) + ((0 : Nat) : Int) = (k : Int) by omega, irange_nil]
    rfl
  | m + 1, k, h => by
    have s : Sm 20 ((n : Int) - (k : Int)) := by
      show ((n : Int) - (k : Int)).natAbs < 2 ^ 20
      have : (2 : Nat) ^ 20 = 1048576 := by decide
      omega
    have d : divC ((ch n (k + 1) : Int) * ((k : Int) + 1)) ((k : Int) + 1) = some (ch n (k + 1) : Int) := by
      unfold divC
      have l := (nat_sm (m := k + 1) (by omega)).log
      rw [show ((k : Int) + 1) = ((k + 1 : Nat) : Int) by omega, if_pos ⟨by omega, by omega⟩, Int.mul_ediv_cancel _ (by omega)]
    rw [irange_cons, forO, mul_sm (sm_ch n k) s (by omega), obS, ch_step, d, obS, obS]
    show forO _ _ _ = _
    have := bin_loop (ρ := ρ) (γ' := γ') hn m (k + 1) (by omega)
    rw [show ((k + 1 : Nat) : Int) = (k : Int) + 1 by omega, show k + 1 + m = k + (m + 1) by omega] at this
    exact this
theorem law_binomial_ok {n k : Nat} (h : k ≤ n) (hn : n ≤ 1000) : m_law_binomial ((n : Int), (k : Int), ()) = some (ch n k : Int) := by
  have := bin_loop (ρ := Int) (γ' := Unit) hn k 0 (by omega)
  rw [ch_zero, show ((0 : Nat) : Int) + (k : Int) = (k : Int) by omega, Nat.zero_add] at this
  unfold m_law_binomial o_law_binomial rtO
  simp only [obS, rng_ok (a := 0) (b := (k : Int)) (by omega) (by omega) (by omega) (by omega)]
  refine .trans (congrArg (fun z => (bindFO z _).bind rtKO) this) ?_
  rfl
end K

set_option maxRecDepth 100000
set_option maxHeartbeats 4000000
/-! C6: drawn numbers, and what is reckoned with them. -/
namespace K
open PySem L2 Rt

theorem dec_self {α : Type} [DecidableEq α] (a : α) : decide (a = a) = true := decide_eq_true rfl
theorem sm240 {x : Int} (h1 : -(2 ^ 240) < x) (h2 : x < 2 ^ 240) : Sm 240 x := by
  show x.natAbs < 2 ^ 240
  omega
theorem nb_ok {n : Int} {g : Gh} {P : PyData → Gh → Prop} (h : DI n g) (hn : n ≤ 10000) (k : ∀ v a b g', Nm v a b → DI (n + 5) g' → P v g') : m_law_nb_drawn () g P := by
  unfold m_law_nb_drawn w_law_nb_drawn
  repeat (first | with_reducible apply rtOfI | with_reducible apply bindFI | with_reducible apply bindI | with_reducible apply retI | with_reducible apply rtKI | with_reducible apply bindKI | with_reducible apply putI)
  refine ofI (a := 1000000000) (by decide +kernel) ?_
  repeat (first | with_reducible apply rtOfI | with_reducible apply bindFI | with_reducible apply bindI | with_reducible apply retI | with_reducible apply rtKI | with_reducible apply bindKI | with_reducible apply putI)
  refine ofI (a := 1000000000000000000000000000000000000000000000000000000000000) (by decide +kernel) ?_
  repeat (first | with_reducible apply rtOfI | with_reducible apply bindFI | with_reducible apply bindI | with_reducible apply retI | with_reducible apply rtKI | with_reducible apply bindKI | with_reducible apply putI)
  refine ofI (a := 10000000000) (by decide +kernel) ?_
  refine ofI (a := 10000000000000000000000000000000000000000000000000000000000000000000000) (by decide +kernel) ?_
  repeat (first | with_reducible apply rtOfI | with_reducible apply bindFI | with_reducible apply bindI | with_reducible apply retI | with_reducible apply rtKI | with_reducible apply bindKI | with_reducible apply putI)
  refine ofI (lenK_ok _ rfl) ?_
  repeat (first | with_reducible apply rtOfI | with_reducible apply bindFI | with_reducible apply bindI | with_reducible apply retI | with_reducible apply rtKI | with_reducible apply bindKI | with_reducible apply putI)
  refine pick_ok h (by omega) (by decide) (by decide) fun x g1 hx hd1 => ?_
  have hx : 3 ≤ x ∧ x ≤ 10000000000000000000000000000000000000000000000000000000000000000000000 := by
    simp at hx
    omega
  repeat (first | with_reducible apply rtOfI | with_reducible apply bindFI | with_reducible apply bindI | with_reducible apply retI | with_reducible apply rtKI | with_reducible apply bindKI | with_reducible apply putI)
  refine ofI (mulC_of (by decide) (by decide) (by omega) (by omega)) ?_
  repeat (first | with_reducible apply rtOfI | with_reducible apply bindFI | with_reducible apply bindI | with_reducible apply retI | with_reducible apply rtKI | with_reducible apply bindKI | with_reducible apply putI)
  refine roll_ok hd1 (by omega) (by omega) (by omega) fun r g2 r0 r1 hd2 => ?_
  repeat (first | with_reducible apply rtOfI | with_reducible apply bindFI | with_reducible apply bindI | with_reducible apply retI | with_reducible apply rtKI | with_reducible apply bindKI | with_reducible apply putI)
  refine roll_ok hd2 (by omega) (by decide) (by decide) fun q g3 q0 q1 hd3 => ?_
  repeat (first | with_reducible apply rtOfI | with_reducible apply bindFI | with_reducible apply bindI | with_reducible apply retI | with_reducible apply rtKI | with_reducible apply bindKI | with_reducible apply putI)
  have hs : Sm 240 (r - x) := sm240 (by omega) (by omega)
  refine ofI rfl ?_
  by_cases z : q = 0
  · refine ifT (decide_eq_true z) ?_
    repeat (first | with_reducible apply rtOfI | with_reducible apply bindFI | with_reducible apply bindI | with_reducible apply retI | with_reducible apply rtKI | with_reducible apply bindKI | with_reducible apply putI)
    refine k _ (r - x) 1 _ ⟨.inl ⟨rfl, rfl⟩, by decide, Nat.gcd_one_right _, hs, sm240 (by decide) (by decide)⟩ (hd3.mono (by omega))
  · refine ifF (decide_eq_false z) ?_
    repeat (first | with_reducible apply rtOfI | with_reducible apply bindFI | with_reducible apply bindI | with_reducible apply retI | with_reducible apply rtKI | with_reducible apply bindKI | with_reducible apply putI)
    refine ofI (a := 10000000000000000000000000000000000000000) (by decide +kernel) ?_
    repeat (first | with_reducible apply rtOfI | with_reducible apply bindFI | with_reducible apply bindI | with_reducible apply retI | with_reducible apply rtKI | with_reducible apply bindKI | with_reducible apply putI)
    refine ofI (lenK_ok _ rfl) ?_
    repeat (first | with_reducible apply rtOfI | with_reducible apply bindFI | with_reducible apply bindI | with_reducible apply retI | with_reducible apply rtKI | with_reducible apply bindKI | with_reducible apply putI)
    refine pick_ok hd3 (by omega) (by decide) (by decide) fun y g4 hy hd4 => ?_
    have hy : 1 ≤ y ∧ y ≤ 10000000000000000000000000000000000000000 := by
      simp at hy
      omega
    repeat (first | with_reducible apply rtOfI | with_reducible apply bindFI | with_reducible apply bindI | with_reducible apply retI | with_reducible apply rtKI | with_reducible apply bindKI | with_reducible apply putI)
    refine roll_ok hd4 (by omega) (by omega) (by omega) fun u g5 u0 u1 hd5 => ?_
    have hs2 : Sm 240 (1 + u) := sm240 (by omega) (by omega)
    obtain ⟨a, b, d, ea, eb, d0, hb, hg, l1, l2, l3⟩ := red_ex (x := r - x) (y := 1 + u) (by omega)
    have e1 : m_law_fraction (r - x, 1 + u, ()) = some (a, b) := by
      rw [fr_eq (hs2.mono (by decide)), ea, eb]
      exact red_of hb hg d0 ((hs2.of l1).mono (by decide))
    repeat (first | with_reducible apply rtOfI | with_reducible apply bindFI | with_reducible apply bindI | with_reducible apply retI | with_reducible apply rtKI | with_reducible apply bindKI | with_reducible apply putI)
    refine ofI e1 ?_
    repeat (first | with_reducible apply rtOfI | with_reducible apply bindFI | with_reducible apply bindI | with_reducible apply retI | with_reducible apply rtKI | with_reducible apply bindKI | with_reducible apply putI)
    exact k _ a b _ ⟨.inr rfl, hb, hg, hs.of l2, hs2.of l3⟩ (hd5.mono (by omega))
theorem eqvP (p : Int × Int) : PyData.eqv ((dP dI dI).d p) ((dP dI dI).d p) = true := by
  show PyData.eqv (.tuple [.int p.1, .int p.2]) (.tuple [.int p.1, .int p.2]) = true
  simp [PyData.eqv, PyData.eqvAll]
theorem eqvLP (l : List (Int × Int)) : PyData.eqv ((dL (dP dI dI)).d l) ((dL (dP dI dI)).d l) = true := by
  show PyData.eqv (.list (l.map (dP dI dI).d)) (.list (l.map (dP dI dI).d)) = true
  have key : ∀ l : List (Int × Int), PyData.eqvAll (l.map (dP dI dI).d) (l.map (dP dI dI).d) = true := by
    intro l
    induction l with
    | nil => simp [PyData.eqvAll]
    | cons x l ih =>
      rw [List.map_cons, PyData.eqvAll, eqvP, ih]
      rfl
  simp [PyData.eqv, key]
theorem eqvB (b : Bool) : PyData.eqv (dB.d b) (dB.d b) = true := by cases b <;> decide +kernel
theorem clean_pair (q : Int × Int) : cleanO ((eP eI eI).enc q) = some ((dP dI dI).d q) := by
  unfold cleanO
  rw [if_pos (by show cleanD (.tuple [.int q.1, .int q.2]) = true; simp [cleanD, cleanL])]
  rfl
theorem eqC_pair (q : Int × Int) : eqC ((dP dI dI).d q) ((dP dI dI).d q) = some true := by
  have s : SeqAt.shaped ((dP dI dI).d q) = true := (dP dI dI).shaped (by decide) q
  unfold eqC
  rw [if_pos ⟨s, s⟩, eqvP]
theorem sums_ok {n : Int} {g : Gh} {P : Bool → Gh → Prop} (h : DI n g) (hn : n ≤ 9000) (k : ∀ g', DI (n + 12) g' → P true g') : m_law_sums_right () g P := by
  unfold m_law_sums_right w_law_sums_right
  repeat (first | with_reducible apply rtOfI | with_reducible apply bindFI | with_reducible apply bindI | with_reducible apply retI | with_reducible apply rtKI | with_reducible apply bindKI | with_reducible apply putI)
  refine nb_ok h (by omega) fun v a b g1 hv hd1 => ?_
  repeat (first | with_reducible apply rtOfI | with_reducible apply bindFI | with_reducible apply bindI | with_reducible apply retI | with_reducible apply rtKI | with_reducible apply bindKI | with_reducible apply putI)
  refine nb_ok hd1 (by omega) fun w c d g2 hw hd2 => ?_
  repeat (first | with_reducible apply rtOfI | with_reducible apply bindFI | with_reducible apply bindI | with_reducible apply retI | with_reducible apply rtKI | with_reducible apply bindKI | with_reducible apply putI)
  refine ofI (nbpair_ok hv) ?_
  repeat (first | with_reducible apply rtOfI | with_reducible apply bindFI | with_reducible apply bindI | with_reducible apply retI | with_reducible apply rtKI | with_reducible apply bindKI | with_reducible apply putI)
  refine ofI (nbpair_ok hw) ?_
  repeat (first | with_reducible apply rtOfI | with_reducible apply bindFI | with_reducible apply bindI | with_reducible apply retI | with_reducible apply rtKI | with_reducible apply bindKI | with_reducible apply putI)
  refine roll_ok hd2 (by omega) (by decide) (by decide) fun r g3 r0 r1 hd3 => ?_
  have bd0 := hv.bd hw
  have bds := (hv.sb.mul hw.sb).mono (show 240 + 240 ≤ 4000 by decide)
  obtain ⟨p, hp⟩ := red_some (x := a * d + c * b) bd0 bds
  obtain ⟨t, ht⟩ := red_some (x := a * c) bd0 bds
  have hp2 : m_reduced (c * b + a * d, d * b, ()) = some p := by rw [Int.add_comm, Int.mul_comm d b]; exact hp
  repeat (first | with_reducible apply rtOfI | with_reducible apply bindFI | with_reducible apply bindI | with_reducible apply retI | with_reducible apply rtKI | with_reducible apply bindKI | with_reducible apply putI)
  refine ofI ((added_ok hv hw).trans hp) ?_
  repeat (first | with_reducible apply rtOfI | with_reducible apply bindFI | with_reducible apply bindI | with_reducible apply retI | with_reducible apply rtKI | with_reducible apply bindKI | with_reducible apply putI)
  refine ofI ((mult_ok hv hw).trans ht) ?_
  repeat (first | with_reducible apply rtOfI | with_reducible apply bindFI | with_reducible apply bindI | with_reducible apply retI | with_reducible apply rtKI | with_reducible apply bindKI | with_reducible apply putI)
  refine ofI ((added_ok hv.tup hw).trans hp) ?_
  repeat (first | with_reducible apply rtOfI | with_reducible apply bindFI | with_reducible apply bindI | with_reducible apply retI | with_reducible apply rtKI | with_reducible apply bindKI | with_reducible apply putI)
  refine ofI ((mult_ok hv hw.tup).trans ht) ?_
  repeat (first | with_reducible apply rtOfI | with_reducible apply bindFI | with_reducible apply bindI | with_reducible apply retI | with_reducible apply rtKI | with_reducible apply bindKI | with_reducible apply putI)
  refine ofI ((added_ok hw.tup hv.tup).trans hp2) ?_
  repeat (first | with_reducible apply rtOfI | with_reducible apply bindFI | with_reducible apply bindI | with_reducible apply retI | with_reducible apply rtKI | with_reducible apply bindKI | with_reducible apply putI)
  refine ofI (lenK_ok _ rfl) ?_
  repeat (first | with_reducible apply rtOfI | with_reducible apply bindFI | with_reducible apply bindI | with_reducible apply retI | with_reducible apply rtKI | with_reducible apply bindKI | with_reducible apply putI)
  refine ofI ((plus_ok hv hw).trans hp) ?_
  repeat (first | with_reducible apply rtOfI | with_reducible apply bindFI | with_reducible apply bindI | with_reducible apply retI | with_reducible apply rtKI | with_reducible apply bindKI | with_reducible apply putI)
  refine ofI ((times_ok hv hw).trans ht) ?_
  repeat (first | with_reducible apply rtOfI | with_reducible apply bindFI | with_reducible apply bindI | with_reducible apply retI | with_reducible apply rtKI | with_reducible apply bindKI | with_reducible apply putI)
  refine ofI (lenK_ok _ rfl) ?_
  repeat (first | with_reducible apply rtOfI | with_reducible apply bindFI | with_reducible apply bindI | with_reducible apply retI | with_reducible apply rtKI | with_reducible apply bindKI | with_reducible apply putI)
  refine ofI (catC_ok (by show 2 + 2 ≤ _; decide)) ?_
  repeat (first | with_reducible apply rtOfI | with_reducible apply bindFI | with_reducible apply bindI | with_reducible apply retI | with_reducible apply rtKI | with_reducible apply bindKI | with_reducible apply putI)
  have ec : cutL [p, t] none (some 1) = [p] := by
    unfold cutL HT.sIx
    simp
  rw [ec]
  refine ofI (catC_ok (by show 4 + 1 ≤ _; decide)) ?_
  repeat (first | with_reducible apply rtOfI | with_reducible apply bindFI | with_reducible apply bindI | with_reducible apply retI | with_reducible apply rtKI | with_reducible apply bindKI | with_reducible apply putI)
  refine ofI rfl ?_
  refine ifF (congrArg not (eqvLP _)) ?_
  repeat (first | with_reducible apply rtOfI | with_reducible apply bindFI | with_reducible apply bindI | with_reducible apply retI | with_reducible apply rtKI | with_reducible apply bindKI | with_reducible apply putI)
  refine ofI (num_ok hv) ?_
  repeat (first | with_reducible apply rtOfI | with_reducible apply bindFI | with_reducible apply bindI | with_reducible apply retI | with_reducible apply rtKI | with_reducible apply bindKI | with_reducible apply putI)
  refine ifF rfl ?_
  repeat (first | with_reducible apply rtOfI | with_reducible apply bindFI | with_reducible apply bindI | with_reducible apply retI | with_reducible apply rtKI | with_reducible apply bindKI | with_reducible apply putI)
  refine ofI (frac_tup hv.pos hv.gcd) ?_
  repeat (first | with_reducible apply rtOfI | with_reducible apply bindFI | with_reducible apply bindI | with_reducible apply retI | with_reducible apply rtKI | with_reducible apply bindKI | with_reducible apply putI)
  refine ifF rfl ?_
  repeat (first | with_reducible apply rtOfI | with_reducible apply bindFI | with_reducible apply bindI | with_reducible apply retI | with_reducible apply rtKI | with_reducible apply bindKI | with_reducible apply putI)
  refine ofI (frac_same hv) ?_
  repeat (first | with_reducible apply rtOfI | with_reducible apply bindFI | with_reducible apply bindI | with_reducible apply retI | with_reducible apply rtKI | with_reducible apply bindKI | with_reducible apply putI)
  refine ofI rfl ?_
  refine ifF (congrArg not (eqvB _)) ?_
  repeat (first | with_reducible apply rtOfI | with_reducible apply bindFI | with_reducible apply bindI | with_reducible apply retI | with_reducible apply rtKI | with_reducible apply bindKI | with_reducible apply putI)
  refine ofI (at20 c d) ?_
  repeat (first | with_reducible apply rtOfI | with_reducible apply bindFI | with_reducible apply bindI | with_reducible apply retI | with_reducible apply rtKI | with_reducible apply bindKI | with_reducible apply putI)
  refine ofI rfl ?_
  refine branchV (R := fun (o : PyData) g' => (c = 0 ∧ o = .none ∨ c ≠ 0 ∧ ∃ q, m_divided (v, w, ()) = some q ∧ o = (eP eI eI).enc q) ∧ DI (n + 11) g') (fun Q q => ?_) ?_
  · by_cases z : c = 0
    · refine ifF (by rw [decide_eq_true z]; rfl) ?_
      repeat (first | with_reducible apply rtOfI | with_reducible apply bindFI | with_reducible apply bindI | with_reducible apply retI | with_reducible apply rtKI | with_reducible apply bindKI | with_reducible apply putI)
      exact q _ _ ⟨.inl ⟨z, rfl⟩, hd3.mono (by omega)⟩
    · refine ifT (by rw [decide_eq_false z]; rfl) ?_
      have bc0 : b * c ≠ 0 := fun y => by
        rcases Int.mul_eq_zero.mp y with y | y
        · have := hv.pos
          omega
        · exact z y
      have bcs := hv.sb.mul hw.sa
      obtain ⟨o, ho⟩ := red_some (x := a * d) bc0 (bcs.mono (by decide))
      repeat (first | with_reducible apply rtOfI | with_reducible apply bindFI | with_reducible apply bindI | with_reducible apply retI | with_reducible apply rtKI | with_reducible apply bindKI | with_reducible apply putI)
      refine ofI (at20 a b) ?_
      repeat (first | with_reducible apply rtOfI | with_reducible apply bindFI | with_reducible apply bindI | with_reducible apply retI | with_reducible apply rtKI | with_reducible apply bindKI | with_reducible apply putI)
      refine ofI (at21 c d) ?_
      refine ofI (mul_sm hv.sa hw.sb (by decide)) ?_
      repeat (first | with_reducible apply rtOfI | with_reducible apply bindFI | with_reducible apply bindI | with_reducible apply retI | with_reducible apply rtKI | with_reducible apply bindKI | with_reducible apply putI)
      refine ofI (at21 a b) ?_
      repeat (first | with_reducible apply rtOfI | with_reducible apply bindFI | with_reducible apply bindI | with_reducible apply retI | with_reducible apply rtKI | with_reducible apply bindKI | with_reducible apply putI)
      refine ofI (at20 c d) ?_
      refine ofI (mul_sm hv.sb hw.sa (by decide)) ?_
      repeat (first | with_reducible apply rtOfI | with_reducible apply bindFI | with_reducible apply bindI | with_reducible apply retI | with_reducible apply rtKI | with_reducible apply bindKI | with_reducible apply putI)
      refine ofI ((fr_eq (bcs.mono (by decide))).trans ho) ?_
      repeat (first | with_reducible apply rtOfI | with_reducible apply bindFI | with_reducible apply bindI | with_reducible apply retI | with_reducible apply rtKI | with_reducible apply bindKI | with_reducible apply putI)
      exact q _ _ ⟨.inr ⟨z, o, (divided_ok hv hw z).trans ho, rfl⟩, hd3.mono (by omega)⟩
  · intro o g4 ⟨ho, hd4⟩
    repeat (first | with_reducible apply rtOfI | with_reducible apply bindFI | with_reducible apply bindI | with_reducible apply retI | with_reducible apply rtKI | with_reducible apply bindKI | with_reducible apply putI)
    refine branchV (R := fun (x : Bool) g' => x = false ∧ DI (n + 11) g') (fun Q q => ?_) ?_
    · rcases ho with ⟨_, e⟩ | ⟨_, u, e1, e2⟩
      · subst e
        refine ifF rfl ?_
        repeat (first | with_reducible apply rtOfI | with_reducible apply bindFI | with_reducible apply bindI | with_reducible apply retI | with_reducible apply rtKI | with_reducible apply bindKI | with_reducible apply putI)
        exact q _ _ ⟨rfl, hd4⟩
      · subst e2
        refine ifT rfl ?_
        repeat (first | with_reducible apply rtOfI | with_reducible apply bindFI | with_reducible apply bindI | with_reducible apply retI | with_reducible apply rtKI | with_reducible apply bindKI | with_reducible apply putI)
        refine ofI e1 ?_
        repeat (first | with_reducible apply rtOfI | with_reducible apply bindFI | with_reducible apply bindI | with_reducible apply retI | with_reducible apply rtKI | with_reducible apply bindKI | with_reducible apply putI)
        refine ofI (clean_pair u) ?_
        refine ofI (a := false) (by rw [eqC_pair]; rfl) ?_
        exact q _ _ ⟨rfl, hd4⟩
    · intro x g5 ⟨hx, hd5⟩
      subst hx
      refine ifF rfl ?_
      have kl : (r - 8).natAbs ≤ 8 := by omega
      repeat (first | with_reducible apply rtOfI | with_reducible apply bindFI | with_reducible apply bindI | with_reducible apply retI | with_reducible apply rtKI | with_reducible apply bindKI | with_reducible apply putI)
      refine ofI (nbpower_ok hv kl) ?_
      repeat (first | with_reducible apply rtOfI | with_reducible apply bindFI | with_reducible apply bindI | with_reducible apply retI | with_reducible apply rtKI | with_reducible apply bindKI | with_reducible apply putI)
      refine ofI rfl ?_
      refine branchV (R := fun (x : Bool) g' => x = false ∧ DI (n + 11) g') (fun Q q => ?_) ?_
      · by_cases z : 0 ≤ r - 8
        · refine ifT (decide_eq_true z) ?_
          have e : r - 8 = ((r - 8).natAbs : Int) := by omega
          repeat (first | with_reducible apply rtOfI | with_reducible apply bindFI | with_reducible apply bindI | with_reducible apply retI | with_reducible apply rtKI | with_reducible apply bindKI | with_reducible apply putI)
          refine ofI ((congrArg (fun y => m_power_of (v, y, ())) e).trans (power_pos hv kl)) ?_
          repeat (first | with_reducible apply rtOfI | with_reducible apply bindFI | with_reducible apply bindI | with_reducible apply retI | with_reducible apply rtKI | with_reducible apply bindKI | with_reducible apply putI)
          refine ofI rfl ?_
          exact q _ _ ⟨congrArg not (eqvP _), hd5⟩
        · refine ifF (decide_eq_false z) ?_
          repeat (first | with_reducible apply rtOfI | with_reducible apply bindFI | with_reducible apply bindI | with_reducible apply retI | with_reducible apply rtKI | with_reducible apply bindKI | with_reducible apply putI)
          exact q _ _ ⟨rfl, hd5⟩
      · intro x g6 ⟨hx, hd6⟩
        subst hx
        refine ifF rfl ?_
        repeat (first | with_reducible apply rtOfI | with_reducible apply bindFI | with_reducible apply bindI | with_reducible apply retI | with_reducible apply rtKI | with_reducible apply bindKI | with_reducible apply putI)
        refine ofI rfl ?_
        refine branchV (R := fun (x : Bool) g' => x = false ∧ DI (n + 11) g') (fun Q q => ?_) ?_
        · by_cases z : r - 8 < 0
          · refine ifT (decide_eq_true z) ?_
            repeat (first | with_reducible apply rtOfI | with_reducible apply bindFI | with_reducible apply bindI | with_reducible apply retI | with_reducible apply rtKI | with_reducible apply bindKI | with_reducible apply putI)
            refine ofI (at20 a b) ?_
            repeat (first | with_reducible apply rtOfI | with_reducible apply bindFI | with_reducible apply bindI | with_reducible apply retI | with_reducible apply rtKI | with_reducible apply bindKI | with_reducible apply putI)
            refine ofI rfl ?_
            by_cases y : a = 0
            · refine ifF (by rw [decide_eq_true y]; rfl) ?_
              repeat (first | with_reducible apply rtOfI | with_reducible apply bindFI | with_reducible apply bindI | with_reducible apply retI | with_reducible apply rtKI | with_reducible apply bindKI | with_reducible apply putI)
              exact q _ _ ⟨rfl, hd6⟩
            · refine ifT (by rw [decide_eq_false y]; rfl) ?_
              have e : r - 8 = -((r - 8).natAbs : Int) := by omega
              have l : 240 * (r - 8).natAbs ≤ 240 * 8 := Nat.mul_le_mul_left _ kl
              have ps := sm_pow hv.sa (by decide) (r - 8).natAbs
              obtain ⟨o, ho⟩ := red_some (x := b ^ (r - 8).natAbs) (pow_ne y (r - 8).natAbs) (ps.mono (by omega))
              repeat (first | with_reducible apply rtOfI | with_reducible apply bindFI | with_reducible apply bindI | with_reducible apply retI | with_reducible apply rtKI | with_reducible apply bindKI | with_reducible apply putI)
              refine ofI ((congrArg (fun y => m_power_of (v, y, ())) e).trans ((power_neg hv (by omega) kl y).trans ho)) ?_
              repeat (first | with_reducible apply rtOfI | with_reducible apply bindFI | with_reducible apply bindI | with_reducible apply retI | with_reducible apply rtKI | with_reducible apply bindKI | with_reducible apply putI)
              refine ofI (at21 _ _) ?_
              repeat (first | with_reducible apply rtOfI | with_reducible apply bindFI | with_reducible apply bindI | with_reducible apply retI | with_reducible apply rtKI | with_reducible apply bindKI | with_reducible apply putI)
              refine ofI (at20 _ _) ?_
              repeat (first | with_reducible apply rtOfI | with_reducible apply bindFI | with_reducible apply bindI | with_reducible apply retI | with_reducible apply rtKI | with_reducible apply bindKI | with_reducible apply putI)
              refine ofI ((fr_eq (ps.mono (by omega))).trans ho) ?_
              refine ofI rfl ?_
              exact q _ _ ⟨congrArg not (eqvP _), hd6⟩
          · refine ifF (decide_eq_false z) ?_
            repeat (first | with_reducible apply rtOfI | with_reducible apply bindFI | with_reducible apply bindI | with_reducible apply retI | with_reducible apply rtKI | with_reducible apply bindKI | with_reducible apply putI)
            exact q _ _ ⟨rfl, hd6⟩
        · intro x g7 ⟨hx, hd7⟩
          subst hx
          refine ifF rfl ?_
          repeat (first | with_reducible apply rtOfI | with_reducible apply bindFI | with_reducible apply bindI | with_reducible apply retI | with_reducible apply rtKI | with_reducible apply bindKI | with_reducible apply putI)
          refine roll_ok hd7 (by omega) (by decide) (by decide) fun u g8 u0 u1 hd8 => ?_
          repeat (first | with_reducible apply rtOfI | with_reducible apply bindFI | with_reducible apply bindI | with_reducible apply retI | with_reducible apply rtKI | with_reducible apply bindKI | with_reducible apply putI)
          refine ofI rfl ?_
          refine branchV (R := fun (x : Int) g' => (x ≠ 0 ∧ -50 < x ∧ x < 50) ∧ DI (n + 12) g') (fun Q q => ?_) ?_
          · by_cases z : u - 49 = 0
            · refine ifF (by rw [decide_eq_true z]; rfl) ?_
              repeat (first | with_reducible apply rtOfI | with_reducible apply bindFI | with_reducible apply bindI | with_reducible apply retI | with_reducible apply rtKI | with_reducible apply bindKI | with_reducible apply putI)
              exact q _ _ ⟨by decide, hd8.mono (by omega)⟩
            · refine ifT (by rw [decide_eq_false z]; rfl) ?_
              repeat (first | with_reducible apply rtOfI | with_reducible apply bindFI | with_reducible apply bindI | with_reducible apply retI | with_reducible apply rtKI | with_reducible apply bindKI | with_reducible apply putI)
              exact q _ _ ⟨⟨z, by omega, by omega⟩, hd8.mono (by omega)⟩
          · intro x g9 ⟨⟨x0, x1, x2⟩, hd9⟩
            have xs : Sm 240 x := sm240 (by omega) (by omega)
            obtain ⟨t1, t2⟩ := text_ok hv
            obtain ⟨t3, _⟩ := text_ok hv.tup
            obtain ⟨o1, o2⟩ := opp_ok hv
            repeat (first | with_reducible apply rtOfI | with_reducible apply bindFI | with_reducible apply bindI | with_reducible apply retI | with_reducible apply rtKI | with_reducible apply bindKI | with_reducible apply putI)
            refine ofI (at20 a b) ?_
            repeat (first | with_reducible apply rtOfI | with_reducible apply bindFI | with_reducible apply bindI | with_reducible apply retI | with_reducible apply rtKI | with_reducible apply bindKI | with_reducible apply putI)
            refine ofI (mul_sm hv.sa xs (by decide)) ?_
            repeat (first | with_reducible apply rtOfI | with_reducible apply bindFI | with_reducible apply bindI | with_reducible apply retI | with_reducible apply rtKI | with_reducible apply bindKI | with_reducible apply putI)
            refine ofI (at21 a b) ?_
            repeat (first | with_reducible apply rtOfI | with_reducible apply bindFI | with_reducible apply bindI | with_reducible apply retI | with_reducible apply rtKI | with_reducible apply bindKI | with_reducible apply putI)
            refine ofI (mul_sm hv.sb xs (by decide)) ?_
            repeat (first | with_reducible apply rtOfI | with_reducible apply bindFI | with_reducible apply bindI | with_reducible apply retI | with_reducible apply rtKI | with_reducible apply bindKI | with_reducible apply putI)
            refine ofI (same_mul hv.pos hv.gcd x0 xs hv.sa hv.sb) ?_
            repeat (first | with_reducible apply rtOfI | with_reducible apply bindFI | with_reducible apply bindI | with_reducible apply retI | with_reducible apply rtKI | with_reducible apply bindKI | with_reducible apply putI)
            refine ofI rfl ?_
            refine ifF (congrArg not (eqvP _)) ?_
            repeat (first | with_reducible apply rtOfI | with_reducible apply bindFI | with_reducible apply bindI | with_reducible apply retI | with_reducible apply rtKI | with_reducible apply bindKI | with_reducible apply putI)
            refine ofI t1 ?_
            repeat (first | with_reducible apply rtOfI | with_reducible apply bindFI | with_reducible apply bindI | with_reducible apply retI | with_reducible apply rtKI | with_reducible apply bindKI | with_reducible apply putI)
            refine ofI t2 ?_
            refine ofI rfl ?_
            refine ifF (by rw [dec_self]; rfl) ?_
            repeat (first | with_reducible apply rtOfI | with_reducible apply bindFI | with_reducible apply bindI | with_reducible apply retI | with_reducible apply rtKI | with_reducible apply bindKI | with_reducible apply putI)
            refine ofI t3 ?_
            repeat (first | with_reducible apply rtOfI | with_reducible apply bindFI | with_reducible apply bindI | with_reducible apply retI | with_reducible apply rtKI | with_reducible apply bindKI | with_reducible apply putI)
            refine ofI t2 ?_
            refine ofI rfl ?_
            refine ifT (dec_self _) ?_
            repeat (first | with_reducible apply rtOfI | with_reducible apply bindFI | with_reducible apply bindI | with_reducible apply retI | with_reducible apply rtKI | with_reducible apply bindKI | with_reducible apply putI)
            refine ofI o1 ?_
            repeat (first | with_reducible apply rtOfI | with_reducible apply bindFI | with_reducible apply bindI | with_reducible apply retI | with_reducible apply rtKI | with_reducible apply bindKI | with_reducible apply putI)
            refine ofI o2 ?_
            repeat (first | with_reducible apply rtOfI | with_reducible apply bindFI | with_reducible apply bindI | with_reducible apply retI | with_reducible apply rtKI | with_reducible apply bindKI | with_reducible apply putI)
            refine ofI rfl ?_
            repeat (first | with_reducible apply rtOfI | with_reducible apply bindFI | with_reducible apply bindI | with_reducible apply retI | with_reducible apply rtKI | with_reducible apply bindKI | with_reducible apply putI)
            rw [eqvP]
            exact k _ hd9
theorem binomial_any {n m : Nat} (hn : n ≤ 1000) (hm : m ≤ 1000) : m_binomial ((n : Int), (m : Int), ()) = some (ch n m : Int) := by
  by_cases z : m ≤ n
  · exact binomial_ok z hn
  · rw [binomial_over (by omega) hm, ch_over n m (by omega)]
    rfl
theorem counts_ok {n : Int} {g : Gh} {P : Bool → Gh → Prop} (h : DI n g) (hn : n ≤ 9000) (k : ∀ g', DI (n + 12) g' → P true g') : m_law_counts_right () g P := by
  unfold m_law_counts_right w_law_counts_right
  repeat (first | with_reducible apply rtOfI | with_reducible apply bindFI | with_reducible apply bindI | with_reducible apply retI | with_reducible apply rtKI | with_reducible apply bindKI | with_reducible apply putI)
  refine ofI (lenK_ok _ rfl) ?_
  repeat (first | with_reducible apply rtOfI | with_reducible apply bindFI | with_reducible apply bindI | with_reducible apply retI | with_reducible apply rtKI | with_reducible apply bindKI | with_reducible apply putI)
  refine pick_ok h (by omega) (by decide) (by decide) fun x g1 hx hd1 => ?_
  have hx : 1 ≤ x ∧ x ≤ 301 := by
    simp at hx
    omega
  repeat (first | with_reducible apply rtOfI | with_reducible apply bindFI | with_reducible apply bindI | with_reducible apply retI | with_reducible apply rtKI | with_reducible apply bindKI | with_reducible apply putI)
  refine roll_ok hd1 (by omega) (by omega) (by omega) fun t g2 t0 t1 hd2 => ?_
  obtain ⟨t, rfl⟩ := Int.eq_ofNat_of_zero_le t0
  repeat (first | with_reducible apply rtOfI | with_reducible apply bindFI | with_reducible apply bindI | with_reducible apply retI | with_reducible apply rtKI | with_reducible apply bindKI | with_reducible apply putI)
  refine ofI (lenK_ok _ rfl) ?_
  repeat (first | with_reducible apply rtOfI | with_reducible apply bindFI | with_reducible apply bindI | with_reducible apply retI | with_reducible apply rtKI | with_reducible apply bindKI | with_reducible apply putI)
  refine pick_ok hd2 (by omega) (by decide) (by decide) fun y g3 hy hd3 => ?_
  have hy : 1 ≤ y ∧ y ≤ 60 := by
    simp at hy
    omega
  repeat (first | with_reducible apply rtOfI | with_reducible apply bindFI | with_reducible apply bindI | with_reducible apply retI | with_reducible apply rtKI | with_reducible apply bindKI | with_reducible apply putI)
  refine roll_ok hd3 (by omega) (by omega) (by omega) fun m g4 m0 m1 hd4 => ?_
  obtain ⟨m, rfl⟩ := Int.eq_ofNat_of_zero_le m0
  have tl : t ≤ 300 := by omega
  have ml : m ≤ 59 := by omega
  repeat (first | with_reducible apply rtOfI | with_reducible apply bindFI | with_reducible apply bindI | with_reducible apply retI | with_reducible apply rtKI | with_reducible apply bindKI | with_reducible apply putI)
  refine ofI (factorial_ok (by omega)) ?_
  repeat (first | with_reducible apply rtOfI | with_reducible apply bindFI | with_reducible apply bindI | with_reducible apply retI | with_reducible apply rtKI | with_reducible apply bindKI | with_reducible apply putI)
  refine ofI (law_factorial_ok (by omega)) ?_
  refine ofI rfl ?_
  refine ifF (by rw [dec_self]; rfl) ?_
  repeat (first | with_reducible apply rtOfI | with_reducible apply bindFI | with_reducible apply bindI | with_reducible apply retI | with_reducible apply rtKI | with_reducible apply bindKI | with_reducible apply putI)
  refine ofI (binomial_any (n := t) (m := m) (by omega) (by omega)) ?_
  repeat (first | with_reducible apply rtOfI | with_reducible apply bindFI | with_reducible apply bindI | with_reducible apply retI | with_reducible apply rtKI | with_reducible apply bindKI | with_reducible apply putI)
  refine ofI rfl ?_
  refine branchV (R := fun (x : Int) g' => x = (ch t m : Int) ∧ DI (n + 4) g') (fun Q q => ?_) ?_
  · by_cases z : m ≤ t
    · refine ifT (decide_eq_true (show (m : Int) ≤ (t : Int) by omega)) ?_
      repeat (first | with_reducible apply rtOfI | with_reducible apply bindFI | with_reducible apply bindI | with_reducible apply retI | with_reducible apply rtKI | with_reducible apply bindKI | with_reducible apply putI)
      refine ofI (law_binomial_ok z (by omega)) ?_
      exact q _ _ ⟨rfl, hd4.mono (by omega)⟩
    · refine ifF (decide_eq_false (show ¬ (m : Int) ≤ (t : Int) by omega)) ?_
      repeat (first | with_reducible apply rtOfI | with_reducible apply bindFI | with_reducible apply bindI | with_reducible apply retI | with_reducible apply rtKI | with_reducible apply bindKI | with_reducible apply putI)
      exact q _ _ ⟨by rw [ch_over t m (by omega)]; rfl, hd4.mono (by omega)⟩
  · intro z g5 ⟨hz, hd5⟩
    subst hz
    refine ofI rfl ?_
    refine ifF (by rw [dec_self]; rfl) ?_
    repeat (first | with_reducible apply rtOfI | with_reducible apply bindFI | with_reducible apply bindI | with_reducible apply retI | with_reducible apply rtKI | with_reducible apply bindKI | with_reducible apply putI)
    refine ofI (a := 100000000000000000000000000000000000000000000000000) (by decide +kernel) ?_
    repeat (first | with_reducible apply rtOfI | with_reducible apply bindFI | with_reducible apply bindI | with_reducible apply retI | with_reducible apply rtKI | with_reducible apply bindKI | with_reducible apply putI)
    refine ofI (a := 100000000000000000000) (by decide +kernel) ?_
    repeat (first | with_reducible apply rtOfI | with_reducible apply bindFI | with_reducible apply bindI | with_reducible apply retI | with_reducible apply rtKI | with_reducible apply bindKI | with_reducible apply putI)
    refine ofI (lenK_ok _ rfl) ?_
    repeat (first | with_reducible apply rtOfI | with_reducible apply bindFI | with_reducible apply bindI | with_reducible apply retI | with_reducible apply rtKI | with_reducible apply bindKI | with_reducible apply putI)
    refine pick_ok hd5 (by omega) (Nat.succ_pos _) (by show 4 < 1000000; decide) fun w g6 hw hd6 => ?_
    have hw : -(10 ^ 52) < w ∧ w < 10 ^ 52 := by
      simp at hw
      omega
    have ws : Sm 200 w := by
      show w.natAbs < 2 ^ 200
      omega
    have f1 := falling_full (t := w) (m := m) ws (by decide) (by decide) (by omega) (by omega) (by omega)
    have f2 := (falling_ok (t := w) (m := m) ws (by decide) (by decide) (by omega)).2
    have f3 := falling_full (t := (m : Int)) (m := m) (nat_sm (by omega)) (by decide) (by decide) (by omega) (by omega) (by omega)
    have f4 := pr_fac m 0
    rw [Int.zero_add] at f4
    rw [f4] at f3
    have f5 := falling_full (t := (t : Int)) (m := m) (nat_sm (by omega)) (by decide) (by decide) (by omega) (by omega) (by omega)
    rw [pr_ch] at f5
    have f6 := falling_full (t := (t : Int)) (m := 0) (nat_sm (by omega)) (by decide) (by decide) (by omega) (by omega) (by omega)
    repeat (first | with_reducible apply rtOfI | with_reducible apply bindFI | with_reducible apply bindI | with_reducible apply retI | with_reducible apply rtKI | with_reducible apply bindKI | with_reducible apply putI)
    refine ofI f1 ?_
    repeat (first | with_reducible apply rtOfI | with_reducible apply bindFI | with_reducible apply bindI | with_reducible apply retI | with_reducible apply rtKI | with_reducible apply bindKI | with_reducible apply putI)
    refine ofI f2 ?_
    refine ofI rfl ?_
    refine ifF (by rw [dec_self]; rfl) ?_
    repeat (first | with_reducible apply rtOfI | with_reducible apply bindFI | with_reducible apply bindI | with_reducible apply retI | with_reducible apply rtKI | with_reducible apply bindKI | with_reducible apply putI)
    refine ofI f3 ?_
    repeat (first | with_reducible apply rtOfI | with_reducible apply bindFI | with_reducible apply bindI | with_reducible apply retI | with_reducible apply rtKI | with_reducible apply bindKI | with_reducible apply putI)
    refine ofI (factorial_ok (by omega)) ?_
    refine ofI rfl ?_
    refine ifF (by rw [dec_self]; rfl) ?_
    repeat (first | with_reducible apply rtOfI | with_reducible apply bindFI | with_reducible apply bindI | with_reducible apply retI | with_reducible apply rtKI | with_reducible apply bindKI | with_reducible apply putI)
    refine ofI f5 ?_
    repeat (first | with_reducible apply rtOfI | with_reducible apply bindFI | with_reducible apply bindI | with_reducible apply retI | with_reducible apply rtKI | with_reducible apply bindKI | with_reducible apply putI)
    refine ofI (binomial_any (n := t) (m := m) (by omega) (by omega)) ?_
    repeat (first | with_reducible apply rtOfI | with_reducible apply bindFI | with_reducible apply bindI | with_reducible apply retI | with_reducible apply rtKI | with_reducible apply bindKI | with_reducible apply putI)
    refine ofI (factorial_ok (by omega)) ?_
    refine ofI (mul_sm (sm_ch t m) (sm_fac m (by omega)) (by omega)) ?_
    refine ofI rfl ?_
    refine ifT (dec_self _) ?_
    repeat (first | with_reducible apply rtOfI | with_reducible apply bindFI | with_reducible apply bindI | with_reducible apply retI | with_reducible apply rtKI | with_reducible apply bindKI | with_reducible apply putI)
    refine ofI f6 ?_
    refine ofI (a := true) (congrArg some (decide_eq_true rfl)) ?_
    repeat (first | with_reducible apply rtOfI | with_reducible apply bindFI | with_reducible apply bindI | with_reducible apply retI | with_reducible apply rtKI | with_reducible apply bindKI | with_reducible apply putI)
    exact k _ (hd6.mono (by omega))
theorem judged_ok {g : Gh} {P : Bool → Gh → Prop} (k : P true g) : m_law_judged_right () g P := by
  have e : o_law_judged_right () = some (Fl.rt true) := by kernel_rfl
  unfold m_law_judged_right
  rw [so_law_judged_right, e]
  exact ⟨_, rfl, k⟩
end K

set_option maxRecDepth 100000
set_option maxHeartbeats 4000000
/-! C7: the law. -/
namespace K
open PySem L2 Rt

theorem law_holds (ns : List Int) (_ : ns.length ≤ 63) : m_law (ns, ()) [] (fun b _ => b = true) := by
  unfold m_law w_law
  have hr : ∃ k : Int, 0 ≤ k ∧ k ≤ 4 ∧ (if (if (ns.length : Int) < 4 then (ns.length : Int) else 4) > 1 then (if (ns.length : Int) < 4 then (ns.length : Int) else 4) else 1) = k := ⟨_, by split <;> (try split) <;> omega, by split <;> (try split) <;> omega, rfl⟩
  obtain ⟨k, k0, k5, ek⟩ := hr
  repeat (first | with_reducible apply rtOfI | with_reducible apply bindFI | with_reducible apply bindI | with_reducible apply retI | with_reducible apply rtKI | with_reducible apply bindKI | with_reducible apply putI)
  refine ofI (a := irange 0 k) ?_ ?_
  · refine .trans (congrArg (rngC 0) ek) ?_
    exact rng_ok (by omega) (by omega) (by omega) (by omega)
  repeat (first | with_reducible apply rtOfI | with_reducible apply bindFI | with_reducible apply bindI | with_reducible apply retI | with_reducible apply rtKI | with_reducible apply bindKI | with_reducible apply putI)
  refine forL_all _ _ _ (fun x hx g P hP => ?_) fun g => ?_
  · obtain ⟨x0, x1⟩ := mem_irange.mp hx
    obtain ⟨g0, e0, d0⟩ := dice_ok ns x (by omega) (by omega)
    repeat (first | with_reducible apply rtOfI | with_reducible apply bindFI | with_reducible apply bindI | with_reducible apply retI | with_reducible apply rtKI | with_reducible apply bindKI | with_reducible apply putI)
    refine ofI e0 ?_
    repeat (first | with_reducible apply rtOfI | with_reducible apply bindFI | with_reducible apply bindI | with_reducible apply retI | with_reducible apply rtKI | with_reducible apply bindKI | with_reducible apply putI)
    refine ofI (a := irange 0 3) (by decide +kernel) ?_
    repeat (first | with_reducible apply rtOfI | with_reducible apply bindFI | with_reducible apply bindI | with_reducible apply retI | with_reducible apply rtKI | with_reducible apply bindKI | with_reducible apply putI)
    refine forL_inv (I := fun i _ g => DI (0 + 24 * i) g) _ 0 _ _ _ ?A (d0.mono (by omega)) ?C
    case A =>
      intro j y u g1 P2 hj hy hd1 kk
      have hj : j < 3 := by
        rw [irange_length] at hj
        omega
      repeat (first | with_reducible apply rtOfI | with_reducible apply bindFI | with_reducible apply bindI | with_reducible apply retI | with_reducible apply rtKI | with_reducible apply bindKI | with_reducible apply putI)
      refine sums_ok hd1 (by omega) fun g2 hd2 => ?_
      repeat (first | with_reducible apply rtOfI | with_reducible apply bindFI | with_reducible apply bindI | with_reducible apply retI | with_reducible apply rtKI | with_reducible apply bindKI | with_reducible apply putI)
      refine ifF rfl ?_
      repeat (first | with_reducible apply rtOfI | with_reducible apply bindFI | with_reducible apply bindI | with_reducible apply retI | with_reducible apply rtKI | with_reducible apply bindKI | with_reducible apply putI)
      refine counts_ok hd2 (by omega) fun g3 hd3 => ?_
      repeat (first | with_reducible apply rtOfI | with_reducible apply bindFI | with_reducible apply bindI | with_reducible apply retI | with_reducible apply rtKI | with_reducible apply bindKI | with_reducible apply putI)
      refine ifF rfl ?_
      repeat (first | with_reducible apply rtOfI | with_reducible apply bindFI | with_reducible apply bindI | with_reducible apply retI | with_reducible apply rtKI | with_reducible apply bindKI | with_reducible apply putI)
      exact kk _ _ (hd3.mono (by omega))
    case C =>
      intro u g1 hd1
      repeat (first | with_reducible apply rtOfI | with_reducible apply bindFI | with_reducible apply bindI | with_reducible apply retI | with_reducible apply rtKI | with_reducible apply bindKI | with_reducible apply putI)
      refine judged_ok ?_
      repeat (first | with_reducible apply rtOfI | with_reducible apply bindFI | with_reducible apply bindI | with_reducible apply retI | with_reducible apply rtKI | with_reducible apply bindKI | with_reducible apply putI)
      refine ifF rfl ?_
      repeat (first | with_reducible apply rtOfI | with_reducible apply bindFI | with_reducible apply bindI | with_reducible apply retI | with_reducible apply rtKI | with_reducible apply bindKI | with_reducible apply putI)
      exact hP g1
  · repeat (first | with_reducible apply rtOfI | with_reducible apply bindFI | with_reducible apply bindI | with_reducible apply retI | with_reducible apply rtKI | with_reducible apply bindKI | with_reducible apply putI)
    refine ofI (a := (-3, 2)) (by kernel_rfl) ?_
    repeat (first | with_reducible apply rtOfI | with_reducible apply bindFI | with_reducible apply bindI | with_reducible apply retI | with_reducible apply rtKI | with_reducible apply bindKI | with_reducible apply putI)
    refine ofI (a := (5, 6)) (by kernel_rfl) ?_
    repeat (first | with_reducible apply rtOfI | with_reducible apply bindFI | with_reducible apply bindI | with_reducible apply retI | with_reducible apply rtKI | with_reducible apply bindKI | with_reducible apply putI)
    refine ofI (a := (3, 2)) (by kernel_rfl) ?_
    repeat (first | with_reducible apply rtOfI | with_reducible apply bindFI | with_reducible apply bindI | with_reducible apply retI | with_reducible apply rtKI | with_reducible apply bindKI | with_reducible apply putI)
    refine ofI (a := (-1, 6)) (by kernel_rfl) ?_
    repeat (first | with_reducible apply rtOfI | with_reducible apply bindFI | with_reducible apply bindI | with_reducible apply retI | with_reducible apply rtKI | with_reducible apply bindKI | with_reducible apply putI)
    refine ofI (a := (1, 1)) (by kernel_rfl) ?_
    repeat (first | with_reducible apply rtOfI | with_reducible apply bindFI | with_reducible apply bindI | with_reducible apply retI | with_reducible apply rtKI | with_reducible apply bindKI | with_reducible apply putI)
    refine ofI (lenK_ok _ rfl) ?_
    repeat (first | with_reducible apply rtOfI | with_reducible apply bindFI | with_reducible apply bindI | with_reducible apply retI | with_reducible apply rtKI | with_reducible apply bindKI | with_reducible apply putI)
    refine ofI (a := .list [.tuple [.int (-3), .int 2], .tuple [.int 5, .int 6], .tuple [.int 3, .int 2], .tuple [.int (-1), .int 6], .tuple [.int 1, .int 1]]) (by kernel_rfl) ?_
    repeat (first | with_reducible apply rtOfI | with_reducible apply bindFI | with_reducible apply bindI | with_reducible apply retI | with_reducible apply rtKI | with_reducible apply bindKI | with_reducible apply putI)
    refine ofI (lenK_ok _ rfl) ?_
    repeat (first | with_reducible apply rtOfI | with_reducible apply bindFI | with_reducible apply bindI | with_reducible apply retI | with_reducible apply rtKI | with_reducible apply bindKI | with_reducible apply putI)
    refine ofI (a := false) (by kernel_rfl) ?_
    refine ifF rfl ?_
    repeat (first | with_reducible apply rtOfI | with_reducible apply bindFI | with_reducible apply bindI | with_reducible apply retI | with_reducible apply rtKI | with_reducible apply bindKI | with_reducible apply putI)
    refine ofI (a := (-27, 8)) (by kernel_rfl) ?_
    repeat (first | with_reducible apply rtOfI | with_reducible apply bindFI | with_reducible apply bindI | with_reducible apply retI | with_reducible apply rtKI | with_reducible apply bindKI | with_reducible apply putI)
    refine ofI (a := (1, 1)) (by kernel_rfl) ?_
    repeat (first | with_reducible apply rtOfI | with_reducible apply bindFI | with_reducible apply bindI | with_reducible apply retI | with_reducible apply rtKI | with_reducible apply bindKI | with_reducible apply putI)
    refine ofI (a := (1, 1)) (by kernel_rfl) ?_
    repeat (first | with_reducible apply rtOfI | with_reducible apply bindFI | with_reducible apply bindI | with_reducible apply retI | with_reducible apply rtKI | with_reducible apply bindKI | with_reducible apply putI)
    refine ofI (lenK_ok _ rfl) ?_
    repeat (first | with_reducible apply rtOfI | with_reducible apply bindFI | with_reducible apply bindI | with_reducible apply retI | with_reducible apply rtKI | with_reducible apply bindKI | with_reducible apply putI)
    refine ofI (lenK_ok _ rfl) ?_
    refine ofI (a := false) (by kernel_rfl) ?_
    refine ifF rfl ?_
    repeat (first | with_reducible apply rtOfI | with_reducible apply bindFI | with_reducible apply bindI | with_reducible apply retI | with_reducible apply rtKI | with_reducible apply bindKI | with_reducible apply putI)
    refine ofI (a := 120) (by kernel_rfl) ?_
    repeat (first | with_reducible apply rtOfI | with_reducible apply bindFI | with_reducible apply bindI | with_reducible apply retI | with_reducible apply rtKI | with_reducible apply bindKI | with_reducible apply putI)
    refine ofI (a := 15) (by kernel_rfl) ?_
    repeat (first | with_reducible apply rtOfI | with_reducible apply bindFI | with_reducible apply bindI | with_reducible apply retI | with_reducible apply rtKI | with_reducible apply bindKI | with_reducible apply putI)
    refine ofI (a := 0) (by kernel_rfl) ?_
    repeat (first | with_reducible apply rtOfI | with_reducible apply bindFI | with_reducible apply bindI | with_reducible apply retI | with_reducible apply rtKI | with_reducible apply bindKI | with_reducible apply putI)
    refine ofI (a := 20) (by kernel_rfl) ?_
    repeat (first | with_reducible apply rtOfI | with_reducible apply bindFI | with_reducible apply bindI | with_reducible apply retI | with_reducible apply rtKI | with_reducible apply bindKI | with_reducible apply putI)
    refine ofI (a := 12) (by kernel_rfl) ?_
    repeat (first | with_reducible apply rtOfI | with_reducible apply bindFI | with_reducible apply bindI | with_reducible apply retI | with_reducible apply rtKI | with_reducible apply bindKI | with_reducible apply putI)
    refine ofI (a := 0) (by kernel_rfl) ?_
    repeat (first | with_reducible apply rtOfI | with_reducible apply bindFI | with_reducible apply bindI | with_reducible apply retI | with_reducible apply rtKI | with_reducible apply bindKI | with_reducible apply putI)
    refine ofI (a := Str.ofString "-3/2") (by decide +kernel) ?_
    repeat (first | with_reducible apply rtOfI | with_reducible apply bindFI | with_reducible apply bindI | with_reducible apply retI | with_reducible apply rtKI | with_reducible apply bindKI | with_reducible apply putI)
    refine ofI (lenK_ok _ rfl) ?_
    repeat (first | with_reducible apply rtOfI | with_reducible apply bindFI | with_reducible apply bindI | with_reducible apply retI | with_reducible apply rtKI | with_reducible apply bindKI | with_reducible apply putI)
    refine ofI (a := Str.ofString "4") (by decide +kernel) ?_
    repeat (first | with_reducible apply rtOfI | with_reducible apply bindFI | with_reducible apply bindI | with_reducible apply retI | with_reducible apply rtKI | with_reducible apply bindKI | with_reducible apply putI)
    refine ofI (a := Str.ofString "-7") (by decide +kernel) ?_
    repeat (first | with_reducible apply rtOfI | with_reducible apply bindFI | with_reducible apply bindI | with_reducible apply retI | with_reducible apply rtKI | with_reducible apply bindKI | with_reducible apply putI)
    refine ofI (lenK_ok _ rfl) ?_
    repeat (first | with_reducible apply rtOfI | with_reducible apply bindFI | with_reducible apply bindI | with_reducible apply retI | with_reducible apply rtKI | with_reducible apply bindKI | with_reducible apply putI)
    refine ofI (catC_ok (by show 7 + 2 ≤ _; decide)) ?_
    repeat (first | with_reducible apply rtOfI | with_reducible apply bindFI | with_reducible apply bindI | with_reducible apply retI | with_reducible apply rtKI | with_reducible apply bindKI | with_reducible apply putI)
    refine ofI (a := .list [.int 120, .int 15, .int 0, .int 20, .int 12, .int 0, .str "-3/2", .str "4", .str "-7"]) (by kernel_rfl) ?_
    repeat (first | with_reducible apply rtOfI | with_reducible apply bindFI | with_reducible apply bindI | with_reducible apply retI | with_reducible apply rtKI | with_reducible apply bindKI | with_reducible apply putI)
    refine ofI (lenK_ok _ rfl) ?_
    repeat (first | with_reducible apply rtOfI | with_reducible apply bindFI | with_reducible apply bindI | with_reducible apply retI | with_reducible apply rtKI | with_reducible apply bindKI | with_reducible apply putI)
    refine ofI (a := .list [.int 120, .int 15, .int 0, .int 20, .int 12, .int 0, .str "-3/2", .str "4", .str "-7"]) (by kernel_rfl) ?_
    refine ofI (a := true) (by kernel_rfl) ?_
    repeat (first | with_reducible apply rtOfI | with_reducible apply bindFI | with_reducible apply bindI | with_reducible apply retI | with_reducible apply rtKI | with_reducible apply bindKI | with_reducible apply putI)
    rfl
end K

open PySem PySem.W PyProof.Rows
set_option maxHeartbeats 0 in
theorem PySem.Challenge.cw_swapsheets_k01_whole_numbers_reckoned_holds : PySem.Challenge.rw_swapsheets_k01_whole_numbers_reckoned.Holds := by
  w_on; o_law; k_head; (case hw => w_witness2)
  k_fill
  refine Rt.walk_ofX (π := fun A => A.guards = some []) (l := PySem.Challenge.rw_swapsheets_k01_whole_numbers_reckoned) (n := 63) (k := 7) (x := "_law_script") (CX := fun _ => L2.CX0) (sp := fun w => Rt.SpW (Rt.pC (Rt.qX _) Rt.p0).ra Rt.qB K.m_law) rfl rfl (by decide) rfl ⟨rfl, by decide, by decide⟩ (fun w h Y => PySem.W.kIn_of Y) ?F (fun _ H a ns hl _ hS => Rt.law_end K.law_holds H a ns hl hS) (fun _ _ _ _ _ h => h)
  case F =>
    intro w mg fa h KX G hmg XX
    refine' K.all_mk KX G hmg XX ?a_law_dice ?d_law_dice ?a_law_roll ?d_law_roll ?a_law_pick ?d_law_pick ?a_law_gcd ?d_law_gcd ?a_law_fraction ?d_law_fraction ?a_law_nb_drawn ?d_law_nb_drawn ?a_law_nb_pair ?d_law_nb_pair ?a_is_whole ?d_is_whole ?a_is_fraction ?d_is_fraction ?a_is_number ?d_is_number ?a_check_number ?d_check_number ?a_pair_of ?d_pair_of ?a_reduced ?d_reduced ?a_sum_of ?d_sum_of ?a_added ?d_added ?a_product_of ?d_product_of ?a_multiplied ?d_multiplied ?a_law_plus ?d_law_plus ?a_law_times ?d_law_times ?a_divided ?d_divided ?a_law_power ?d_law_power ?a_law_nb_power ?d_law_nb_power ?a_is_integer ?d_is_integer ?a_is_count ?d_is_count ?a_check_count ?d_check_count ?a_whole_power ?d_whole_power ?a_power_of ?d_power_of ?a_fraction ?d_fraction ?a_pair_text ?d_pair_text ?a_number_text ?d_number_text ?a_law_text ?d_law_text ?a_law_sums_right ?d_law_sums_right ?a_falling_product ?d_falling_product ?a_factorial ?d_factorial ?a_law_factorial ?d_law_factorial ?a_binomial ?d_binomial ?a_law_binomial ?d_law_binomial ?a_check_integer ?d_check_integer ?a_falling ?d_falling ?a_law_falling ?d_law_falling ?a_law_counts_right ?d_law_counts_right ?a_is_name ?d_is_name ?a_law_judged_right ?d_law_judged_right ?a_law ?d_law ?z_abs ?z_all ?z_bool ?z_int ?z_isinstance ?z_len ?z_max ?z_min ?z_range ?z_str ?z_tuple ?i_MAX_CHOSEN ?i_MAX_NAME ?i_MAX_RAISED ?i_g_FIRST_TOO_LONG ?mm_comb ?mm_gcd
    (case a_law_dice => k_is)
    (case d_law_dice => refine' ⟨_, L2.fun_mk (st := K.slaw_dice) ?l ?c ?k⟩; (case l => k_is); (case c => k_is); (case k => k_is))
    (case a_law_roll => k_is)
    (case d_law_roll => refine' ⟨_, L2.fun_mk (st := K.slaw_roll) ?l ?c ?k⟩; (case l => k_is); (case c => k_is); (case k => k_is))
    (case a_law_pick => k_is)
    (case d_law_pick => refine' ⟨_, L2.fun_mk (st := K.slaw_pick) ?l ?c ?k⟩; (case l => k_is); (case c => k_is); (case k => k_is))
    (case a_law_gcd => k_is)
    (case d_law_gcd => refine' ⟨_, L2.fun_mk (st := K.slaw_gcd) ?l ?c ?k⟩; (case l => k_is); (case c => k_is); (case k => k_is))
    (case a_law_fraction => k_is)
    (case d_law_fraction => refine' ⟨_, L2.fun_mk (st := K.slaw_fraction) ?l ?c ?k⟩; (case l => k_is); (case c => k_is); (case k => k_is))
    (case a_law_nb_drawn => k_is)
    (case d_law_nb_drawn => refine' ⟨_, L2.fun_mk (st := K.slaw_nb_drawn) ?l ?c ?k⟩; (case l => k_is); (case c => k_is); (case k => k_is))
    (case a_law_nb_pair => k_is)
    (case d_law_nb_pair => refine' ⟨_, L2.fun_mk (st := K.slaw_nb_pair) ?l ?c ?k⟩; (case l => k_is); (case c => k_is); (case k => k_is))
    (case a_is_whole => k_is)
    (case d_is_whole => refine' ⟨_, L2.fun_mk (st := K.sis_whole) ?l ?c ?k⟩; (case l => k_is); (case c => k_is); (case k => k_is))
    (case a_is_fraction => k_is)
    (case d_is_fraction => refine' ⟨_, L2.fun_mk (st := K.sis_fraction) ?l ?c ?k⟩; (case l => k_is); (case c => k_is); (case k => k_is))
    (case a_is_number => k_is)
    (case d_is_number => refine' ⟨_, L2.fun_mk (st := K.sis_number) ?l ?c ?k⟩; (case l => k_is); (case c => k_is); (case k => k_is))
    (case a_check_number => k_is)
    (case d_check_number => refine' ⟨_, L2.fun_mk (st := K.scheck_number) ?l ?c ?k⟩; (case l => k_is); (case c => k_is); (case k => k_is))
    (case a_pair_of => k_is)
    (case d_pair_of => refine' ⟨_, L2.fun_mk (st := K.spair_of) ?l ?c ?k⟩; (case l => k_is); (case c => k_is); (case k => k_is))
    (case a_reduced => k_is)
    (case d_reduced => refine' ⟨_, L2.fun_mk (st := K.sreduced) ?l ?c ?k⟩; (case l => k_is); (case c => k_is); (case k => k_is))
    (case a_sum_of => k_is)
    (case d_sum_of => refine' ⟨_, L2.fun_mk (st := K.ssum_of) ?l ?c ?k⟩; (case l => k_is); (case c => k_is); (case k => k_is))
    (case a_added => k_is)
    (case d_added => refine' ⟨_, L2.fun_mk (st := K.sadded) ?l ?c ?k⟩; (case l => k_is); (case c => k_is); (case k => k_is))
    (case a_product_of => k_is)
    (case d_product_of => refine' ⟨_, L2.fun_mk (st := K.sproduct_of) ?l ?c ?k⟩; (case l => k_is); (case c => k_is); (case k => k_is))
    (case a_multiplied => k_is)
    (case d_multiplied => refine' ⟨_, L2.fun_mk (st := K.smultiplied) ?l ?c ?k⟩; (case l => k_is); (case c => k_is); (case k => k_is))
    (case a_law_plus => k_is)
    (case d_law_plus => refine' ⟨_, L2.fun_mk (st := K.slaw_plus) ?l ?c ?k⟩; (case l => k_is); (case c => k_is); (case k => k_is))
    (case a_law_times => k_is)
    (case d_law_times => refine' ⟨_, L2.fun_mk (st := K.slaw_times) ?l ?c ?k⟩; (case l => k_is); (case c => k_is); (case k => k_is))
    (case a_divided => k_is)
    (case d_divided => refine' ⟨_, L2.fun_mk (st := K.sdivided) ?l ?c ?k⟩; (case l => k_is); (case c => k_is); (case k => k_is))
    (case a_law_power => k_is)
    (case d_law_power => refine' ⟨_, L2.fun_mk (st := K.slaw_power) ?l ?c ?k⟩; (case l => k_is); (case c => k_is); (case k => k_is))
    (case a_law_nb_power => k_is)
    (case d_law_nb_power => refine' ⟨_, L2.fun_mk (st := K.slaw_nb_power) ?l ?c ?k⟩; (case l => k_is); (case c => k_is); (case k => k_is))
    (case a_is_integer => k_is)
    (case d_is_integer => refine' ⟨_, L2.fun_mk (st := K.sis_integer) ?l ?c ?k⟩; (case l => k_is); (case c => k_is); (case k => k_is))
    (case a_is_count => k_is)
    (case d_is_count => refine' ⟨_, L2.fun_mk (st := K.sis_count) ?l ?c ?k⟩; (case l => k_is); (case c => k_is); (case k => k_is))
    (case a_check_count => k_is)
    (case d_check_count => refine' ⟨_, L2.fun_mk (st := K.scheck_count) ?l ?c ?k⟩; (case l => k_is); (case c => k_is); (case k => k_is))
    (case a_whole_power => k_is)
    (case d_whole_power => refine' ⟨_, L2.fun_mk (st := K.swhole_power) ?l ?c ?k⟩; (case l => k_is); (case c => k_is); (case k => k_is))
    (case a_power_of => k_is)
    (case d_power_of => refine' ⟨_, L2.fun_mk (st := K.spower_of) ?l ?c ?k⟩; (case l => k_is); (case c => k_is); (case k => k_is))
    (case a_fraction => k_is)
    (case d_fraction => refine' ⟨_, L2.fun_mk (st := K.sfraction) ?l ?c ?k⟩; (case l => k_is); (case c => k_is); (case k => k_is))
    (case a_pair_text => k_is)
    (case d_pair_text => refine' ⟨_, L2.fun_mk (st := K.spair_text) ?l ?c ?k⟩; (case l => k_is); (case c => k_is); (case k => k_is))
    (case a_number_text => k_is)
    (case d_number_text => refine' ⟨_, L2.fun_mk (st := K.snumber_text) ?l ?c ?k⟩; (case l => k_is); (case c => k_is); (case k => k_is))
    (case a_law_text => k_is)
    (case d_law_text => refine' ⟨_, L2.fun_mk (st := K.slaw_text) ?l ?c ?k⟩; (case l => k_is); (case c => k_is); (case k => k_is))
    (case a_law_sums_right => k_is)
    (case d_law_sums_right => refine' ⟨_, L2.fun_mk (st := K.slaw_sums_right) ?l ?c ?k⟩; (case l => k_is); (case c => k_is); (case k => k_is))
    (case a_falling_product => k_is)
    (case d_falling_product => refine' ⟨_, L2.fun_mk (st := K.sfalling_product) ?l ?c ?k⟩; (case l => k_is); (case c => k_is); (case k => k_is))
    (case a_factorial => k_is)
    (case d_factorial => refine' ⟨_, L2.fun_mk (st := K.sfactorial) ?l ?c ?k⟩; (case l => k_is); (case c => k_is); (case k => k_is))
    (case a_law_factorial => k_is)
    (case d_law_factorial => refine' ⟨_, L2.fun_mk (st := K.slaw_factorial) ?l ?c ?k⟩; (case l => k_is); (case c => k_is); (case k => k_is))
    (case a_binomial => k_is)
    (case d_binomial => refine' ⟨_, L2.fun_mk (st := K.sbinomial) ?l ?c ?k⟩; (case l => k_is); (case c => k_is); (case k => k_is))
    (case a_law_binomial => k_is)
    (case d_law_binomial => refine' ⟨_, L2.fun_mk (st := K.slaw_binomial) ?l ?c ?k⟩; (case l => k_is); (case c => k_is); (case k => k_is))
    (case a_check_integer => k_is)
    (case d_check_integer => refine' ⟨_, L2.fun_mk (st := K.scheck_integer) ?l ?c ?k⟩; (case l => k_is); (case c => k_is); (case k => k_is))
    (case a_falling => k_is)
    (case d_falling => refine' ⟨_, L2.fun_mk (st := K.sfalling) ?l ?c ?k⟩; (case l => k_is); (case c => k_is); (case k => k_is))
    (case a_law_falling => k_is)
    (case d_law_falling => refine' ⟨_, L2.fun_mk (st := K.slaw_falling) ?l ?c ?k⟩; (case l => k_is); (case c => k_is); (case k => k_is))
    (case a_law_counts_right => k_is)
    (case d_law_counts_right => refine' ⟨_, L2.fun_mk (st := K.slaw_counts_right) ?l ?c ?k⟩; (case l => k_is); (case c => k_is); (case k => k_is))
    (case a_is_name => k_is)
    (case d_is_name => refine' ⟨_, L2.fun_mk (st := K.sis_name) ?l ?c ?k⟩; (case l => k_is); (case c => k_is); (case k => k_is))
    (case a_law_judged_right => k_is)
    (case d_law_judged_right => refine' ⟨_, L2.fun_mk (st := K.slaw_judged_right) ?l ?c ?k⟩; (case l => k_is); (case c => k_is); (case k => k_is))
    (case a_law => k_is)
    (case d_law => refine' ⟨_, L2.fun_mk (st := K.slaw) ?l ?c ?k⟩; (case l => k_is); (case c => k_is); (case k => k_is))
    (case z_abs => k_is)
    (case z_all => k_is)
    (case z_bool => k_is)
    (case z_int => k_is)
    (case z_isinstance => k_is)
    (case z_len => k_is)
    (case z_max => k_is)
    (case z_min => k_is)
    (case z_range => k_is)
    (case z_str => k_is)
    (case z_tuple => k_is)
    (case i_MAX_CHOSEN => k_is)
    (case i_MAX_NAME => k_is)
    (case i_MAX_RAISED => k_is)
    (case i_g_FIRST_TOO_LONG => simp)
    (case mm_comb => k_is)
    (case mm_gcd => k_is)

